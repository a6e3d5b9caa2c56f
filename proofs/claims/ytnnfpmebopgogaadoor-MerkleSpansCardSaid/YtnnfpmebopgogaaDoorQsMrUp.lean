/- Joined texts. -/
import Derived.Test.YtnnfpmebopgogaaDoorQsMrBes
import Derived.Test.YtnnfpmebopgogaaDoorQsMrClimb
set_option linter.unusedVariables false
namespace Go.Proofs.YtnnfpmebopgogaaDoor.Mk
open Go.RowKit Go.Proofs.YtnnfpmebopgogaaDoor.Gn Go.Proofs.YtnnfpmebopgogaaDoor.Fd Go.Deep
abbrev Fus(S Q L D:Nat):Value:=.func (.func 77) #[] #[.pointer (some ⟨S,0,none⟩),.pointer (some ⟨Q,0,none⟩),.pointer (some ⟨L,0,none⟩),.pointer (some ⟨D,0,none⟩)]
structure UpS (b1:Nat) (w:World) (S Q L D f t:Nat) (BL:Option Addr) (ml cl:Nat) (R:Option Addr) (k cR:Nat):Prop where
 sc:w.heap[S]?=some (.cells #[.int .i64 (f:Int),.int .i64 (t:Int)] 75 (0,0))
 qc:w.heap[Q]?=some (.cells #[.slice R k cR] 23 (0,0))
 lc:w.heap[L]?=some (.cells #[.slice BL ml cl] 23 (0,0))
 dc:w.heap[D]?=some (.cells #[Fus S Q L D] 96 (0,0))
 s1:S < b1
 q1:Q < b1
 l1:L < b1
 d1:D < b1
 n1:S≠Q
 n2:L≠Q
 n3:D≠Q
 le:b1≤w.heap.size
section
variable {b1:Nat} {w w':World} {S Q L D f t:Nat} {BL:Option Addr} {ml cl:Nat} {R:Option Addr} {k cR:Nat}
theorem UpS.below(h:UpS b1 w S Q L D f t BL ml cl R k cR)(hb:Below w.heap.size w w'):UpS b1 w' S Q L D f t BL ml cl R k cR :=
 ⟨(hb.block S (Nat.lt_of_lt_of_le h.s1 h.le)).trans h.sc,(hb.block Q (Nat.lt_of_lt_of_le h.q1 h.le)).trans h.qc,(hb.block L (Nat.lt_of_lt_of_le h.l1 h.le)).trans h.lc,(hb.block D (Nat.lt_of_lt_of_le h.d1 h.le)).trans h.dc,h.s1,h.q1,h.l1,h.d1,h.n1,h.n2,h.n3,Nat.le_trans h.le hb.size⟩
theorem UpS.put(h:UpS b1 w S Q L D f t BL ml cl R k cR)(R2:Option Addr)(k2 c2:Nat):UpS b1 (w.setCell ⟨Q,0,none⟩ (.slice R2 k2 c2)) S Q L D f t BL ml cl R2 k2 c2 :=
 ⟨(Below.heap_setCell w ⟨Q,0,none⟩ _ S h.n1).trans h.sc,Bl.set_ (show Bl w Q 23 #[.slice R k cR] from h.qc) 0 _,(Below.heap_setCell w ⟨Q,0,none⟩ _ L h.n2).trans h.lc,(Below.heap_setCell w ⟨Q,0,none⟩ _ D h.n3).trans h.dc,h.s1,h.q1,h.l1,h.d1,h.n1,h.n2,h.n3,by rw[set_size];exact h.le⟩
end
theorem gq_of_below{w w':World}{Q:Nat}(h:Below w.heap.size w w'):w.grownBy w' (some Q):=⟨h.os,h.tape,h.output,h.size,fun k hk _=>h.block k hk⟩
theorem gq_trans{w w' w'':World}{Q:Nat}(h:w.grownBy w' (some Q))(k:w'.grownBy w'' (some Q)):w.grownBy w'' (some Q) :=
 ⟨k.os.trans h.os,k.tape.trans h.tape,k.output.trans h.output,Nat.le_trans h.size k.size,fun j hj hQ=>(k.block j (Nat.lt_of_lt_of_le hj h.size) hQ).trans (h.block j hj hQ)⟩
theorem gq_set{w:World}{Q:Nat}(v:Value):w.grownBy (w.setCell ⟨Q,0,none⟩ v) (some Q):=only_set (World.grownBy.refl w (some Q)) (p:=⟨Q,0,none⟩) (Or.inl rfl) v
theorem pc_gq{w w':World}{r:Rw}{Q:Nat}(h:Pc w r)(hQ:∀ad,r.1=some ad→ad.block≠Q)(hg:w.grownBy w' (some Q)):Pc w' r :=
 ⟨h.len,h.row.only hg (fun ad e h2=>hQ ad e (by injection h2 with h3;exact h3.symm)),h.lt,h.cap,h.nil⟩
theorem pc_blk{w:World}{r:Rw}(h:Pc w r)(h0:0 < r.2.2.2.length):∀ad,r.1=some ad→ad.block < w.heap.size:=by
 intro ad e
 obtain⟨ad2,e2,hc⟩:=h.row.at_ h0
 rw[e] at e2
 cases e2
 have:=cell_lt (w:=w) (p:=ad.add 0) (v:=((bl r.2.2.2)[0]'(by rw[bl_length];exact h0))) (by rw[hc,List.getElem?_eq_getElem (by rw[bl_length];exact h0)])
 rwa [add_block] at this
def UpvQ(w0:World)(b1 S Q L D f t:Nat)(BL:Option Addr)(ml cl:Nat)(P:List Rw)(m:Nat)(w:World)(x:List Nat)(j:Nat)(e:Ending)(w':World):Prop :=
 ∃(r:Rw) (R:Option Addr) (k cR:Nat),e=.returned (rwv r)∧Pc w' r∧r.2.2.2=x∧x.length=32∧(∀ad,r.1=some ad→ad.block≠Q)∧UpS b1 w' S Q L D f t BL ml cl R k cR∧Rest w0 R k cR P m j∧w.grownBy w' (some Q)∧Below w0.heap.size w0 w'
set_option maxHeartbeats 8000000 in
set_option maxRecDepth 100000 in
theorem up_any{w0:World}(ts:Sh.Tab w0){b1 S Q L D f t:Nat}{BL:Option Addr}{ml cl:Nat}{Lv P:List Rw}{m:Nat}(hQ:w0.heap.size≤Q)(hL0:P32 w0 BL ml cl Lv)(hml:f+ml=t)(ht:t≤5000)(h1l:1≤ml)(hP0:∀r∈P,Pc w0 r∧r.2.2.2.length=32)(hPm:P.length=m)(hm:m≤5000) :
  ∀(N n:Nat),n≤N→1≤n→n≤4096→∀(a:Nat),a+n≤4096→∀(j:Nat) (w:World) (R:Option Addr) (k cR:Nat),j+(bes f t a n).length≤m→UpS b1 w S Q L D f t BL ml cl R k cR→Rest w0 R k cR P m j→Below w0.heap.size w0 w →
  Calls Tryd.prog 77 #[spv (a:Int) ((a+n:Nat):Int),.pointer (some ⟨S,0,none⟩),.pointer (some ⟨Q,0,none⟩),.pointer (some ⟨L,0,none⟩),.pointer (some ⟨D,0,none⟩)] w (UpvQ w0 b1 S Q L D f t BL ml cl P m w (upv (con Lv) (con P) f t a n j) (j+(bes f t a n).length)):=by
 have TS:=Lib.hid ts
 have HL0:=Lib.hid hL0
 have HP0:=Lib.hid hP0
 have PM:=Lib.hid hPm
 have LVL:=Lib.hid (show(con Lv).length=t - f from by rw[con_len,hL0.len];omega)
 clear hL0 hP0 hPm ts
 intro N
 induction N with
 |zero=>intro n h1 h2;omega
 |succ N ih =>
  intro n hN h1 hn a ha j w R k cR hfit hU hR hb0
  obtain⟨b,hbn⟩:∃b,b=a+n:=⟨_,rfl⟩
  have ZA:=Lib.hid (fun(z:Bool) (hz:z=decide ((b:Int)≤(f:Int)∨(t:Int)≤(a:Int))) (w:World)=>apart_any (a:Int) (b:Int) (f:Int) (t:Int) z hz w)
  have ZW:=Lib.hid (fun(z:Bool) (hz:z=decide ((f:Int)≤(a:Int)∧(b:Int)≤(t:Int))) (w:World)=>within_any (a:Int) (b:Int) (f:Int) (t:Int) z hz w)
  have UL:=Lib.hid (upv_len (j:=j) (lv:=con Lv) (pr:=con P) LVL.out HL0.out.con32 (fun x hx=>by obtain⟨r,hr,rfl⟩:=List.mem_map.1 hx;exact(HP0.out r hr).2) h1 (show j+(bes f t a n).length≤(con P).length by rw[con_len,PM.out];exact hfit))
  rw[←hbn]
  have HBN:=Lib.hid hbn
  have HB:=Lib.hid hb0
  have HS:=Lib.hid hU
  have HR:=Lib.hid hR
  have FIT:=Lib.hid hfit
  have BW:=Lib.hid ((Below.refl w.heap.size w).alloc (Nat.le_refl _) (.cells #[.int .i64 (a:Int),.int .i64 (b:Int)] 75))
  have G0:=Lib.hid (Bl.new_ w 75 #[.int .i64 (a:Int),.int .i64 (b:Int)])
  have HS1:=Lib.hid (hU.below BW.out)
  obtain⟨s0,s1⟩:=two_cells HS1.out.sc
  by_cases hap:a+n≤f∨t≤a
  ·have AP:=Lib.hid (fun w=>ZA.out true (by symm;rw[decide_eq_true_iff];omega) w)
   have CN:=Lib.hid (show(bes f t a n).length=1 from by rw[bes_apart hap];rfl)
   have hk0:0 < k:=by have:=HR.out.len;have:=FIT.out;rw[CN.out] at this;omega
   obtain⟨ad,hRa,hcell0⟩:=HR.out.row.at_ hk0
   subst hRa
   have hcap:=HR.out.cap
   obtain⟨r,hr⟩:∃r,P[j]?=some r:=⟨P[j]'(by have:=PM.out;have:=FIT.out;rw[CN.out] at this;omega),List.getElem?_eq_getElem _⟩
   have hcell1:w0.cell? ad=some (rwv r):=by
    rw[List.getElem?_map,List.getElem?_drop,Nat.add_zero,hr] at hcell0
    exact hcell0
   have hpr:=HP0.out r (List.mem_of_getElem? hr)
   have HPR:=Lib.hid hpr
   have EV:=Lib.hid (show r.2.2.2=upv (con Lv) (con P) f t a n j from by rw[upv_apart hap,List.getD_eq_getElem?_getD,con,List.getElem?_map,hr];rfl)
   have SD:=Lib.hid (HR.out.row.drop_ 1 (show 1≤k by omega) hcap)
   have KEY:=Lib.hid (fun(w1:World) (R2:Option Addr) (hS:Sl w0 R2 (k - 1) (((P.drop j).map rwv).drop 1)) (hB1:Below w.heap.size w w1)=>show UpvQ w0 b1 S Q L D f t BL ml cl P m w (upv (con Lv) (con P) f t a n j) (j+(bes f t a n).length) (.returned (rwv r)) (w1.setCell ⟨Q,0,none⟩ (.slice R2 (k - 1) (cR - 1))) from by
    have hbk:∀ad,r.1=some ad→ad.block≠Q:=fun ad e=>by have:=pc_blk HPR.out.1 (by rw[HPR.out.2];decide) ad e;omega
    refine⟨r,R2,k - 1,cR - 1,rfl,?_,EV.out,UL.out,hbk,(HS.out.below hB1).put R2 (k - 1) (cR - 1),⟨?_,?_,by omega⟩,gq_trans (gq_of_below hB1) (gq_set _),?_⟩
    ·exact pc_gq ((HPR.out.1.below HB.out).below hB1) hbk (gq_set _)
    ·rw[←List.map_drop,List.drop_drop] at hS
     rw[CN.out]
     exact hS
    ·have:=HR.out.len;rw[CN.out];omega
    ·exact(HB.out.trans (hB1.mono HB.out.size)).setCell (p:=⟨Q,0,none⟩) hQ _)
   obtain⟨X1,X2,X3,X4⟩:=r
   have HC:=Lib.hid (show w0.cell? ad=some (.slice X1 X2 X3) from hcell1)
   have SD:=Lib.hid (show Sl w0 (if cR=1 then some ad else some { block:=ad.block,off:=ad.off+1 }) (k - 1) (((P.drop j).map rwv).drop 1) from SD.out)
   have z1:(1:Int)≤(k:Int):=by omega
   have z2:(k:Int)≤(cR:Int):=by omega
   rw[show rwv (X1,X2,X3,X4)=Value.slice X1 X2 X3 from rfl] at KEY
   clear ih hap hbn ZA ZW hcell0 hcell1 hr hpr hfit hU hR hb0
   by_cases hc1:cR=1
   ·subst hc1
    rw[if_pos rfl] at SD
    obtain rfl:k=1:=by omega
    go_enter Tryd.func77,Tryd.ntmps77
    go_upto_region 3 with(go_at_call 74;(with_reducible refine(AP.out _).mono ?_);rintro e w1 ⟨rfl,hb1⟩;have B1:=Lib.hid (BW.out.trans (hb1.mono BW.out.size));have qc1:=(one_cell (HS1.out.below hb1).qc).1;have qf1:=(one_cell (HS1.out.below hb1).qc).2;have pc1:w1.cell? ad=some (.slice X1 X2 X3):=keepc (HB.out.trans (B1.out.mono HB.out.size)) HC.out;clear hb1)
    go_wp2_with fail
    go_ret
    exact KEY.out w1 (some ad) SD.out B1.out
   ·rw[if_neg hc1] at SD
    go_enter Tryd.func77,Tryd.ntmps77
    go_upto_region 3 with(go_at_call 74;(with_reducible refine(AP.out _).mono ?_);rintro e w1 ⟨rfl,hb1⟩;have B1:=Lib.hid (BW.out.trans (hb1.mono BW.out.size));have qc1:=(one_cell (HS1.out.below hb1).qc).1;have qf1:=(one_cell (HS1.out.below hb1).qc).2;have pc1:w1.cell? ad=some (.slice X1 X2 X3):=keepc (HB.out.trans (B1.out.mono HB.out.size)) HC.out;clear hb1)
    go_wp2_with fail
    go_ret
    exact KEY.out w1 _ SD.out B1.out
  have AP:=Lib.hid (fun w=>ZA.out false (by symm;rw[decide_eq_false_iff_not];omega) w)
  by_cases hin:f≤a∧a+n≤t
  ·have WI:=Lib.hid (fun w=>ZW.out true (by symm;rw[decide_eq_true_iff];omega) w)
   have CN:=Lib.hid (show(bes f t a n).length=0 from by rw[bes_in hap hin];rfl)
   obtain⟨lo,hlo⟩:∃lo,lo=a - f:=⟨_,rfl⟩
   obtain⟨hi,hhi⟩:∃hi,hi=b - f:=⟨_,rfl⟩
   have EV:=Lib.hid (show upv (con Lv) (con P) f t a n j=topL (con ((Lv.drop lo).take n)) from by
    rw[upv_in hap hin,←hlo]
    unfold sub
    rw[con,con,List.map_take,List.map_drop,show a+n - f - lo=n by omega])
   have e1:(a:Int) - (f:Int)=(lo:Int):=by omega
   have e2:(b:Int) - (f:Int)=(hi:Int):=by omega
   have hcap:=HL0.out.cap
   obtain⟨ad,hB,-⟩:=HL0.out.row.at_ (show 0 < ml by omega)
   subst hB
   have TP:=Lib.hid (fun(wq:World) (hq:Below w0.heap.size w0 wq)=>top_any n n (Nat.le_refl _) h1 hn wq ((Lv.drop lo).take n) (some (ad.add lo)) (cl - lo) (((HL0.out.below hq).drop (show lo < ml by omega)).take (show n≤ml - lo by omega)) (TS.out.below hq))
   have k1:(lo:Int)≤(hi:Int):=by omega
   have k2:(hi:Int)≤(cl:Int):=by omega
   have k3:hi - lo=n:=by omega
   have k4:¬cl=lo:=by omega
   have k5:¬lo=cl:=by omega
   have k6:(0:Int)≤(lo:Int):=by omega
   clear ih hap hin hbn ZA ZW hfit hU hR hb0 hlo hhi
   go_enter Tryd.func77,Tryd.ntmps77
   go_wp2_with (first
    |(go_at_call 74;(with_reducible refine(AP.out _).mono ?_);rintro e w1 ⟨rfl,hb1⟩;have B1:=Lib.hid (BW.out.trans (hb1.mono BW.out.size));have S1:=Lib.hid (HS1.out.below hb1);have G1:=Lib.hid (G0.out.below' hb1);obtain⟨g0,g1⟩:=two_cells (G0.out.below' hb1);obtain⟨s2,s3⟩:=two_cells (HS1.out.below hb1).sc;clear hb1)
    |(go_at_call 75;(with_reducible refine(WI.out _).mono ?_);rintro e w2 ⟨rfl,hb2⟩;have B2:=Lib.hid (B1.out.trans (hb2.mono B1.out.size));have S2:=Lib.hid (S1.out.below hb2);obtain⟨g2,g3⟩:=two_cells (G1.out.below' hb2);obtain⟨s4,s5⟩:=two_cells (S1.out.below hb2).sc;have lc2:=(one_cell (S1.out.below hb2).lc).1;clear hb2)
    |(go_at_call 40;(with_reducible refine(TP.out _ (HB.out.trans (B2.out.mono HB.out.size))).mono ?_);rintro e w3 ⟨g,cap,rfl,hp,hg,hb3⟩;have P3:=Lib.hid hp;have G3:=Lib.hid hg;have B3:=Lib.hid (B2.out.trans (hb3.mono B2.out.size));have S3:=Lib.hid (S2.out.below hb3);clear hp hg hb3))
   go_ret
   refine⟨(some ⟨g,0,none⟩,32,cap,topL (con ((Lv.drop lo).take n))),R,k,cR,rfl,P3.out,EV.out.symm,UL.out,?_,S3.out,?_,gq_of_below B3.out,HB.out.trans (B3.out.mono HB.out.size)⟩
   ·intro ad2 e
    injection e with e
    rw[←e]
    have:=S2.out.q1
    have:=S2.out.le
    have:=G3.out
    show g≠Q
    omega
   ·rw[CN.out]
    exact HR.out
  ·have WI:=Lib.hid (fun w=>ZW.out false (by symm;rw[decide_eq_false_iff_not];omega) w)
   have h2:2≤n:=by omega
   have hs:=half_spec h2
   have EB:=bes_step hap h2
   have EV:=upv_step (lv:=con Lv) (pr:=con P) (j:=j) hap h2 LVL.out
   have HV:=halves_any a n h2 hn (by omega)
   rw[←hbn] at HV
   have HV:=Lib.hid HV
   obtain⟨H,hH⟩:∃H,H=half n:=⟨_,rfl⟩
   rw[←hH] at HV hs EB EV
   obtain⟨d,hd⟩:∃d,d=a+H:=⟨_,rfl⟩
   rw[←hd] at HV EB EV
   obtain⟨N1,hN1⟩:∃z,z=(bes f t a H).length:=⟨_,rfl⟩
   obtain⟨N2,hN2⟩:∃z,z=(bes f t d (n - H)).length:=⟨_,rfl⟩
   have CN:=Lib.hid (show(bes f t a n).length=N1+N2 from by rw[EB,List.length_append,hN1,hN2])
   rw[←hN1] at EV
   have EV:=Lib.hid EV
   have I1:=ih H (by omega) hs.1 (by omega) a (by omega) j
   rw[←hd,←hN1] at I1
   have I2:=ih (n - H) (by omega) (by omega) (by omega) d (by omega) (j+N1)
   rw[show d+(n - H)=b by omega,←hN2] at I2
   have I1:=Lib.hid (fun(wq:World) (hq:Below w0.heap.size w0 wq) (hs':UpS b1 wq S Q L D f t BL ml cl R k cR)=>I1 wq R k cR (by have:=FIT.out;rw[CN.out] at this;omega) hs' HR.out hq)
   have I2:=Lib.hid (fun(wq:World) (R1:Option Addr) (k1 c1:Nat) (hq:Below w0.heap.size w0 wq) (hs':UpS b1 wq S Q L D f t BL ml cl R1 k1 c1) (hr':Rest w0 R1 k1 c1 P m (j+N1))=>I2 wq R1 k1 c1 (by have:=FIT.out;rw[CN.out] at this;omega) hs' hr' hq)
   have JN:=Lib.hid (fun(wq:World) (A B:Option Addr) (c1 c2:Nat) (x y:List Nat) (hq:Below w0.heap.size w0 wq) (h1:Pc wq (A,32,c1,x)) (h2:Pc wq (B,32,c2,y))=>joined_any h1 h2 (by rw[List.length_append,←h1.len,←h2.len];show 32+32 < 1048576;decide) (TS.out.below hq))
   rw[EV.out] at UL
   rw[EV.out]
   generalize upv (con Lv) (con P) f t a H j=x1 at I1 UL ⊢
   generalize upv (con Lv) (con P) f t d (n - H) (j+N1)=x2 at I2 UL ⊢
   clear ih hap hin hbn ZA ZW hfit hU hR hb0 hH hd hs EB EV hN1 hN2
   go_enter Tryd.func77,Tryd.ntmps77
   go_wp2_with (first
    |(go_at_call 74;(with_reducible refine(AP.out _).mono ?_);rintro e w1 ⟨rfl,hb1⟩;have B1:=Lib.hid (BW.out.trans (hb1.mono BW.out.size));have S1:=Lib.hid (HS1.out.below hb1);have G1:=Lib.hid (G0.out.below' hb1);obtain⟨g0,g1⟩:=two_cells (G0.out.below' hb1);obtain⟨s2,s3⟩:=two_cells (HS1.out.below hb1).sc;clear hb1)
    |(go_at_call 75;(with_reducible refine(WI.out _).mono ?_);rintro e w2 ⟨rfl,hb2⟩;have B2:=Lib.hid (B1.out.trans (hb2.mono B1.out.size));have S2:=Lib.hid (S1.out.below hb2);obtain⟨g2,g3⟩:=two_cells (G1.out.below' hb2);clear hb2)
    |(go_at_call 76;(with_reducible refine(HV.out _).mono ?_);rintro e w3 ⟨rfl,hb3⟩;have B3:=Lib.hid (B2.out.trans (hb3.mono B2.out.size));have S3:=Lib.hid (S2.out.below hb3);have B5:=Lib.hid (two_allocs w3 (.cells #[.int .i64 (a:Int),.int .i64 (d:Int)] 75) (.cells #[.int .i64 (d:Int),.int .i64 (b:Int)] 75));have S5:=Lib.hid (S3.out.below B5.out);have dc5:=(one_cell (S3.out.below B5.out).dc).1;have GB5:=Lib.hid (Bl.new' (w:=w3.alloc (.cells #[.int .i64 (a:Int),.int .i64 (d:Int)] 75)) 75 #[.int .i64 (d:Int),.int .i64 (b:Int)] (asize _ _));have B35:=Lib.hid (B3.out.trans (B5.out.mono B3.out.size));have C5:=Lib.hid (I1.out _ (HB.out.trans (B35.out.mono HB.out.size)) S5.out);clear hb3)
    |(go_at_call 77;(with_reducible refine C5.out.mono ?_);(rintro e w6 ⟨⟨A1,n1,c1,y1⟩,R6,k6,c6,rfl,p6,q6,l6,x6,s6,r6,f6,b6⟩;obtain rfl:y1=x1:=q6;obtain rfl:n1=32:=p6.len.trans l6;have P6:=Lib.hid p6;have X6:=Lib.hid x6;have S6:=Lib.hid s6;have F6:=Lib.hid f6;have B6:=Lib.hid b6;have dc6:=(one_cell s6.dc).1;have C7:=Lib.hid (I2.out w6 R6 k6 c6 b6 s6 r6);obtain⟨d0,d1⟩:=two_cells ((f6.block (w3.heap.size+1) (by rw[asize,asize];omega) (fun e=>by have:=S3.out.q1;have:=S3.out.le;injection e with e;omega)).trans GB5.out);clear p6 l6 x6 s6 r6 f6 b6 dc5))
    |(go_at_call 77;(with_reducible refine C7.out.mono ?_);rintro e w7 ⟨⟨A2,n2,c2,y2⟩,R7,k7,c7,rfl,p7,q7,l7,x7,s7,r7,f7,b7⟩;obtain rfl:y2=x2:=q7;obtain rfl:n2=32:=p7.len.trans l7;have S7:=Lib.hid s7;have R7':=Lib.hid r7;have F7:=Lib.hid f7;have B7:=Lib.hid b7;have J7:=Lib.hid (JN.out w7 A1 A2 c1 c2 y1 y2 b7 (pc_gq P6.out X6.out f7) p7);clear p7 l7 x7 s7 r7 f7 b7)
    |(go_at_call 47;(refine J7.out.mono ?_);rintro e w8 ⟨g,rfl,hp,hg,hb8⟩;have P8:=Lib.hid hp;have G8:=Lib.hid hg;have B8:=Lib.hid hb8;clear hp hg hb8))
   go_ret
   refine⟨(some ⟨g,0,none⟩,32,32,Sh.dg false (1 :: (y1 ++ y2))),R7,k7,c7,rfl,P8.out,rfl,UL.out,?_,S7.out.below B8.out,?_,gq_trans (gq_of_below B35.out) (gq_trans F6.out (gq_trans F7.out (gq_of_below B8.out))),B7.out.trans (B8.out.mono B7.out.size)⟩
   ·intro ad2 e
    injection e with e
    rw[←e]
    have:=S7.out.q1
    have:=S7.out.le
    have:=G8.out
    show g≠Q
    omega
   ·rw[CN.out,←Nat.add_assoc]
    exact R7'.out
end Go.Proofs.YtnnfpmebopgogaaDoor.Mk
