/- Joined texts. -/
import Derived.Deep.QuietTactic
import Derived.BigQuiet
import Derived.Test.YtnnfpmebopgogaaDoorQsMrOuter
set_option linter.unusedVariables false
namespace Go.Proofs.YtnnfpmebopgogaaDoor.Mk
open Go.RowKit Go.Proofs.YtnnfpmebopgogaaDoor.Gn Go.Proofs.YtnnfpmebopgogaaDoor.Fd Go.Deep
theorem results_tmp4{fn:Func}{t u v x:Tmp}(h:fn.results = #[.tmp t,.tmp u,.tmp v,.tmp x])(tmps:Array Value)(P:Program)(w:World) :
  (results fn tmps).run P w=.ok (.tuple #[tmps.getD t undef,tmps.getD u undef,tmps.getD v undef,tmps.getD x undef]) w:=by
 simp[results,h]
structure Rest (w:World) (R:Option Addr) (k cR:Nat) (Q:List Rw) (m j:Nat):Prop where
 row:Sl w R k ((Q.drop j).map rwv)
 len:k+j=m
 cap:k≤cR
def ClimbQ(w0:World)(lv pr:List (List Nat))(Q:List Rw)(m f t a n j:Nat)(w:World)(e:Ending)(w':World):Prop :=
 ∃(r:Rw) (R:Option Addr) (k cR j':Nat) (T:Value) (us:List Rw) (fb:Bool),e=.returned (.tuple #[rwv r,.slice R k cR,T,.bool fb])∧Pc w' r∧r.2.2.2.length≤32∧Rest w0 R k cR Q m j'∧fb=decide (j+(bes f t a n).length≤m)∧OwnT w.heap.size w' T us∧us.length+1≤n∧(j+(bes f t a n).length≤m→j'=j+(bes f t a n).length∧r.2.2.2=upv lv pr f t a n j∧con us=clt lv pr f t a n j)∧Below w.heap.size w w'
set_option maxHeartbeats 8000000 in
set_option maxRecDepth 100000 in
theorem rclimb_any{w0:World}{BL:Option Addr}{ml cl:Nat}{Lv:List Rw}{Q:List Rw}{m f t:Nat}(hL0:P32 w0 BL ml cl Lv)(hml:f+ml=t)(ht:t≤5000)(h1l:1≤ml)(hQ0:∀r∈Q,Pc w0 r∧r.2.2.2.length=32)(hQm:Q.length=m)(hm:m≤5000) :
  ∀(N n:Nat),n≤N→1≤n→∀(a:Nat),a+n≤5000→∀(j:Nat) (w:World) (R:Option Addr) (k cR:Nat),Below w0.heap.size w0 w→Rest w0 R k cR Q m j →
  Calls Tryd.prog 28 #[.int .i64 (a:Int),.int .i64 (n:Int),.int .i64 (f:Int),.slice BL ml cl,.slice R k cR] w (ClimbQ w0 (con Lv) (con Q) Q m f t a n j w):=by
 obtain⟨i0,hi,hz0,hz1,hz2⟩:=info_parts infobb
 have HL0:=Lib.hid hL0
 have HQ0:=Lib.hid hQ0
 have QM:=Lib.hid hQm
 have lvl:(con Lv).length=t - f:=by rw[con_len,hL0.len];omega
 have LVL:=Lib.hid lvl
 have qt:(f:Int)+(ml:Int)=(t:Int):=by omega
 clear hL0 hQ0 hQm lvl
 intro N
 induction N with
 |zero=>intro n h1 h2;omega
 |succ N ih =>
  intro n hN h1 a ha j w R k cR hb0 hR
  have HB0:=Lib.hid hb0
  have HR:=Lib.hid hR
  by_cases hap:a+n≤f∨t≤a
  ·have CN:=Lib.hid (show(bes f t a n).length=1 from by rw[bes_apart hap];rfl)
   by_cases hk:k=0
   ·-- nothing is left
    have KEY:=Lib.hid (show ClimbQ w0 (con Lv) (con Q) Q m f t a n j w (.returned (.tuple #[.slice none 0 0,.slice none 0 0,.slice none 0 0,.bool false])) w from
     ⟨(none,0,0,[]),none,0,0,m,.slice none 0 0,[],false,rfl,nil_pc' w,Nat.zero_le _,⟨by rw[List.drop_eq_nil_of_le (by rw[QM.out];exact Nat.le_refl _)];exact Sl.nil_ _ _,by omega,Nat.le_refl _⟩,by rw[CN.out,decide_eq_false (by have:=HR.out.len;omega)],⟨own_nil _ _ _,fun r hr=>by cases hr⟩,by simpa using h1,fun h=>by rw[CN.out] at h;have:=HR.out.len;omega,Below.refl _ _⟩)
    subst hk
    clear ih hb0 hR
    by_cases c1:a+n≤f
    ·have q1:(a:Int)+(n:Int)≤(f:Int):=by omega
     clear hap
     go_enter Tryd.func28,Tryd.ntmps28
     go_wp2_with fail
     refine bodyPost_ret (results_tmp4 rfl _ _ _) rfl ?_
     exact KEY.out
    ·have q1:¬(a:Int)+(n:Int)≤(f:Int):=by omega
     have q2:(t:Int)≤(a:Int):=by omega
     clear hap
     go_enter Tryd.func28,Tryd.ntmps28
     go_wp2_with fail
     refine bodyPost_ret (results_tmp4 rfl _ _ _) rfl ?_
     exact KEY.out
   ·have hRw:=hR.row.below hb0
    obtain⟨ad,hRa,hcell⟩:=hRw.at_ (show 0 < k by omega)
    subst hRa
    have hjl:=hR.len
    have hcap:=hR.cap
    obtain⟨r,hr⟩:∃r,Q[j]?=some r:=⟨Q[j]'(by have:=QM.out;omega),List.getElem?_eq_getElem _⟩
    have hcell:w.cell? ad=some (rwv r):=by
     rw[List.getElem?_map,List.getElem?_drop,Nat.add_zero,hr] at hcell
     exact hcell
    have hpr:=HQ0.out r (List.mem_of_getElem? hr)
    have HP:=Lib.hid (hpr.1.below hb0)
    have PL:=Lib.hid hpr.2
    have EV:=Lib.hid (show r.2.2.2=upv (con Lv) (con Q) f t a n j from by rw[upv_apart hap,List.getD_eq_getElem?_getD,con,List.getElem?_map,hr];rfl)
    have EC:=Lib.hid (show clt (con Lv) (con Q) f t a n j=[] from clt_apart hap)
    have SD:=Lib.hid (hR.row.drop_ 1 (show 1≤k by omega) hcap)
    clear hRw
    have KEY:=Lib.hid (fun(R2:Option Addr) (nq:Nat) (hS:Sl w0 R2 (k - 1) (((Q.drop j).map rwv).drop 1))=>show ClimbQ w0 (con Lv) (con Q) Q m f t a n j w (.returned (.tuple #[rwv r,.slice R2 (k - 1) (cR - 1),.slice none 0 0,.bool true])) (w.drewN nq) from
     ⟨r,R2,k - 1,cR - 1,j+1,.slice none 0 0,[],true,rfl,HP.out.below (below_drewN (Below.refl _ _) nq),by rw[PL.out];exact Nat.le_refl _,⟨by have h:=hS;rwa [←List.map_drop,List.drop_drop] at h,by omega,by omega⟩,by rw[CN.out,decide_eq_true (by omega)],⟨own_nil _ _ _,fun r hr=>by cases hr⟩,by simpa using h1,fun h=>⟨by rw[CN.out],EV.out,EC.out.symm⟩,below_drewN (Below.refl _ _) nq⟩)
    obtain⟨X1,X2,X3,X4⟩:=r
    have hcell:w.cell? ad=some (.slice X1 X2 X3):=hcell
    have SD:=Lib.hid (show Sl w0 (if cR=1 then some ad else some { block:=ad.block,off:=ad.off+1 }) (k - 1) (((Q.drop j).map rwv).drop 1) from SD.out)
    have z1:(1:Int)≤(k:Int):=by omega
    have z2:(k:Int)≤(cR:Int):=by omega
    have z3:1≤k:=by omega
    have z4:((k:Int) == 0)=false:=beq_eq_false_iff_ne.2 (by omega)
    have z5:0 < k:=by omega
    clear ih hb0 hR hpr hr hk
    rw[show rwv (X1,X2,X3,X4)=Value.slice X1 X2 X3 from rfl] at KEY
    by_cases c1:a+n≤f
    ·have q1:(a:Int)+(n:Int)≤(f:Int):=by omega
     clear hap
     go_enter Tryd.func28,Tryd.ntmps28
     go_wp2_with fail
     go_quiet (fail)
     generalize(if cR=1 then some ad else some { block:=ad.block,off:=ad.off+1 })=R2 at SD ⊢
     go_wp2_with fail
     refine bodyPost_ret (results_tmp4 rfl _ _ _) rfl ?_
     exact KEY.out R2 nq SD.out
    ·have q1:¬(a:Int)+(n:Int)≤(f:Int):=by omega
     have q2:(t:Int)≤(a:Int):=by omega
     clear hap
     go_enter Tryd.func28,Tryd.ntmps28
     go_wp2_with fail
     go_quiet (fail)
     generalize(if cR=1 then some ad else some { block:=ad.block,off:=ad.off+1 })=R2 at SD ⊢
     go_wp2_with fail
     refine bodyPost_ret (results_tmp4 rfl _ _ _) rfl ?_
     exact KEY.out R2 nq SD.out
  have q1:¬(a:Int)+(n:Int)≤(f:Int):=by omega
  have q2:¬(t:Int)≤(a:Int):=by omega
  by_cases h2:2≤n
  ·have hs:=half_spec h2
   have HF:=Lib.hid (fun w=>rhalf_any h2 (by omega) w)
   have EB:=Lib.hid (bes_step hap h2)
   have EU:=Lib.hid (upv_step (lv:=con Lv) (pr:=con Q) (j:=j) hap h2 LVL.out)
   have ET:=Lib.hid (clt_step (lv:=con Lv) (pr:=con Q) (j:=j) hap h2)
   obtain⟨H,hH⟩:∃H,H=half n:=⟨_,rfl⟩
   rw[←hH] at hs HF EB EU ET
   obtain⟨s1,s2,s3⟩:=hs
   obtain⟨d,hd⟩:∃d,d=a+H:=⟨_,rfl⟩
   rw[←hd] at EB EU ET
   have e1:(a:Int)+(H:Int)=(d:Int):=by omega
   have hd9:d≤10000:=by omega
   obtain⟨n2,hn2⟩:∃n2,n2=n - H:=⟨_,rfl⟩
   rw[←hn2] at EB EU ET
   have e3:(n:Int) - (H:Int)=(n2:Int):=by omega
   have t1':((n:Int) == 1)=false:=beq_eq_false_iff_ne.2 (by omega)
   have I1:=Lib.hid (ih H (by omega) s1 a (by omega) j w R k cR hb0 hR)
   have I2:=Lib.hid (fun(j1:Nat) (wq:World) (R1:Option Addr) (k1 cR1:Nat) (hq:Below w.heap.size w wq) (hR1:Rest w0 R1 k1 cR1 Q m j1)=>ih n2 (by omega) (by omega) d (by omega) j1 wq R1 k1 cR1 (hb0.trans (hq.mono hb0.size)) hR1)
   obtain⟨N1,hN1⟩:∃z,z=(bes f t a H).length:=⟨_,rfl⟩
   obtain⟨N2,hN2⟩:∃z,z=(bes f t d n2).length:=⟨_,rfl⟩
   have CN:=Lib.hid (show(bes f t a n).length=N1+N2 from by rw[EB.out,List.length_append,hN1,hN2])
   have HN1:=Lib.hid hN1
   have HN2:=Lib.hid hN2
   have hn2':H+n2=n:=by omega
   clear ih hb0 hR hap hH hd hn2 EB hN1 hN2
   go_enter Tryd.func28,Tryd.ntmps28
   go_wp2_with (go_at_call 55;(with_reducible refine(HF.out _).mono ?_);rintro e w' ⟨rfl,rfl⟩)
   refine I1.out.mono ?_
   rintro e w1 ⟨⟨RA,rn,rc,rx⟩,R1,k1,cR1,j1,T1,us1,fb1,rfl,p1,l1,r1,f1,o1,u1,x1,b1⟩
   rw[show rwv ((RA,rn,rc,rx):Rw)=Value.slice RA rn rc from rfl]
   have B1:=Lib.hid b1
   have P1:=Lib.hid p1
   have L1:=Lib.hid (show rx.length≤32 from l1)
   have F1:=Lib.hid f1
   have O1:=Lib.hid o1
   have X1:=Lib.hid x1
   obtain⟨TA1,tc1,rfl,-, -, -, -, -⟩:=Sl.own o1.own
   have I3:=Lib.hid (I2.out j1 w1 R1 k1 cR1 b1 r1)
   clear p1 l1 r1 f1 o1 x1 b1 I1 I2
   go_wp2_with fail
   refine I3.out.mono ?_
   rintro e w2 ⟨⟨SA,sn,sc,sx⟩,R2,k2,cR2,j2,T2,us2,fb2,rfl,p2,l2,r2,f2,o2,u2,x2,b2⟩
   rw[show rwv ((SA,sn,sc,sx):Rw)=Value.slice SA sn sc from rfl]
   have B2:=Lib.hid (B1.out.trans (b2.mono B1.out.size))
   have P12:=Lib.hid (P1.out.below b2)
   have P2:=Lib.hid p2
   have L2:=Lib.hid (show sx.length≤32 from l2)
   have F2:=Lib.hid f2
   have O12:=Lib.hid (O1.out.below b2)
   have O2:=Lib.hid o2
   have X2:=Lib.hid x2
   have RS2:=Lib.hid r2
   obtain⟨TA2,tc2,rfl,-, -, -, -, -⟩:=Sl.own o2.own
   have hrn:rn≤32:=by rw[show rn=rx.length from P1.out.len];exact L1.out
   have hsn:sn≤32:=by rw[show sn=sx.length from P2.out.len];exact L2.out
   have ND:=Lib.hid (rnode_p P12.out P2.out (by omega))
   clear p2 l2 r2 f2 o2 x2 b2 I3 P1 O1
   obtain⟨U1,hU1⟩:∃z,z=us1.length:=⟨_,rfl⟩
   obtain⟨U2,hU2⟩:∃z,z=us2.length:=⟨_,rfl⟩
   have OW1:=Lib.hid (show w2.ownsRow w.heap.size 22 1 (.slice TA1 U1 tc1) U1 (us1.map rwv) from by rw[hU1];exact O12.out.own)
   have OW2:=Lib.hid (show w2.ownsRow w1.heap.size 22 1 (.slice TA2 U2 tc2) U2 (us2.map rwv) from by rw[hU2];exact O2.out.own)
   rw[←hU1,←hU2]
   rw[←hU1] at u1
   rw[←hU2] at u2
   have HU1:=Lib.hid hU1
   have HU2:=Lib.hid hU2
   clear hU1 hU2
   by_cases hfit:j+N1≤m
   ·have g1:fb1=true:=by rw[F1.out,←HN1.out];exact decide_eq_true hfit
    subst g1
    obtain⟨e5,e6,e7⟩:=X1.out (by rw[←HN1.out];exact hfit)
    have E5:=Lib.hid (show j1=j+N1 from by rw[HN1.out];exact e5)
    have E6:=Lib.hid e6
    have E7:=Lib.hid e7
    clear e5 e6 e7 hfit
    go_wp2_with (first
     |(go_at_call 56;(with_reducible refine ND.out.mono ?_);rintro e w3 ⟨TB,tl,tb,rfl,p3,b3⟩;have B3:=Lib.hid (B2.out.trans (b3.mono B2.out.size));have P3:=Lib.hid p3;have hP3:=p3.1.len;have HSH:=Lib.hid (rhash_p p3.1 (by change tl=_ at hP3;rw[hP3,List.length_cons,List.length_append];have:=L1.out;have:=L2.out;omega));have OW13:=Lib.hid (own_below OW1.out b3);have OW23:=Lib.hid (own_below OW2.out b3);have PA3:=Lib.hid (show ∀z∈us1 ++ us2,Po w3 z∧z.2.2.2.length≤100 from fun z hz=>(List.mem_append.1 hz).elim (fun h=>⟨(O12.out.pcs z h).1.below b3,(O12.out.pcs z h).2⟩) (fun h=>⟨(O2.out.pcs z h).1.below b3,(O2.out.pcs z h).2⟩));clear p3 b3 hP3 ND OW1 OW2)
     |(go_at_call 36;(with_reducible refine HSH.out.mono ?_);rintro e w4 ⟨DB,dl,db,rfl,p4,b4⟩;have B4:=Lib.hid (B3.out.trans (b4.mono B3.out.size));have P4:=Lib.hid p4;have T4:=Lib.hid (P3.out.below b4);have OW14:=Lib.hid (own_below OW13.out b4);have OW24:=Lib.hid (own_below OW23.out b4);have PA4:=Lib.hid (fun z hz=>(show Po w4 z∧z.2.2.2.length≤100 from⟨(PA3.out z hz).1.below b4,(PA3.out z hz).2⟩));clear p4 b4 HSH OW13 OW23)
     |(at_builtin;refine wpList_append_sl rfl (.tmp 88) (.tmp 89) 23 rfl w.heap.size 22 i0 _ 24 Tryd.underlying23 hi hz0 hz1 hz2 rfl (.slice TA1 U1 tc1) U1 (us1.map rwv) rfl OW14.out TA2 U2 tc2 (us2.map rwv) rfl (own_sl OW24.out).2 (own_sl OW24.out).1 (rwv_one us2) (by unfold maxLen;omega) (by omega) B4.out.size ?_;intro v5 w5 hown5 hgrow5;have B5:=Lib.hid (B4.out.grown hgrow5 B4.out.size (own_rows OW14.out));have PA5:=Lib.hid (fun z hz=>(show Po w5 z∧z.2.2.2.length≤100 from⟨(PA4.out z hz).1.grown OW14.out hgrow5,(PA4.out z hz).2⟩));have T5:=Lib.hid (T4.out.grown OW14.out hgrow5);have P5:=Lib.hid (P4.out.grown OW14.out hgrow5);have W5:=Lib.hid hown5;clear hown5 hgrow5)
     |(at_builtin;refine wpList_append_sl rfl (.tmp 90) (.tmp 92) 23 rfl w.heap.size 22 i0 _ 24 Tryd.underlying23 hi hz0 hz1 hz2 rfl v5 (U1+U2) (us1.map rwv ++ us2.map rwv) rfl (own_alloc W5.out _) (some ⟨w5.heap.size,0,none⟩) 1 1 [.slice TB tl tb] rfl (fun h=>by cases h) (Sl.new_ w5 22 [.slice TB tl tb]) (fun u hu=>by simp at hu;subst hu;rfl) (by unfold maxLen;omega) (by omega) (by have:=B5.out.size;simp;omega) ?_;intro v6 w6 hown6 hgrow6;have B6:=Lib.hid ((B5.out.alloc B5.out.size (.cells #[.slice TB tl tb] 22)).grown hgrow6 (by have:=B5.out.size;simp;omega) (own_rows W5.out));have PA6:=Lib.hid (fun z hz=>(show Po w6 z∧z.2.2.2.length≤100 from⟨((PA5.out z hz).1.alloc (.cells #[.slice TB tl tb] 22)).grown (own_alloc W5.out _) hgrow6,(PA5.out z hz).2⟩));have T6:=Lib.hid ((T5.out.alloc (.cells #[.slice TB tl tb] 22)).grown (own_alloc W5.out _) hgrow6);have P6:=Lib.hid ((P5.out.alloc (.cells #[.slice TB tl tb] 22)).grown (own_alloc W5.out _) hgrow6);have W6:=Lib.hid hown6;clear hown6 hgrow6))
    refine bodyPost_ret (results_tmp4 rfl _ _ _) rfl ?_
    have hdl:dl=32:=by have h:=P6.out.1.len;change dl=(Sh.dg false _).length at h;rw[dg32_len] at h;exact h
    subst hdl
    refine⟨(DB,32,db,Sh.dg false (1 :: (rx ++ sx))),R2,k2,cR2,j2,v6,us1 ++ us2 ++ [(TB,tl,tb,1 :: (rx ++ sx))],fb2,rfl,P6.out.1,by rw[dg32_len];exact Nat.le_refl _,RS2.out,?_,⟨?_,fun z hz=>?_⟩,?_,fun h=>?_,B6.out⟩
    ·rw[CN.out]
     rw[F2.out,←HN2.out,E5.out,Nat.add_assoc]
    ·rw[List.length_append,List.length_append,List.length_singleton,←HU1.out,←HU2.out,List.map_append,List.map_append]
     exact W6.out
    ·rcases List.mem_append.1 hz with h|h
     ·exact PA6.out z h
     ·have:z=(TB,tl,tb,1 :: (rx ++ sx)):=by simpa using h
      subst this
      refine⟨T6.out,?_⟩
      show(1 :: (rx ++ sx)).length≤100
      rw[List.length_cons,List.length_append]
      have:=L1.out
      have:=L2.out
      omega
    ·rw[List.length_append,List.length_append,List.length_singleton,←HU1.out,←HU2.out]
     omega
    ·rw[CN.out] at h
     have h2:=X2.out (by rw[E5.out,←HN2.out,Nat.add_assoc];exact h)
     refine⟨by rw[CN.out,h2.1,E5.out,←HN2.out,Nat.add_assoc],?_,?_⟩
     ·rw[EU.out,←HN1.out,←E5.out]
      show Sh.dg false (1 :: (rx ++ sx))=_
      rw[show rx=_ from E6.out,show sx=_ from h2.2.1]
     ·rw[ET.out,←HN1.out,←E5.out]
      show(us1 ++ us2 ++ [_]).map _=_
      rw[List.map_append,List.map_append,show us1.map _=con us1 from rfl,show us2.map _=con us2 from rfl,E7.out,h2.2.2,List.map_cons,List.map_nil]
      rw[show rx=_ from E6.out,show sx=_ from h2.2.1]
   ·have g1:fb1=false:=by rw[F1.out,←HN1.out];exact decide_eq_false hfit
    subst g1
    go_wp2_with (first
     |(go_at_call 56;(with_reducible refine ND.out.mono ?_);rintro e w3 ⟨TB,tl,tb,rfl,p3,b3⟩;have B3:=Lib.hid (B2.out.trans (b3.mono B2.out.size));have P3:=Lib.hid p3;have hP3:=p3.1.len;have HSH:=Lib.hid (rhash_p p3.1 (by change tl=_ at hP3;rw[hP3,List.length_cons,List.length_append];have:=L1.out;have:=L2.out;omega));have OW13:=Lib.hid (own_below OW1.out b3);have OW23:=Lib.hid (own_below OW2.out b3);have PA3:=Lib.hid (show ∀z∈us1 ++ us2,Po w3 z∧z.2.2.2.length≤100 from fun z hz=>(List.mem_append.1 hz).elim (fun h=>⟨(O12.out.pcs z h).1.below b3,(O12.out.pcs z h).2⟩) (fun h=>⟨(O2.out.pcs z h).1.below b3,(O2.out.pcs z h).2⟩));clear p3 b3 hP3 ND OW1 OW2)
     |(go_at_call 36;(with_reducible refine HSH.out.mono ?_);rintro e w4 ⟨DB,dl,db,rfl,p4,b4⟩;have B4:=Lib.hid (B3.out.trans (b4.mono B3.out.size));have P4:=Lib.hid p4;have T4:=Lib.hid (P3.out.below b4);have OW14:=Lib.hid (own_below OW13.out b4);have OW24:=Lib.hid (own_below OW23.out b4);have PA4:=Lib.hid (fun z hz=>(show Po w4 z∧z.2.2.2.length≤100 from⟨(PA3.out z hz).1.below b4,(PA3.out z hz).2⟩));clear p4 b4 HSH OW13 OW23)
     |(at_builtin;refine wpList_append_sl rfl (.tmp 88) (.tmp 89) 23 rfl w.heap.size 22 i0 _ 24 Tryd.underlying23 hi hz0 hz1 hz2 rfl (.slice TA1 U1 tc1) U1 (us1.map rwv) rfl OW14.out TA2 U2 tc2 (us2.map rwv) rfl (own_sl OW24.out).2 (own_sl OW24.out).1 (rwv_one us2) (by unfold maxLen;omega) (by omega) B4.out.size ?_;intro v5 w5 hown5 hgrow5;have B5:=Lib.hid (B4.out.grown hgrow5 B4.out.size (own_rows OW14.out));have PA5:=Lib.hid (fun z hz=>(show Po w5 z∧z.2.2.2.length≤100 from⟨(PA4.out z hz).1.grown OW14.out hgrow5,(PA4.out z hz).2⟩));have T5:=Lib.hid (T4.out.grown OW14.out hgrow5);have P5:=Lib.hid (P4.out.grown OW14.out hgrow5);have W5:=Lib.hid hown5;clear hown5 hgrow5)
     |(at_builtin;refine wpList_append_sl rfl (.tmp 90) (.tmp 92) 23 rfl w.heap.size 22 i0 _ 24 Tryd.underlying23 hi hz0 hz1 hz2 rfl v5 (U1+U2) (us1.map rwv ++ us2.map rwv) rfl (own_alloc W5.out _) (some ⟨w5.heap.size,0,none⟩) 1 1 [.slice TB tl tb] rfl (fun h=>by cases h) (Sl.new_ w5 22 [.slice TB tl tb]) (fun u hu=>by simp at hu;subst hu;rfl) (by unfold maxLen;omega) (by omega) (by have:=B5.out.size;simp;omega) ?_;intro v6 w6 hown6 hgrow6;have B6:=Lib.hid ((B5.out.alloc B5.out.size (.cells #[.slice TB tl tb] 22)).grown hgrow6 (by have:=B5.out.size;simp;omega) (own_rows W5.out));have PA6:=Lib.hid (fun z hz=>(show Po w6 z∧z.2.2.2.length≤100 from⟨((PA5.out z hz).1.alloc (.cells #[.slice TB tl tb] 22)).grown (own_alloc W5.out _) hgrow6,(PA5.out z hz).2⟩));have T6:=Lib.hid ((T5.out.alloc (.cells #[.slice TB tl tb] 22)).grown (own_alloc W5.out _) hgrow6);have P6:=Lib.hid ((P5.out.alloc (.cells #[.slice TB tl tb] 22)).grown (own_alloc W5.out _) hgrow6);have W6:=Lib.hid hown6;clear hown6 hgrow6))
    refine bodyPost_ret (results_tmp4 rfl _ _ _) rfl ?_
    have hdl:dl=32:=by have h:=P6.out.1.len;change dl=(Sh.dg false _).length at h;rw[dg32_len] at h;exact h
    subst hdl
    refine⟨(DB,32,db,Sh.dg false (1 :: (rx ++ sx))),R2,k2,cR2,j2,v6,us1 ++ us2 ++ [(TB,tl,tb,1 :: (rx ++ sx))],false,rfl,P6.out.1,by rw[dg32_len];exact Nat.le_refl _,RS2.out,?_,⟨?_,fun z hz=>?_⟩,?_,fun h=>?_,B6.out⟩
    ·rw[CN.out]
     rw[decide_eq_false (by omega)]
    ·rw[List.length_append,List.length_append,List.length_singleton,←HU1.out,←HU2.out,List.map_append,List.map_append]
     exact W6.out
    ·rcases List.mem_append.1 hz with h|h
     ·exact PA6.out z h
     ·have:z=(TB,tl,tb,1 :: (rx ++ sx)):=by simpa using h
      subst this
      refine⟨T6.out,?_⟩
      show(1 :: (rx ++ sx)).length≤100
      rw[List.length_cons,List.length_append]
      have:=L1.out
      have:=L2.out
      omega
    ·rw[List.length_append,List.length_append,List.length_singleton,←HU1.out,←HU2.out]
     omega
    ·rw[CN.out] at h
     omega
  ·obtain rfl:n=1:=by omega
   have CN:=Lib.hid (show(bes f t a 1).length=0 from by rw[bes_one hap rfl];rfl)
   obtain⟨i,hi'⟩:∃i,i=a - f:=⟨_,rfl⟩
   have e1:(a:Int) - (f:Int)=(i:Int):=by omega
   have hil:i < ml:=by omega
   have EV:=Lib.hid (upv_one (lv:=con Lv) (pr:=con Q) (j:=j) hap rfl LVL.out)
   rw[←hi'] at EV
   have EC:=Lib.hid (clt_one (lv:=con Lv) (pr:=con Q) (f:=f) (t:=t) (a:=a) (j:=j) (show 1 < 2 by decide))
   have hLw:=HL0.out.below hb0
   obtain⟨ad,hB,hcell0⟩:=hLw.row.at_ hil
   subst hB
   obtain⟨r,hr⟩:∃r,Lv[i]?=some r:=⟨Lv[i]'(by have:=HL0.out.len;omega),List.getElem?_eq_getElem _⟩
   have hpr:=hLw.pcs r (List.mem_of_getElem? hr)
   have hcell1:w.cell? (ad.add i)=some (rwv r):=by rw[hcell0,List.getElem?_map,hr];rfl
   have KEY:=Lib.hid (show ClimbQ w0 (con Lv) (con Q) Q m f t a 1 j w (.returned (.tuple #[rwv r,.slice R k cR,.slice none 0 0,.bool true])) w from
    ⟨r,R,k,cR,j,.slice none 0 0,[],true,rfl,hpr.1,by rw[hpr.2];exact Nat.le_refl _,hR,by rw[CN.out,decide_eq_true (by have:=hR.len;omega)],⟨own_nil _ _ _,fun r hr=>by cases hr⟩,by simp,fun h=>⟨by rw[CN.out];rfl,by rw[EV.out,List.getD_eq_getElem?_getD,con,List.getElem?_map,hr];rfl,EC.out.symm⟩,Below.refl _ _⟩)
   obtain⟨Y1,Y2,Y3,Y4⟩:=r
   have hcell2:w.cell? (ad.add i)=some (.slice Y1 Y2 Y3):=hcell1
   rw[show rwv (Y1,Y2,Y3,Y4)=Value.slice Y1 Y2 Y3 from rfl] at KEY
   clear q1
   have q1:¬(a:Int)+1≤(f:Int):=by omega
   have z1:(0:Int)≤(i:Int):=by omega
   have z2:(i:Int) < (ml:Int):=by omega
   clear ih hb0 hR hap hpr hr hLw hi' hcell0 hcell1
   go_enter Tryd.func28,Tryd.ntmps28
   go_wp2_with fail
   refine bodyPost_ret (results_tmp4 rfl _ _ _) rfl ?_
   exact KEY.out
end Go.Proofs.YtnnfpmebopgogaaDoor.Mk
