/- Joined texts. -/
import Derived.Deep.DeepCutAuto
import Derived.Outline
import Derived.Test.YtnnfpmebopgogaaDoorQsMpHalf
import Derived.Test.YtnnfpmebopgogaaDoorQsSaD
set_option linter.unusedVariables false
namespace Go.Proofs.YtnnfpmebopgogaaDoor.Sh
open Go.RowKit Go.Proofs.YtnnfpmebopgogaaDoor.Gn Go.Deep
attribute [local go_sem ↓] Go.wp_at_zero Go.wp_at_succ
def nl(l:List Nat):List Value:=l.map fun(x:Nat)=>Value.int .u64 (x:Int)
theorem nl_length(l:List Nat):(nl l).length=l.length:=by simp[nl]
theorem nl_get(l:List Nat)(k:Nat):(nl l)[k]?=l[k]?.map fun(x:Nat)=>Value.int .u64 (x:Int):=by simp[nl]
theorem nl_one(l:List Nat):∀u∈nl l,u.oneCell'=true:=by
 intro u hu;simp[nl] at hu;obtain⟨y,-, rfl⟩:=hu;rfl
theorem nl_append(l k:List Nat):nl (l ++ k)=nl l ++ nl k:=by simp[nl]
theorem info64:(Tryd.prog.info? 97).map (fun i=>(i.zero,i.size,i.bytes))=some (some (.int .u64 0),1,8):=by kernel_rfl
theorem wrap_ge(x:Int):0≤IntKind.u64.wrap x:=by rw[IntKind.wrap_u64];omega
theorem wrap_lt(x:Int):IntKind.u64.wrap x < 18446744073709551616:=by rw[IntKind.wrap_u64];omega
theorem sl_byte{w:World}{ad:Addr}{n:Nat}{l:List Nat}(h:Sl w (some ad) n (bl l)){p:Nat}(hp:p < n):w.cell? (ad.add p)=some (.int .u8 ((l.getD p 0:Nat):Int)):=by
 have hl:p < l.length:=by have:=h.1;rw[bl_length] at this;omega
 obtain⟨ad',e,hc⟩:=h.2 p (.int .u8 ((l.getD p 0:Nat):Int)) (by rw[bl_get,List.getElem?_eq_getElem hl];simp[hl])
 cases e
 exact hc
theorem sl_num{w:World}{ad:Addr}{n:Nat}{l:List Nat}(h:Sl w (some ad) n (nl l)){p:Nat}(hp:p < n):w.cell? (ad.add p)=some (.int .u64 ((l.getD p 0:Nat):Int)):=by
 have hl:p < l.length:=by have:=h.1;rw[nl_length] at this;omega
 obtain⟨ad',e,hc⟩:=h.2 p (.int .u64 ((l.getD p 0:Nat):Int)) (by rw[nl_get,List.getElem?_eq_getElem hl];simp[hl])
 cases e
 exact hc
theorem range_snoc(b:Bool)(blk:List Nat)(t:Nat):(List.range (t+1)).map (fw b blk)=(List.range t).map (fw b blk) ++ [fw b blk t]:=by
 rw[List.range_succ,List.map_append];rfl
theorem fw_take32(blk:List Nat)(t:Nat):jn ((blk.drop (t*4)).take 4)=fw false blk t:=rfl
theorem join32(s y:Nat)(hs:s < 256 ^ (4 - 1))(hy:y < 256):IntKind.u64.wrap (IntKind.u64.wrap ((s:Int)*256)+IntKind.u64.wrap (y:Int))=((s*256+y:Nat):Int):=by
 have h':s < 18446744073709551616 / 256:=Nat.lt_of_lt_of_le hs (by decide)
 simp only[IntKind.wrap_u64];omega
def E132(blk:List Nat)(w0:World)(o i:Value)(wr:World):Prop :=
 ∃t:Nat,t≤16∧i=.int .i64 (t:Int)∧wr.ownsRow w0.heap.size 97 1 o t (nl ((List.range t).map (fw false blk)))∧Below w0.heap.size w0 wr
def E332(blk:List Nat)(w0:World)(o i:Value)(wr:World):Prop :=
 ∃T:Nat,16≤T∧T≤64∧i=.int .i64 (T:Int)∧wr.ownsRow w0.heap.size 97 1 o T (nl (ex false blk (T - 16)))∧Below w0.heap.size w0 wr
set_option maxRecDepth 100000 in
set_option maxHeartbeats 4000000 in
theorem expand32_any(ad:Addr)(c:Nat)(blk:List Nat)(w:World)(hb:∀x∈blk,x < 256)(hs:Sl w (some ad) 64 (bl blk)) :
  Calls Tryd.prog 83 #[.agg rv32,.slice (some ad) 64 c] w fun e w'=>∃v,e=.returned v∧w'.ownsRow w.heap.size 97 1 v 64 (nl (wds false blk))∧Below w.heap.size w w':=by
 have HB:=Lib.hid hb
 have HS:=Lib.hid hs
 clear hb hs
 obtain⟨i0,hi,hz0,hz1,hz2⟩:=info_parts info64
 unfold rv32
 go_enter Tryd.func83,Tryd.ntmps83
 go_upto_region 1 with fail
 have c0:(w.alloc (.cells #[.int .u64 4294967296,.int .u64 32] 100)).cell? ⟨w.heap.size,0,none⟩=some (.int .u64 4294967296):=(Bl.new_ w 100 #[.int .u64 4294967296,.int .u64 32]).cell_ rfl
 have c1:(w.alloc (.cells #[.int .u64 4294967296,.int .u64 32] 100)).cell? ⟨w.heap.size,1,none⟩=some (.int .u64 32):=(Bl.new_ w 100 #[.int .u64 4294967296,.int .u64 32]).cell_ rfl
 have b0:Below w.heap.size w (w.alloc (.cells #[.int .u64 4294967296,.int .u64 32] 100)):=(Below.refl _ _).alloc (Nat.le_refl _) _
 have z0:w.heap.size < (w.alloc (.cells #[.int .u64 4294967296,.int .u64 32] 100)).heap.size:=by simp
 generalize hw0:w.alloc _=w0 at c0 c1 b0 z0 ⊢
 clear hw0
 have B0:=Lib.hid b0
 have C0:=Lib.hid c0
 have Z0:=Lib.hid z0
 clear b0 z0
 go_wp2_with fail
 clear c0
 have C1:=Lib.hid c1
 clear c1
 go_loopw [6,7] (fun o i wr=>E132 blk w0 o i wr) (fun _ i _=>16 - (intOf i).toNat)
 case atStart=>exact⟨0,Nat.zero_le _,rfl,own_nil _ _ _,Below.refl _ _⟩
 case round =>
  obtain⟨t,ht,rfl,hown,hbel⟩:=hrel
  have H1:=Lib.hid hown
  have H2:=Lib.hid hbel
  obtain⟨A2,cap2,rfl,hsl2,hnil2,hlc2,hmax2,hA2⟩:=Sl.own hown
  have H3:=Lib.hid hsl2
  have H4:=Lib.hid hnil2
  have H5:=Lib.hid hA2
  have S1:=Lib.hid (HS.out.below (B0.out.trans (hbel.mono B0.out.size)))
  clear hown hbel hsl2 hnil2 hmax2 hA2
  by_cases hlt:t < 16
  ·go_wp2_with fail
   go_loop [8,9] (fun x i=>∃j:Nat,j≤4∧i=.int .i64 (j:Int)∧x=.int .u64 ((jn ((blk.drop (t*4)).take j):Nat):Int)) (fun _ i=>4 - (intOf i).toNat)
   case atStart=>exact⟨0,Nat.zero_le _,rfl,rfl⟩
   case round =>
    obtain⟨j,hj,rfl,rfl⟩:=hrel
    by_cases hjl:j < 4
    ·obtain⟨p,hp⟩:∃p,p=t*4+j:=⟨_,rfl⟩
     have hpB:p < 64:=by omega
     have ep:(t:Int)*4+(j:Int)=(p:Int):=by omega
     have hc:=sl_byte S1.out hpB
     obtain⟨y,hy⟩:∃y,y=blk.getD p 0:=⟨_,rfl⟩
     rw[←hy] at hc
     have hlen:blk.length=64:=by have:=HS.out.1;rwa [bl_length] at this
     have hy2:blk[p]?=some y:=by rw[hy,List.getElem?_eq_getElem (by omega)];simp[hlen,hpB]
     have hyb:y < 256:=HB.out y (List.mem_of_getElem? hy2)
     obtain⟨s,hs⟩:∃s,s=jn ((blk.drop (t*4)).take j):=⟨_,rfl⟩
     rw[←hs]
     have hstep:jn ((blk.drop (t*4)).take (j+1))=s*256+y:=by
      rw[take_snoc _ j y (by rw[List.getElem?_drop,←hp];exact hy2),jn_snoc,←hs]
     have hsb:s < 256 ^ (4 - 1):=by
      rw[hs]
      exact jn_take_lt _ j 4 (fun x hx=>HB.out x (List.mem_of_mem_drop hx)) hjl (by decide)
     have HST:=Lib.hid hstep
     have HSB:=Lib.hid hsb
     have HY:=Lib.hid hyb
     have bp:(p:Int) < 64:=by omega
     clear hy hy2 hyb hs hstep hsb hp hlen
     go_wp2_with fail
     go_round
     case rel =>
      refine⟨j+1,by omega,by go_num,?_⟩
      rw[HST.out]
      exact congrArg _ (join32 s y HSB.out HY.out)
     case measure=>simp[intOf];omega
    ·obtain rfl:j=4:=by omega
     rw[fw_take32]
     obtain⟨x,hx⟩:∃x,x=fw false blk t:=⟨_,rfl⟩
     rw[←hx]
     have HX:=Lib.hid hx
     clear hx
     go_wp2_with (at_builtin;refine wpList_append_sl rfl _ _ 102 rfl w0.heap.size 97 i0 _ 8 Tryd.underlying102 hi hz0 hz1 hz2 rfl _ t (nl ((List.range t).map (fw false blk))) rfl (own_below H1.out ((Below.refl _ _).alloc (Nat.le_refl _) _)) (some ⟨wr.heap.size,0,none⟩) 1 1 [.int .u64 (x:Int)] rfl (fun h=>by cases h) ?c1 ?c2 ?c3 ?c4 ?c5 ?_)
     case c1=>exact Sl.new_ wr _ [.int .u64 (x:Int)]
     case c2=>first|rfl|exact nl_one [x]
     case c3=>unfold maxLen;omega
     case c4=>omega
     case c5=>have:=H2.out.size;simp;omega
     intro v' w1 hown1 hgrow
     have hbel1:Below w0.heap.size w0 w1:=(H2.out.alloc H2.out.size _).grown hgrow (by have:=H2.out.size;simp;omega) (by
      intro g hg;simp only[Value.ownBlock] at hg;cases hA':A2 with
      |none=>rw[hA'] at hg;cases hg
      |some a=>rw[hA'] at hg;simp at hg;have:=H5.out a hA';omega)
     have HO1:=Lib.hid hown1
     have HB1:=Lib.hid hbel1
     clear hown1 hgrow hbel1
     go_wp2_with fail
     go_roundw
     case rel =>
      refine⟨t+1,by omega,by go_num,?_,HB1.out⟩
      rw[range_snoc,nl_append,←HX.out]
      exact HO1.out
     case measure=>simp[intOf];omega
  ·have c0:=keepc H2.out C0.out
   have e16:((t:Nat):Int)=16:=by omega
   rw[e16]
   clear e16
   obtain rfl:t=16:=by omega
   obtain⟨wq,rfl⟩:∃wq:World,wq=wr:=⟨_,rfl⟩
   go_wp2_with fail
   clear c0
   go_loopw [6,11] (fun o i wr=>E332 blk w0 o i wr) (fun _ i _=>64 - (intOf i).toNat)
   case atStart=>exact⟨16,Nat.le_refl _,by decide,rfl,H1.out,H2.out⟩
   case round =>
    obtain⟨T,hT1,hT2,rfl,hown,hbel⟩:=hrel
    have G1:=Lib.hid hown
    have G2:=Lib.hid hbel
    obtain⟨A3,cap3,rfl,hsl3,hnil3,hlc3,hmax3,hA3⟩:=Sl.own hown
    obtain⟨a3,rfl,-⟩:=hsl3.at_ (show 0 < T by omega)
    have G3:=Lib.hid hsl3
    have G5:=Lib.hid (hA3 a3 rfl)
    clear hown hbel hsl3 hnil3 hmax3 hA3
    by_cases hlt3:T < 64
    ·obtain⟨E,hE⟩:∃E,E=ex false blk (T - 16):=⟨_,rfl⟩
     have hEl:E.length=T:=by rw[hE,ex_length];omega
     rw[←hE] at G1 G3
     obtain⟨a,ha⟩:∃a,a=T - 16:=⟨_,rfl⟩
     obtain⟨b,hb⟩:∃b,b=T - 7:=⟨_,rfl⟩
     obtain⟨c',hc'⟩:∃c,c=T - 15:=⟨_,rfl⟩
     obtain⟨d,hd⟩:∃d,d=T - 2:=⟨_,rfl⟩
     have ea:(T:Int) - 16=(a:Int):=by omega
     have eb:(T:Int) - 7=(b:Int):=by omega
     have ec:(T:Int) - 15=(c':Int):=by omega
     have ed:(T:Int) - 2=(d:Int):=by omega
     have la:a < T:=by omega
     have lb:b < T:=by omega
     have lc:c' < T:=by omega
     have ld:d < T:=by omega
     have ca:=sl_num G3.out la
     have cb:=sl_num G3.out lb
     have cc:=sl_num G3.out lc
     have cd:=sl_num G3.out ld
     obtain⟨xa,hxa⟩:∃x,x=E.getD a 0:=⟨_,rfl⟩
     obtain⟨xb,hxb⟩:∃x,x=E.getD b 0:=⟨_,rfl⟩
     obtain⟨xc,hxc⟩:∃x,x=E.getD c' 0:=⟨_,rfl⟩
     obtain⟨xd,hxd⟩:∃x,x=E.getD d 0:=⟨_,rfl⟩
     rw[←hxa] at ca
     rw[←hxb] at cb
     rw[←hxc] at cc
     rw[←hxd] at cd
     have HX:=Lib.hid (And.intro (And.intro hxa hxb) (And.intro hxc hxd))
     have HI:=Lib.hid (And.intro (And.intro ha hb) (And.intro hc' hd))
     have HE:=Lib.hid (And.intro hE hEl)
     clear hxa hxb hxc hxd ha hb hc' hd hE hEl
     have la':(a:Int) < (T:Int):=by omega
     have lb':(b:Int) < (T:Int):=by omega
     have lc':(c':Int) < (T:Int):=by omega
     have ld':(d:Int) < (T:Int):=by omega
     have c0:=keepc G2.out C0.out
     have c1:=keepc G2.out C1.out
     have EQ:=Lib.hid (And.intro ec ed)
     clear ec ed
     go_wp2_with fail
     go_quiet (fail)
     obtain⟨w3,hw3⟩:∃w3,w3=wr.drewN nq:=⟨_,rfl⟩
     rw[←hw3]
     have d0:w3.cell? ⟨w.heap.size,0,none⟩=some (.int .u64 4294967296):=by rw[hw3];exact c0
     have d1:w3.cell? ⟨w.heap.size,1,none⟩=some (.int .u64 32):=by rw[hw3];exact c1
     have dc:w3.cell? (a3.add c')=some (.int .u64 (xc:Int)):=by rw[hw3];exact cc
     have dd:w3.cell? (a3.add d)=some (.int .u64 (xd:Int)):=by rw[hw3];exact cd
     have B3:=Lib.hid (show Below wr.heap.size wr w3 by rw[hw3];exact below_drewN (Below.refl _ _) nq)
     clear c0 c1 ca cb cc cd hw3 ea eb
     have hxc:xc < 4294967296:=by rw[HX.out.2.1,HE.out.1];exact ex_get_lt false blk HB.out _ _
     have hxd:xd < 4294967296:=by rw[HX.out.2.2,HE.out.1];exact ex_get_lt false blk HB.out _ _
     have SA:=Lib.hid (show ∀w,Calls Tryd.prog 92 #[.agg #[.int .u64 4294967296,.int .u64 32],.int .u64 (xc:Int),(.int .u64 7),(.int .u64 18),(.int .u64 3)] w fun e w'=>e=.returned (.int .u64 ((s0 false xc:Nat):Int))∧Below w.heap.size w w' from fun w=>rsmall32 xc _ _ _ w (Lib.hid hxc) (by decide) (by decide) (by decide) (by decide) (by decide))
     have SB:=Lib.hid (show ∀w,Calls Tryd.prog 92 #[.agg #[.int .u64 4294967296,.int .u64 32],.int .u64 (xd:Int),(.int .u64 17),(.int .u64 19),(.int .u64 10)] w fun e w'=>e=.returned (.int .u64 ((s1 false xd:Nat):Int))∧Below w.heap.size w w' from fun w=>rsmall32 xd _ _ _ w (Lib.hid hxd) (by decide) (by decide) (by decide) (by decide) (by decide))
     have HC:=Lib.hid (fun X h0 h1 w=>cut32 X h0 h1 w)
     unfold rv32 at HC
     clear hxc hxd
     have ec:=EQ.out.1
     have ed:=EQ.out.2
     have ecw:IntKind.i64.wrap (c':Int)=(c':Int):=IntWalk.i64_in _ (by omega)
     have edw:IntKind.i64.wrap (d:Int)=(d:Int):=IntWalk.i64_in _ (by omega)
     have ecn:(0:Int)≤(c':Int):=by omega
     have edn:(0:Int)≤(d:Int):=by omega
     go_wp2_with fail
     go_region_held3 (fun x'=>x'.cell? ⟨w.heap.size,0,none⟩=some (.int .u64 4294967296)∧x'.cell? ⟨w.heap.size,1,none⟩=some (.int .u64 32)∧x'.cell? (a3.add c')=some (.int .u64 (xc:Int))∧x'.cell? (a3.add d)=some (.int .u64 (xd:Int)))
      (first|exact⟨d0,d1,dc,dd⟩|exact⟨keepc K2 d0,keepc K2 d1,keepc K2 dc,keepc K2 dd⟩|exact⟨keepc K1 d0,keepc K1 d1,keepc K1 dc,keepc K1 dd⟩)
      (first|(go_at_call 92;(with_reducible refine(SA.out _).mono ?_);rintro e w4 ⟨rfl,hb4⟩;have K1:=k_drew hb4)|(go_at_call 92;(with_reducible refine(SB.out _).mono ?_);rintro e w5 ⟨rfl,hb5⟩;have K2:=K1.trans (hb5.mono K1.size)))
     rename_i hHeld
     clear hHeld
     have e0:=keepc K2 d0
     have e1:=keepc K2 d1
     have B5:=Lib.hid (B3.out.trans (K2.mono B3.out.size))
     clear hb4 hb5 K1 K2 d0 d1 dc dd ec ed ecw edw ecn edn
     obtain⟨y,hy⟩:∃y:Nat,y=nx false E:=⟨_,rfl⟩
     have ey:IntKind.u64.wrap (IntKind.u64.wrap (IntKind.u64.wrap ((xa:Int)+(xb:Int))+((s0 false xc:Nat):Int))+((s1 false xd:Nat):Int))%4294967296=(y:Int):=by
      have hn:=nx_ex false blk (T - 16)
      rw[←HE.out.1] at hn
      rw[hn,←HI.out.1.1,show a+1=c' by have:=HI.out;omega,show a+9=b by have:=HI.out;omega,show a+14=d by have:=HI.out;omega,←HX.out.1.1,←HX.out.1.2,←HX.out.2.1,←HX.out.2.2,mo_false] at hy
      rw[hy]
      simp only[IntKind.wrap_u64]
      omega
     have HCY:=Lib.hid (fun w=>HC.out (IntKind.u64.wrap (IntKind.u64.wrap (IntKind.u64.wrap ((xa:Int)+(xb:Int))+((s0 false xc:Nat):Int))+((s1 false xd:Nat):Int))) (wrap_ge _) (Lib.hid (wrap_lt _)) w)
     rw[ey] at HCY
     have HY:=Lib.hid hy
     clear hy ey
     go_wp2_with (first|(go_at_call 85;(with_reducible refine(HCY.out _).mono ?_);rintro e w6 ⟨rfl,hb6⟩;have B6:=Lib.hid (B5.out.trans (hb6.mono B5.out.size));clear hb6 e0 e1)|(at_builtin;refine wpList_append_sl rfl _ _ 102 rfl w0.heap.size 97 i0 _ 8 Tryd.underlying102 hi hz0 hz1 hz2 rfl _ T (nl E) rfl (own_below G1.out (B6.out.alloc B6.out.size _)) (some ⟨w6.heap.size,0,none⟩) 1 1 [.int .u64 (y:Int)] rfl (fun h=>by cases h) ?c1 ?c2 ?c3 ?c4 ?c5 ?_))
     case c1=>exact Sl.new_ w6 _ [.int .u64 (y:Int)]
     case c2=>first|rfl|exact nl_one [y]
     case c3=>unfold maxLen;omega
     case c4=>omega
     case c5=>have:=G2.out.size;have:=B6.out.size;simp;omega
     intro v' w7 hown1 hgrow
     have hbel1:Below w0.heap.size w0 w7:=((G2.out.trans (B6.out.mono G2.out.size)).alloc (by have:=G2.out.size;have:=B6.out.size;omega) _).grown hgrow (by have:=G2.out.size;have:=B6.out.size;simp;omega) (by
      intro g hg;simp only[Value.ownBlock] at hg;simp at hg;have:=G5.out;omega)
     have HO1:=Lib.hid hown1
     have HB1:=Lib.hid hbel1
     clear hown1 hgrow hbel1
     go_wp2_with fail
     go_roundw
     case rel =>
      refine⟨T+1,by omega,by omega,by go_num,?_,HB1.out⟩
      rw[show T+1 - 16=T - 16+1 by omega,ex,nl_append,←HE.out.1,←HY.out]
      exact HO1.out
     case measure=>simp[intOf];omega
    ·obtain rfl:T=64:=by omega
     go_wp2_with fail
     go_ret
     exact⟨_,rfl,own_base G1.out (by have:=Z0.out;omega),B0.out.trans (G2.out.mono B0.out.size)⟩
end Go.Proofs.YtnnfpmebopgogaaDoor.Sh
