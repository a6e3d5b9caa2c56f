/- Joined texts. -/
import Derived.Test.YtjimhjfjfpeojaaGreatDoorQvAvVf
import Derived.SevenTiedAt
import Derived.LaidMore
import Derived.Lib.LaidTab
import Derived.Stop.LaidErr
import Derived.Deep.DeepHandedRow
import Derived.Test.YtjimhjfjfpeojaaGreatDoorQvEdA
import Derived.Test.YtjimhjfjfpeojaaGreatDoorQvFaE
import Derived.Test.YtjimhjfjfpeojaaGreatDoorQvSaB
import Derived.Test.YtjimhjfjfpeojaaGreatDoorRows
import Derived.Test.YtjimhjfjfpeojaaGreatDoorQvFsJoin
set_option maxRecDepth 100000
set_option maxHeartbeats 8000000
set_option linter.unusedVariables false
namespace Go.Proofs.YtjimhjfjfpeojaaGreatDoor.Av
open Go.RowKit Go.Proofs.YtjimhjfjfpeojaaGreatDoor.Gn Go.Proofs.YtjimhjfjfpeojaaGreatDoor.Fd Go.Proofs.YtjimhjfjfpeojaaGreatDoor.Ed Go.Deep
theorem Zjn{kl ml sl:List Nat}(hk:∀x∈kl,x < 256)(hm:∀x∈ml,x < 256)(hs:∀x∈sl,x < 256)(hn:ml.length≤65536){b:G}(hb:Hp Z40 b) :
  ∃v:Int,(∀w,TabE w→Sh.Tab w→TabL w→FnAt Tryz.prog [] w 36 [byt true kl,byt true ml,byt true sl] (.lit (.int .i64 v)))∧(∀w,FnAt Tryz.prog [.u64] w 37 [byt true kl,byt true ml,byt true sl] (.lit (.int .i64 v))):=by
 rcases Zjm hk with h32|⟨h32,h1,h2⟩|⟨p,t,g,h32,h1,h2,h3,h4,h5,h6⟩
 ·exact⟨1,fun w _ _ _=>Zhc (.inl h32) hk hm hs w,fun w=>Zo0 hk hm hs h32 w⟩
 ·by_cases h64:sl.length=64
  ·exact⟨41,fun w tab _ _=>Zrp h32 h64 hn hk hm hs h1 w tab,fun w=>Zrr hk hm hs h32 h64 hn h2 w⟩
  ·exact⟨1,fun w _ _ _=>Zhc (.inr ⟨h32,h64⟩) hk hm hs w,fun w=>Zhd hk hm hs h32 h64 w⟩
 ·by_cases h64:sl.length=64
  ·refine⟨vend kl ml sl g b,fun w tab ts tl=>Zrq h32 h64 hn hk hm hs hb h1 h3 w tab ts tl,fun w=>?_⟩
   by_cases hz:Z2j (sl.drop 32)=0
   ·have e:vend kl ml sl g b=if by_ (gb (ga (ti (le (scb (sl.take 32 ++ (kl ++ ml)))) (gn g)) (ti (le (sl.drop 32)) b))) 32=sl.take 32 then 0 else 42:=by unfold vend;rw[if_pos hz]
    rw[e]
    exact Zo2 hk hm hs h32 h64 hn h2 h5 hz (X:=two3 (scb (sl.take 32 ++ (kl ++ ml))) (sl.drop 32) ⟨(0+(pp - t.x))%pp,t.y,t.z⟩ Zgn) Znz (fun w=>Ztl (by rw[Z7j];decide) (by simp;omega) (Zny h5) Zj0 w) (R3.encL (R3.two (Zkn _) (Zb8 hs 32) (R3.neg h4 h5.x) (Zj1 hb))) w
   ·have e:vend kl ml sl g b=42:=by unfold vend;rw[if_neg hz]
    rw[e]
    exact Zo1 hk hm hs h32 h64 hn h2 h5 hz w
  ·exact⟨1,fun w _ _ _=>Zhc (.inr ⟨h32,h64⟩) hk hm hs w,fun w=>Zhd hk hm hs h32 h64 w⟩
theorem Z9r{kl ml sl:List Nat}(hV:ml.length≤65536→∃v:Int,(∀w,TabE w→Sh.Tab w→TabL w→FnAt Tryz.prog [] w 36 [byt true kl,byt true ml,byt true sl] (.lit (.int .i64 v)))∧(∀w,FnAt Tryz.prog [.u64] w 37 [byt true kl,byt true ml,byt true sl] (.lit (.int .i64 v))))(w:World)(tab:TabE w)(ts:Sh.Tab w)(tl:TabL w):FnAt Tryz.prog [.u64] w 8 [byt true kl,byt true ml,byt true sl] (.lit (.bool true)):=by
 refine FnAt.of Tryz.f8 _ _ Tryz.func8 Tryz.ntmps8 rfl (by kernel_rfl) (fun _ _=>by kernel_rfl) fun O=>?_
 show PW _ _ _ ⟨[(0,.c (.dv _)),(1,.c (.dv _)),(2,.c (.dv _))],[]⟩
 refine(PW.seq ?_:PW _ _ _ _)
 refine(PW.region ?_:PW _ _ _ _)
 refine PL.mu rfl rfl rfl rfl rfl ?_
 refine PL.nil ?_
 refine(PW.seq ?_:PW _ _ _ _)
 refine(PW.seq ?_:PW _ _ _ _)
 rcases(show(300 < ml.length)∨(ml.length≤300∧100 < kl.length)∨(ml.length≤300∧kl.length≤100∧100 < sl.length)∨(ml.length≤300∧kl.length≤100∧sl.length≤100) by omega) with hn|⟨hn,h1⟩|⟨hn,h1,h2⟩|⟨hn,h1,h2⟩
 ·skip
  refine(PW.region ?_:PW _ _ _ _)
  refine PL.mv rfl rfl rfl rfl rfl ?_
  refine PL.step rfl rfl rfl (PS.len (n:=ml.length) rfl rfl Tryz.underlying22 (by decide) (by simp[bl])) ?_
  refine PL.step rfl rfl rfl (PS.decT (PS.gtr rfl rfl rfl) (by omega)) ?_
  refine PL.mv rfl rfl rfl rfl rfl ?_
  refine PL.stepP rfl rfl rfl (by decide) rfl rfl ?_
  refine PL.stepP rfl rfl rfl (by decide) rfl rfl ?_
  refine PL.stepP rfl rfl rfl (by decide) rfl rfl ?_
  refine PL.pT rfl rfl rfl rfl rfl rfl ?_
  refine PL.mv rfl rfl rfl rfl rfl ?_
  refine PL.stepP rfl rfl rfl (by decide) rfl rfl ?_
  refine PL.stepP rfl rfl rfl (by decide) rfl rfl ?_
  refine PL.stepP rfl rfl rfl (by decide) rfl rfl ?_
  refine PL.pT rfl rfl rfl rfl rfl rfl ?_
  refine PL.nil ?_
  show PW _ _ _ _
  refine PW.cond (b:=true) (by rfl) (fun _=>?_) (fun h=>nomatch h)
  refine(PW.seq ?_:PW _ _ _ _)
  refine(PW.region ?_:PW _ _ _ _)
  refine PL.call (xs:=[]) rfl rfl rfl rfl rfl rfl rfl (fun w hw=>Z8e w (tab.below hw.to_below) (ts.below hw.to_below)) ?_
  refine PL.mu rfl rfl rfl rfl rfl ?_
  refine PL.nil ?_
  refine(PW.ret ?_:PW _ _ _ _)
  exact Rt.as (Rt.one Tryz.results8 rfl) (le_refl _)
 ·skip
  refine(PW.region ?_:PW _ _ _ _)
  refine PL.mv rfl rfl rfl rfl rfl ?_
  refine PL.step rfl rfl rfl (PS.len (n:=ml.length) rfl rfl Tryz.underlying22 (by decide) (by simp[bl])) ?_
  refine PL.step rfl rfl rfl (PS.decF (PS.gtr rfl rfl rfl) (by omega)) ?_
  refine PL.mv rfl rfl rfl rfl rfl ?_
  refine PL.stepW rfl rfl rfl rfl rfl (PS.moved (r:=.c _) rfl rfl) ?_
  refine PL.stepW rfl rfl rfl rfl rfl (PS.len (n:=kl.length) rfl rfl Tryz.underlying22 (by decide) (by simp[bl])) ?_
  refine PL.stepW rfl rfl rfl rfl rfl (PS.decT (PS.gtr rfl rfl rfl) (by omega)) ?_
  refine PL.pF rfl rfl rfl rfl rfl rfl ?_
  refine PL.mv rfl rfl rfl rfl rfl ?_
  refine PL.stepP rfl rfl rfl (by decide) rfl rfl ?_
  refine PL.stepP rfl rfl rfl (by decide) rfl rfl ?_
  refine PL.stepP rfl rfl rfl (by decide) rfl rfl ?_
  refine PL.pT rfl rfl rfl rfl rfl rfl ?_
  refine PL.nil ?_
  show PW _ _ _ _
  refine PW.cond (b:=true) (by rfl) (fun _=>?_) (fun h=>nomatch h)
  refine(PW.seq ?_:PW _ _ _ _)
  refine(PW.region ?_:PW _ _ _ _)
  refine PL.call (xs:=[]) rfl rfl rfl rfl rfl rfl rfl (fun w hw=>Z8e w (tab.below hw.to_below) (ts.below hw.to_below)) ?_
  refine PL.mu rfl rfl rfl rfl rfl ?_
  refine PL.nil ?_
  refine(PW.ret ?_:PW _ _ _ _)
  exact Rt.as (Rt.one Tryz.results8 rfl) (le_refl _)
 ·skip
  refine(PW.region ?_:PW _ _ _ _)
  refine PL.mv rfl rfl rfl rfl rfl ?_
  refine PL.step rfl rfl rfl (PS.len (n:=ml.length) rfl rfl Tryz.underlying22 (by decide) (by simp[bl])) ?_
  refine PL.step rfl rfl rfl (PS.decF (PS.gtr rfl rfl rfl) (by omega)) ?_
  refine PL.mv rfl rfl rfl rfl rfl ?_
  refine PL.stepW rfl rfl rfl rfl rfl (PS.moved (r:=.c _) rfl rfl) ?_
  refine PL.stepW rfl rfl rfl rfl rfl (PS.len (n:=kl.length) rfl rfl Tryz.underlying22 (by decide) (by simp[bl])) ?_
  refine PL.stepW rfl rfl rfl rfl rfl (PS.decF (PS.gtr rfl rfl rfl) (by omega)) ?_
  refine PL.pF rfl rfl rfl rfl rfl rfl ?_
  refine PL.mv rfl rfl rfl rfl rfl ?_
  refine PL.stepW rfl rfl rfl rfl rfl (PS.moved (r:=.c _) rfl rfl) ?_
  refine PL.stepW rfl rfl rfl rfl rfl (PS.len (n:=sl.length) rfl rfl Tryz.underlying22 (by decide) (by simp[bl])) ?_
  refine PL.stepW rfl rfl rfl rfl rfl (PS.decT (PS.gtr rfl rfl rfl) (by omega)) ?_
  refine PL.pF rfl rfl rfl rfl rfl rfl ?_
  refine PL.nil ?_
  show PW _ _ _ _
  refine PW.cond (b:=true) (by rfl) (fun _=>?_) (fun h=>nomatch h)
  refine(PW.seq ?_:PW _ _ _ _)
  refine(PW.region ?_:PW _ _ _ _)
  refine PL.call (xs:=[]) rfl rfl rfl rfl rfl rfl rfl (fun w hw=>Z8e w (tab.below hw.to_below) (ts.below hw.to_below)) ?_
  refine PL.mu rfl rfl rfl rfl rfl ?_
  refine PL.nil ?_
  refine(PW.ret ?_:PW _ _ _ _)
  exact Rt.as (Rt.one Tryz.results8 rfl) (le_refl _)
 ·obtain⟨v,hP,hR⟩:=hV (by omega)
  refine(PW.region ?_:PW _ _ _ _)
  refine PL.mv rfl rfl rfl rfl rfl ?_
  refine PL.step rfl rfl rfl (PS.len (n:=ml.length) rfl rfl Tryz.underlying22 (by decide) (by simp[bl])) ?_
  refine PL.step rfl rfl rfl (PS.decF (PS.gtr rfl rfl rfl) (by omega)) ?_
  refine PL.mv rfl rfl rfl rfl rfl ?_
  refine PL.stepW rfl rfl rfl rfl rfl (PS.moved (r:=.c _) rfl rfl) ?_
  refine PL.stepW rfl rfl rfl rfl rfl (PS.len (n:=kl.length) rfl rfl Tryz.underlying22 (by decide) (by simp[bl])) ?_
  refine PL.stepW rfl rfl rfl rfl rfl (PS.decF (PS.gtr rfl rfl rfl) (by omega)) ?_
  refine PL.pF rfl rfl rfl rfl rfl rfl ?_
  refine PL.mv rfl rfl rfl rfl rfl ?_
  refine PL.stepW rfl rfl rfl rfl rfl (PS.moved (r:=.c _) rfl rfl) ?_
  refine PL.stepW rfl rfl rfl rfl rfl (PS.len (n:=sl.length) rfl rfl Tryz.underlying22 (by decide) (by simp[bl])) ?_
  refine PL.stepW rfl rfl rfl rfl rfl (PS.decF (PS.gtr rfl rfl rfl) (by omega)) ?_
  refine PL.pF rfl rfl rfl rfl rfl rfl ?_
  refine PL.nil ?_
  show PW _ _ _ _
  refine PW.cond (b:=false) (by rfl) (fun h=>nomatch h) (fun _=>?_)
  refine(PW.skip ?_:PW _ _ _ _)
  refine(PW.seq ?_:PW _ _ _ _)
  refine(PW.region ?_:PW _ _ _ _)
  refine PL.mv rfl rfl rfl rfl rfl ?_
  refine PL.mv rfl rfl rfl rfl rfl ?_
  refine PL.mv rfl rfl rfl rfl rfl ?_
  refine PL.call (xs:=[_,_,_]) rfl rfl rfl rfl rfl rfl rfl (fun w hw=>hP w (tab.below hw.to_below) (ts.below hw.to_below) (tl.below hw.to_below)) ?_
  refine PL.mv rfl rfl rfl rfl rfl ?_
  refine PL.mv rfl rfl rfl rfl rfl ?_
  refine PL.mv rfl rfl rfl rfl rfl ?_
  refine PL.call (xs:=[_,_,_]) rfl rfl rfl rfl rfl rfl rfl (fun w hw=>hR w) ?_
  refine PL.step rfl rfl rfl (PS.decT (PS.eql rfl rfl rfl) rfl) ?_
  refine PL.mv rfl rfl rfl rfl rfl ?_
  refine PL.stepW rfl rfl rfl rfl rfl (PS.call (xs:=[]) rfl rfl rfl rfl (fun w hw=>Z8e w (tab.below hw.to_below) (ts.below hw.to_below))) ?_
  refine PL.pT rfl rfl rfl rfl rfl rfl ?_
  refine PL.mu rfl rfl rfl rfl rfl ?_
  refine PL.nil ?_
  refine(PW.ret ?_:PW _ _ _ _)
  exact Rt.as (Rt.one Tryz.results8 rfl) (le_refl _)
theorem Z6t{w:World}(tab:TabE w∧Sh.Tab w∧TabL w)(A0:Option Addr)(n0 c0:Nat)(l0:List Nat)(hb0:BL w A0 n0 c0 l0)(A1:Option Addr)(n1 c1:Nat)(l1:List Nat)(hb1:BL w A1 n1 c1 l1)(A2:Option Addr)(n2 c2:Nat)(l2:List Nat)(hb2:BL w A2 n2 c2 l2):Calls Tryz.prog 8 #[.slice A0 n0 c0,.slice A1 n1 c1,.slice A2 n2 c2] w fun e w'=>e=.returned (.bool true)∧Below w.heap.size w w':=by
 obtain⟨b,hb⟩:=Z9j
 exact(Z9r (fun hn=>Zjn hb0.2.2.1 hb1.2.2.1 hb2.2.2.1 hn hb) w tab.1 tab.2.1 tab.2.2).run (vs:=[.slice A0 n0 c0,.slice A1 n1 c1,.slice A2 n2 c2]) rfl ⟨⟨_,rfl,Zha hb0⟩,⟨_,rfl,Zha hb1⟩,⟨_,rfl,Zha hb2⟩,trivial⟩
end Go.Proofs.YtjimhjfjfpeojaaGreatDoor.Av
namespace Go.Proofs.YtjimhjfjfpeojaaGreatDoor.Ed
open Go.RowKit Go.Proofs.YtjimhjfjfpeojaaGreatDoor.Gn Go.Proofs.YtjimhjfjfpeojaaGreatDoor.Fd Go.Deep Go.Proofs.YtjimhjfjfpeojaaGreatDoor
theorem gSt : Tryz.prog.globalNamed "imprimatur/sha2.starts" = some 5 := by kernel_rfl
theorem gCo : Tryz.prog.globalNamed "imprimatur/sha2.constants" = some 8 := by kernel_rfl
theorem gD : Tryz.prog.globalNamed "imprimatur/ed.d" = some 0 := by kernel_rfl
theorem gD2 : Tryz.prog.globalNamed "imprimatur/ed.twiceD" = some 1 := by kernel_rfl
theorem gBx : Tryz.prog.globalNamed "imprimatur/ed.baseX" = some 2 := by kernel_rfl
theorem gBy : Tryz.prog.globalNamed "imprimatur/ed.baseY" = some 3 := by kernel_rfl
theorem tSt:(Tryz.prog.globals[5]?).map (·.type)=some 97:=by kernel_rfl
theorem tCo:(Tryz.prog.globals[8]?).map (·.type)=some 170:=by kernel_rfl
theorem tD:(Tryz.prog.globals[0]?).map (·.type)=some 26:=by kernel_rfl
theorem tD2:(Tryz.prog.globals[1]?).map (·.type)=some 26:=by kernel_rfl
theorem tBx:(Tryz.prog.globals[2]?).map (·.type)=some 26:=by kernel_rfl
theorem tBy:(Tryz.prog.globals[3]?).map (·.type)=some 26:=by kernel_rfl
theorem c8:Tryz.prog.cellsOf 97=8:=by kernel_rfl
theorem c80:Tryz.prog.cellsOf 170=80:=by kernel_rfl
theorem Z6u(l:List Nat):(ints l).length=l.length:=by simp[ints]
theorem Z9s(l:List Nat)(i:Nat):(ints l).getD i 0=((l.getD i 0:Nat):Int):=by
 simp only[ints,List.getD_eq_getElem?_getD,List.getElem?_map]
 cases l[i]? <;> rfl
theorem Zo3:(Rows.laid_imprimatur_sha2_starts:DataW Unit)=Lib.tabData .u64 (ints Sh.sc):=by kernel_rfl
theorem Zo4:(Rows.laid_imprimatur_sha2_constants:DataW Unit)=Lib.tabData .u64 (ints Sh.kc):=by kernel_rfl
theorem Zrs:(Rows.laid_imprimatur_ed_d:DataW Unit)=Lib.tabData .u64 (ints (el dn).l):=by kernel_rfl
theorem Zo5:(Rows.laid_imprimatur_ed_twiceD:DataW Unit)=Lib.tabData .u64 (ints (el nd2).l):=by kernel_rfl
theorem Zo6:(Rows.laid_imprimatur_ed_baseX:DataW Unit)=Lib.tabData .u64 (ints (el nbx).l):=by kernel_rfl
theorem Zo7:(Rows.laid_imprimatur_ed_baseY:DataW Unit)=Lib.tabData .u64 (ints (el nby).l):=by kernel_rfl
theorem c5_of{W:World}{g n:Nat}(h:∀k,k < 5→W.cell? ⟨g,k,none⟩=some (.int .u64 ((ints (el n).l).getD k 0))):C5 W g (el n):=⟨h 0 (by decide),h 1 (by decide),h 2 (by decide),h 3 (by decide),h 4 (by decide)⟩
theorem Z9t(n k:Nat)(h:k < 5):k < (ints (el n).l).length:=by simpa[ints,E5.l] using h
theorem tabs_of_laidF {W : World} (h : laidMetH Tryz.prog [("imprimatur/sha2.starts", Rows.laid_imprimatur_sha2_starts), ("imprimatur/sha2.constants", Rows.laid_imprimatur_sha2_constants), ("imprimatur/field.rootOfLess1", Rows.laid_imprimatur_field_rootOfLess1), ("imprimatur/field.order", Rows.laid_imprimatur_field_order), ("imprimatur/ed.d", Rows.laid_imprimatur_ed_d), ("imprimatur/ed.twiceD", Rows.laid_imprimatur_ed_twiceD), ("imprimatur/ed.baseX", Rows.laid_imprimatur_ed_baseX), ("imprimatur/ed.baseY", Rows.laid_imprimatur_ed_baseY)] W) : TabE W ∧ Sh.Tab W ∧ TabL W := by
 rw[MakeChecks.laidMetH_plain _ _ _ (by kernel_rfl),Zo3,Zo4,Zm9,Zma,Zrs,Zo5,Zo6,Zo7] at h
 have h1:=Lib.tabIs_of_head gSt tSt Tryz.underlying97 Tryz.underlying24 c64 c8 h
 have h2:=Lib.tabIs_of_head gCo tCo Tryz.underlying170 Tryz.underlying24 c64 c80 h.tail
 have h3:=Lib.tabIs_of_head gIm tIm Tryz.underlying26 Tryz.underlying24 c64 c5 h.tail.tail
 have h8:=Lib.tabIs_of_head gOr tOr Tryz.underlying108 Tryz.underlying24 c64 c4 h.tail.tail.tail
 have h4:=Lib.tabIs_of_head gD tD Tryz.underlying26 Tryz.underlying24 c64 c5 h.tail.tail.tail.tail
 have h5:=Lib.tabIs_of_head gD2 tD2 Tryz.underlying26 Tryz.underlying24 c64 c5 h.tail.tail.tail.tail.tail
 have h6:=Lib.tabIs_of_head gBx tBx Tryz.underlying26 Tryz.underlying24 c64 c5 h.tail.tail.tail.tail.tail.tail
 have h7:=Lib.tabIs_of_head gBy tBy Tryz.underlying26 Tryz.underlying24 c64 c5 h.tail.tail.tail.tail.tail.tail.tail
 exact⟨⟨c5_of fun k hk=>h3.cell gIm k (Z9t _ k hk),c5_of fun k hk=>h4.cell gD k (Z9t _ k hk),c5_of fun k hk=>h5.cell gD2 k (Z9t _ k hk),c5_of fun k hk=>h6.cell gBx k (Z9t _ k hk),c5_of fun k hk=>h7.cell gBy k (Z9t _ k hk)⟩,
  ⟨fun t ht=>by rw[h2.cell gCo t (by rw[Z6u];exact ht),Z9s],fun t ht=>by rw[h1.cell gSt t (by rw[Z6u];exact ht),Z9s]⟩,
  h8.cell gOr 0 (by decide),h8.cell gOr 1 (by decide),h8.cell gOr 2 (by decide),h8.cell gOr 3 (by decide)⟩
end Go.Proofs.YtjimhjfjfpeojaaGreatDoor.Ed
