/- Joined texts. -/
import Derived.Test.YtjimhjfjfpeojaaGreatDoorQbAvLw
set_option linter.unusedVariables false
namespace Go.Proofs.YtjimhjfjfpeojaaGreatDoor.Av
open Go.RowKit Go.Proofs.YtjimhjfjfpeojaaGreatDoor.Gn Go.Proofs.YtjimhjfjfpeojaaGreatDoor.Fd Go.Proofs.YtjimhjfjfpeojaaGreatDoor.Ed Go.Deep
set_option maxHeartbeats 4000000 in
set_option maxRecDepth 100000 in
theorem l_EdAdds{l0 l1:List Nat}(hl0:∀x∈l0,x < 256)(hl1:∀x∈l1,x < 256){g0 g1:G}(hg0:R3 (ptT l0) g0)(hk0:(ptT l0).ok)(hg1:R3 (ptT l1) g1)(hk1:(ptT l1).ok){q:Bool}(hq:q=true↔g0=g1)(w:World)(tab:TabE w)(ts:Sh.Tab w):FnAt Tryz.prog [.u64] w 5 [byt true l0,byt true l1] (.lit (.bool true)):=by
 refine FnAt.of Tryz.f5 _ _ Tryz.func5 Tryz.ntmps5 rfl (by kernel_rfl) (fun _ _=>by kernel_rfl) fun O=>?_
 show PW _ _ _ ⟨[(0,.c (.dv _)),(1,.c (.dv _))],[]⟩
 refine(PW.seq ?_:PW _ _ _ _)
 refine(PW.region ?_:PW _ _ _ _)
 refine PL.mu rfl rfl rfl rfl rfl ?_
 refine PL.nil ?_
 refine(PW.seq ?_:PW _ _ _ _)
 refine(PW.seq ?_:PW _ _ _ _)
 rcases(show(100 < l0.length)∨(l0.length≤100∧100 < l1.length)∨(l0.length≤100∧l1.length≤100) by omega) with hn0|⟨hn0,hn1⟩|⟨hn0,hn1⟩
 ·skip
  refine(PW.region ?_:PW _ _ _ _)
  refine PL.mv rfl rfl rfl rfl rfl ?_
  refine PL.step rfl rfl rfl (PS.len (n:=l0.length) rfl rfl Tryz.underlying22 (by decide) (by simp[bl])) ?_
  refine PL.step rfl rfl rfl (PS.decT (PS.gtr rfl rfl rfl) (by omega)) ?_
  refine PL.mv rfl rfl rfl rfl rfl ?_
  refine PL.stepP rfl rfl rfl (by decide) rfl rfl ?_
  refine PL.stepP rfl rfl rfl (by decide) rfl rfl ?_
  refine PL.stepP rfl rfl rfl (by decide) rfl rfl ?_
  refine PL.pT rfl rfl rfl rfl rfl rfl ?_
  refine PL.nil ?_
  show PW _ _ _ _
  refine PW.cond (b:=true) (by rfl) (fun _=>?_) (fun h=>nomatch h)
  refine(PW.seq ?_:PW _ _ _ _)
  refine(PW.region ?_:PW _ _ _ _)
  refine PL.call (xs:=[]) rfl rfl rfl rfl rfl rfl rfl (fun w hw=>p_known w (tab.below hw.to_below) (ts.below hw.to_below)) ?_
  refine PL.mu rfl rfl rfl rfl rfl ?_
  refine PL.nil ?_
  refine(PW.ret ?_:PW _ _ _ _)
  exact Rt.as (Rt.one Tryz.results5 rfl) (le_refl _)
 ·skip
  refine(PW.region ?_:PW _ _ _ _)
  refine PL.mv rfl rfl rfl rfl rfl ?_
  refine PL.step rfl rfl rfl (PS.len (n:=l0.length) rfl rfl Tryz.underlying22 (by decide) (by simp[bl])) ?_
  refine PL.step rfl rfl rfl (PS.decF (PS.gtr rfl rfl rfl) (by omega)) ?_
  refine PL.mv rfl rfl rfl rfl rfl ?_
  refine PL.stepW rfl rfl rfl rfl rfl (PS.moved (r:=.c _) rfl rfl) ?_
  refine PL.stepW rfl rfl rfl rfl rfl (PS.len (n:=l1.length) rfl rfl Tryz.underlying22 (by decide) (by simp[bl])) ?_
  refine PL.stepW rfl rfl rfl rfl rfl (PS.decT (PS.gtr rfl rfl rfl) (by omega)) ?_
  refine PL.pF rfl rfl rfl rfl rfl rfl ?_
  refine PL.nil ?_
  show PW _ _ _ _
  refine PW.cond (b:=true) (by rfl) (fun _=>?_) (fun h=>nomatch h)
  refine(PW.seq ?_:PW _ _ _ _)
  refine(PW.region ?_:PW _ _ _ _)
  refine PL.call (xs:=[]) rfl rfl rfl rfl rfl rfl rfl (fun w hw=>p_known w (tab.below hw.to_below) (ts.below hw.to_below)) ?_
  refine PL.mu rfl rfl rfl rfl rfl ?_
  refine PL.nil ?_
  refine(PW.ret ?_:PW _ _ _ _)
  exact Rt.as (Rt.one Tryz.results5 rfl) (le_refl _)
 ·skip
  refine(PW.region ?_:PW _ _ _ _)
  refine PL.mv rfl rfl rfl rfl rfl ?_
  refine PL.step rfl rfl rfl (PS.len (n:=l0.length) rfl rfl Tryz.underlying22 (by decide) (by simp[bl])) ?_
  refine PL.step rfl rfl rfl (PS.decF (PS.gtr rfl rfl rfl) (by omega)) ?_
  refine PL.mv rfl rfl rfl rfl rfl ?_
  refine PL.stepW rfl rfl rfl rfl rfl (PS.moved (r:=.c _) rfl rfl) ?_
  refine PL.stepW rfl rfl rfl rfl rfl (PS.len (n:=l1.length) rfl rfl Tryz.underlying22 (by decide) (by simp[bl])) ?_
  refine PL.stepW rfl rfl rfl rfl rfl (PS.decF (PS.gtr rfl rfl rfl) (by omega)) ?_
  refine PL.pF rfl rfl rfl rfl rfl rfl ?_
  refine PL.nil ?_
  show PW _ _ _ _
  refine PW.cond (b:=false) (by rfl) (fun h=>nomatch h) (fun _=>?_)
  refine(PW.skip ?_:PW _ _ _ _)
  refine(PW.seq ?_:PW _ _ _ _)
  refine(PW.region ?_:PW _ _ _ _)
  refine PL.mv rfl rfl rfl rfl rfl ?_
  refine PL.call (xs:=[_]) rfl rfl rfl rfl rfl rfl rfl (fun w hw=>c_point hl0 hg0 hk0 w (tab.below hw.to_below)) ?_
  refine PL.mv rfl rfl rfl rfl rfl ?_
  refine PL.step rfl rfl rfl (PS.ext rfl rfl rfl) ?_
  refine PL.step rfl rfl rfl (PS.ext rfl rfl rfl) ?_
  refine PL.full rfl (Fa.alloc 1 (z:=(.agg #[.int .u64 0,.int .u64 0,.int .u64 0,.int .u64 0,.int .u64 0,.int .u64 0,.int .u64 0,.int .u64 0,.int .u64 0,.int .u64 0,.int .u64 0,.int .u64 0,.int .u64 0,.int .u64 0,.int .u64 0,.int .u64 0,.int .u64 0,.int .u64 0,.int .u64 0,.int .u64 0])) rfl (by kernel_rfl) (by kernel_rfl) rfl rfl ?_)
  refine PL.full rfl (Fa.alloc 2 (z:=(.agg #[.slice none 0 0,.slice none 0 0,.slice none 0 0])) rfl (by kernel_rfl) (by kernel_rfl) rfl rfl ?_)
  refine PL.full rfl (Fa.storeH 20 rfl rfl rfl rfl rfl (pnt_row g0) (by kernel_rfl) rfl ?_)
  refine PL.full rfl (Fa.storeR rfl rfl rfl rfl rfl rfl (by kernel_rfl) rfl ?_)
  refine PL.nil ?_
  refine(PW.seq ?_:PW _ _ _ _)
  refine(PW.region ?_:PW _ _ _ _)
  refine PL.mv rfl rfl rfl rfl rfl ?_
  refine PL.call (xs:=[_]) rfl rfl rfl rfl rfl rfl rfl (fun w hw=>c_point hl1 hg1 hk1 w (tab.below hw.to_below)) ?_
  refine PL.mv rfl rfl rfl rfl rfl ?_
  refine PL.step rfl rfl rfl (PS.ext rfl rfl rfl) ?_
  refine PL.step rfl rfl rfl (PS.ext rfl rfl rfl) ?_
  refine PL.full rfl (Fa.alloc 3 (z:=(.agg #[.int .u64 0,.int .u64 0,.int .u64 0,.int .u64 0,.int .u64 0,.int .u64 0,.int .u64 0,.int .u64 0,.int .u64 0,.int .u64 0,.int .u64 0,.int .u64 0,.int .u64 0,.int .u64 0,.int .u64 0,.int .u64 0,.int .u64 0,.int .u64 0,.int .u64 0,.int .u64 0])) rfl (by kernel_rfl) (by kernel_rfl) rfl rfl ?_)
  refine PL.full rfl (Fa.alloc 4 (z:=(.agg #[.slice none 0 0,.slice none 0 0,.slice none 0 0])) rfl (by kernel_rfl) (by kernel_rfl) rfl rfl ?_)
  refine PL.full rfl (Fa.storeH 20 rfl rfl rfl rfl rfl (pnt_row g1) (by kernel_rfl) rfl ?_)
  refine PL.full rfl (Fa.storeR rfl rfl rfl rfl rfl rfl (by kernel_rfl) rfl ?_)
  refine PL.nil ?_
  refine(PW.seq ?_:PW _ _ _ _)
  refine(PW.drawn 28 (by kernel_rfl) (by kernel_rfl) (by kernel_rfl) (by kernel_rfl) (by kernel_rfl) ?_:PW _ _ _ _)
  refine PD.step rfl rfl rfl (PS.loadH (k:=20) rfl rfl rfl (row_sz (pnt_row g0)) Tryz.underlying28 rfl (by kernel_rfl)) ?_
  refine PD.step rfl rfl rfl (PS.loadH (k:=20) rfl rfl rfl (row_sz (pnt_row g1)) Tryz.underlying28 rfl (by kernel_rfl)) ?_
  refine PD.call (xs:=[_,_]) rfl rfl rfl rfl rfl rfl rfl (fun w hw=>p_add w (tab.below hw.to_below)) ?_
  refine PD.step rfl rfl rfl (PS.loadR (xs:=[_,_,_]) rfl rfl rfl rfl Tryz.underlying34 rfl (by kernel_rfl)) ?_
  refine PD.step rfl rfl rfl (PS.loadR (xs:=[_,_,_]) rfl rfl rfl rfl Tryz.underlying34 rfl (by kernel_rfl)) ?_
  refine PD.call (xs:=[]) rfl rfl rfl rfl rfl rfl rfl (fun w hw=>c_D w) ?_
  refine PD.call (xs:=[_,_,_]) rfl rfl rfl rfl rfl rfl rfl (fun w hw=>c_ad3 (p:=ptT l0) (q:=ptT l1) hk0 hk1 w) ?_
  refine PD.call (xs:=[_,_]) rfl rfl rfl rfl rfl rfl rfl (fun w hw=>c_isT (t:=ad3 (ptT l0) (ptT l1)) (hg0.add hg1) (ad3_ok _ _) true (by simp) w) ?_
  refine PD.mv rfl rfl rfl rfl rfl ?_
  refine PD.stepW rfl rfl rfl (by kernel_rfl) rfl rfl (PS.loadH (k:=20) rfl rfl rfl (row_sz (pnt_row g0)) Tryz.underlying28 rfl (by kernel_rfl)) ?_
  refine PD.stepW rfl rfl rfl (by kernel_rfl) rfl rfl (PS.call (xs:=[_]) rfl rfl rfl rfl (fun w hw=>p_neg w)) ?_
  refine PD.stepW rfl rfl rfl (by kernel_rfl) rfl rfl (PS.loadR (xs:=[_,_,_]) rfl rfl rfl rfl Tryz.underlying34 rfl (by kernel_rfl)) ?_
  refine PD.stepW rfl rfl rfl (by kernel_rfl) rfl rfl (PS.call (xs:=[_]) rfl rfl rfl rfl (fun w hw=>c_negT (t:=ptT l0) hk0 w)) ?_
  refine PD.stepW rfl rfl rfl (by kernel_rfl) rfl rfl (PS.call (xs:=[_,_]) rfl rfl rfl rfl (fun w hw=>c_isT (hg0.neg hk0.x) (negT_ok hk0) true (by simp) w)) ?_
  refine PD.pT rfl rfl rfl rfl rfl rfl ?_
  refine PD.mv rfl rfl rfl rfl rfl ?_
  refine PD.stepW rfl rfl rfl (by kernel_rfl) rfl rfl (PS.loadH (k:=20) rfl rfl rfl (row_sz (pnt_row g0)) Tryz.underlying28 rfl (by kernel_rfl)) ?_
  refine PD.stepW rfl rfl rfl (by kernel_rfl) rfl rfl (PS.loadH (k:=20) rfl rfl rfl (row_sz (pnt_row g1)) Tryz.underlying28 rfl (by kernel_rfl)) ?_
  refine PD.stepW rfl rfl rfl (by kernel_rfl) rfl rfl (PS.call (xs:=[_,_]) rfl rfl rfl rfl (fun w hw=>p_same w (tab.below hw.to_below) q hq)) ?_
  refine PD.stepW rfl rfl rfl (by kernel_rfl) rfl rfl (PS.loadH (k:=20) rfl rfl rfl (row_sz (pnt_row g0)) Tryz.underlying28 rfl (by kernel_rfl)) ?_
  refine PD.stepW rfl rfl rfl (by kernel_rfl) rfl rfl (PS.loadR (xs:=[_,_,_]) rfl rfl rfl rfl Tryz.underlying34 rfl (by kernel_rfl)) ?_
  refine PD.stepW rfl rfl rfl (by kernel_rfl) rfl rfl (PS.call (xs:=[_,_]) rfl rfl rfl rfl (fun w hw=>c_isT (t:=ptT l1) hg1 hk1 q hq w)) ?_
  refine PD.stepW rfl rfl rfl (by kernel_rfl) rfl rfl (PS.eq (y:=Bo true) (PS.beq rfl rfl rfl Tryz.underlying4) (by simp)) ?_
  refine PD.pT rfl rfl rfl rfl rfl rfl ?_
  refine PD.mv rfl rfl rfl rfl rfl ?_
  refine PD.stepW rfl rfl rfl (by kernel_rfl) rfl rfl (PS.call (xs:=[]) rfl rfl rfl rfl (fun w hw=>p_known w (tab.below hw.to_below) (ts.below hw.to_below))) ?_
  refine PD.pT rfl rfl rfl rfl rfl rfl ?_
  refine PD.mu rfl rfl rfl rfl rfl ?_
  refine PD.nil ?_
  refine(PW.ret ?_:PW _ _ _ _)
  exact Rt.as (Rt.one Tryz.results5 rfl) (le_refl _)
theorem walk_edAdds{w:World}(tab:TabE w∧Sh.Tab w)(A0:Option Addr)(n0 c0:Nat)(l0:List Nat)(hb0:BL w A0 n0 c0 l0)(A1:Option Addr)(n1 c1:Nat)(l1:List Nat)(hb1:BL w A1 n1 c1 l1):Calls Tryz.prog 5 #[.slice A0 n0 c0,.slice A1 n1 c1] w fun e w'=>e=.returned (.bool true)∧Below w.heap.size w w':=by
 obtain⟨b,hb⟩:=base_some
 obtain⟨g0,hg0,hk0⟩:=ptT_some hb0.2.2.1 hb
 obtain⟨g1,hg1,hk1⟩:=ptT_some hb1.2.2.1 hb
 obtain⟨q,hq⟩:=eqb g0 g1
 exact(l_EdAdds hb0.2.2.1 hb1.2.2.1 hg0 hk0 hg1 hk1 hq w tab.1 tab.2).run (vs:=[.slice A0 n0 c0,.slice A1 n1 c1]) rfl ⟨⟨_,rfl,bl_byt hb0⟩,⟨_,rfl,bl_byt hb1⟩,trivial⟩
end Go.Proofs.YtjimhjfjfpeojaaGreatDoor.Av
