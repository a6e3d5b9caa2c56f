/- Joined texts. -/
import Derived.Test.YtjimhjfjfpeojaaGreatDoorQbAvLw
set_option linter.unusedVariables false
namespace Go.Proofs.YtjimhjfjfpeojaaGreatDoor.Av
open Go.RowKit Go.Proofs.YtjimhjfjfpeojaaGreatDoor.Gn Go.Proofs.YtjimhjfjfpeojaaGreatDoor.Fd Go.Proofs.YtjimhjfjfpeojaaGreatDoor.Ed Go.Deep
set_option maxHeartbeats 4000000 in
set_option maxRecDepth 100000 in
theorem l_EdMuls{l0 l1 l2:List Nat}(hl0:∀x∈l0,x < 256)(hl1:∀x∈l1,x < 256)(hl2:∀x∈l2,x < 256){g1:G}(hg1:R3 (ptT l1) g1)(hk1:(ptT l1).ok){b:G}(hb:Hp kbase b)(w:World)(tab:TabE w)(ts:Sh.Tab w):FnAt Tryz.prog [.u64] w 6 [byt true l0,byt true l1,byt true l2] (.lit (.bool true)):=by
 refine FnAt.of Tryz.f6 _ _ Tryz.func6 Tryz.ntmps6 rfl (by kernel_rfl) (fun _ _=>by kernel_rfl) fun O=>?_
 show PW _ _ _ ⟨[(0,.c (.dv _)),(1,.c (.dv _)),(2,.c (.dv _))],[]⟩
 refine(PW.seq ?_:PW _ _ _ _)
 refine(PW.region ?_:PW _ _ _ _)
 refine PL.mu rfl rfl rfl rfl rfl ?_
 refine PL.nil ?_
 refine(PW.seq ?_:PW _ _ _ _)
 refine(PW.seq ?_:PW _ _ _ _)
 rcases(show(100 < l1.length)∨(l1.length≤100∧100 < l0.length)∨(l1.length≤100∧l0.length≤100∧100 < l2.length)∨(l1.length≤100∧l0.length≤100∧l2.length≤100) by omega) with hn0|⟨hn0,hn1⟩|⟨hn0,hn1,hn2⟩|⟨hn0,hn1,hn2⟩
 ·skip
  refine(PW.region ?_:PW _ _ _ _)
  refine PL.mv rfl rfl rfl rfl rfl ?_
  refine PL.step rfl rfl rfl (PS.len (n:=l1.length) rfl rfl Tryz.underlying22 (by decide) (by simp[bl])) ?_
  refine PL.step rfl rfl rfl (PS.decT (PS.gtr rfl rfl rfl) (by omega)) ?_
  refine PL.mv rfl rfl rfl rfl rfl ?_
  refine PL.stepP rfl rfl rfl (by decide) rfl rfl ?_
  refine PL.stepP rfl rfl rfl (by decide) rfl rfl ?_
  refine PL.stepP rfl rfl rfl (by decide) rfl rfl ?_
  refine PL.pT rfl rfl rfl rfl rfl rfl ?_
  refine PL.mv rfl rfl rfl rfl rfl ?_
  refine PL.stepP rfl rfl rfl (by decide) rfl rfl ?_
  refine PL.stepP rfl rfl rfl (by decide) rfl rfl ?_
  refine PL.stepP rfl rfl rfl (by decide) rfl rfl ?_
  refine PL.pT rfl rfl rfl rfl rfl rfl ?_
  refine PL.nil ?_
  show PW _ _ _ _
  refine PW.cond (b:=true) (by rfl) (fun _=>?_) (fun h=>nomatch h)
  refine(PW.seq ?_:PW _ _ _ _)
  refine(PW.region ?_:PW _ _ _ _)
  refine PL.call (xs:=[]) rfl rfl rfl rfl rfl rfl rfl (fun w hw=>p_known w (tab.below hw.to_below) (ts.below hw.to_below)) ?_
  refine PL.mu rfl rfl rfl rfl rfl ?_
  refine PL.nil ?_
  refine(PW.ret ?_:PW _ _ _ _)
  exact Rt.as (Rt.one Tryz.results6 rfl) (le_refl _)
 ·skip
  refine(PW.region ?_:PW _ _ _ _)
  refine PL.mv rfl rfl rfl rfl rfl ?_
  refine PL.step rfl rfl rfl (PS.len (n:=l1.length) rfl rfl Tryz.underlying22 (by decide) (by simp[bl])) ?_
  refine PL.step rfl rfl rfl (PS.decF (PS.gtr rfl rfl rfl) (by omega)) ?_
  refine PL.mv rfl rfl rfl rfl rfl ?_
  refine PL.stepW rfl rfl rfl rfl rfl (PS.moved (r:=.c _) rfl rfl) ?_
  refine PL.stepW rfl rfl rfl rfl rfl (PS.len (n:=l0.length) rfl rfl Tryz.underlying22 (by decide) (by simp[bl])) ?_
  refine PL.stepW rfl rfl rfl rfl rfl (PS.decT (PS.gtr rfl rfl rfl) (by omega)) ?_
  refine PL.pF rfl rfl rfl rfl rfl rfl ?_
  refine PL.mv rfl rfl rfl rfl rfl ?_
  refine PL.stepP rfl rfl rfl (by decide) rfl rfl ?_
  refine PL.stepP rfl rfl rfl (by decide) rfl rfl ?_
  refine PL.stepP rfl rfl rfl (by decide) rfl rfl ?_
  refine PL.pT rfl rfl rfl rfl rfl rfl ?_
  refine PL.nil ?_
  show PW _ _ _ _
  refine PW.cond (b:=true) (by rfl) (fun _=>?_) (fun h=>nomatch h)
  refine(PW.seq ?_:PW _ _ _ _)
  refine(PW.region ?_:PW _ _ _ _)
  refine PL.call (xs:=[]) rfl rfl rfl rfl rfl rfl rfl (fun w hw=>p_known w (tab.below hw.to_below) (ts.below hw.to_below)) ?_
  refine PL.mu rfl rfl rfl rfl rfl ?_
  refine PL.nil ?_
  refine(PW.ret ?_:PW _ _ _ _)
  exact Rt.as (Rt.one Tryz.results6 rfl) (le_refl _)
 ·skip
  refine(PW.region ?_:PW _ _ _ _)
  refine PL.mv rfl rfl rfl rfl rfl ?_
  refine PL.step rfl rfl rfl (PS.len (n:=l1.length) rfl rfl Tryz.underlying22 (by decide) (by simp[bl])) ?_
  refine PL.step rfl rfl rfl (PS.decF (PS.gtr rfl rfl rfl) (by omega)) ?_
  refine PL.mv rfl rfl rfl rfl rfl ?_
  refine PL.stepW rfl rfl rfl rfl rfl (PS.moved (r:=.c _) rfl rfl) ?_
  refine PL.stepW rfl rfl rfl rfl rfl (PS.len (n:=l0.length) rfl rfl Tryz.underlying22 (by decide) (by simp[bl])) ?_
  refine PL.stepW rfl rfl rfl rfl rfl (PS.decF (PS.gtr rfl rfl rfl) (by omega)) ?_
  refine PL.pF rfl rfl rfl rfl rfl rfl ?_
  refine PL.mv rfl rfl rfl rfl rfl ?_
  refine PL.stepW rfl rfl rfl rfl rfl (PS.moved (r:=.c _) rfl rfl) ?_
  refine PL.stepW rfl rfl rfl rfl rfl (PS.len (n:=l2.length) rfl rfl Tryz.underlying22 (by decide) (by simp[bl])) ?_
  refine PL.stepW rfl rfl rfl rfl rfl (PS.decT (PS.gtr rfl rfl rfl) (by omega)) ?_
  refine PL.pF rfl rfl rfl rfl rfl rfl ?_
  refine PL.nil ?_
  show PW _ _ _ _
  refine PW.cond (b:=true) (by rfl) (fun _=>?_) (fun h=>nomatch h)
  refine(PW.seq ?_:PW _ _ _ _)
  refine(PW.region ?_:PW _ _ _ _)
  refine PL.call (xs:=[]) rfl rfl rfl rfl rfl rfl rfl (fun w hw=>p_known w (tab.below hw.to_below) (ts.below hw.to_below)) ?_
  refine PL.mu rfl rfl rfl rfl rfl ?_
  refine PL.nil ?_
  refine(PW.ret ?_:PW _ _ _ _)
  exact Rt.as (Rt.one Tryz.results6 rfl) (le_refl _)
 ·skip
  refine(PW.region ?_:PW _ _ _ _)
  refine PL.mv rfl rfl rfl rfl rfl ?_
  refine PL.step rfl rfl rfl (PS.len (n:=l1.length) rfl rfl Tryz.underlying22 (by decide) (by simp[bl])) ?_
  refine PL.step rfl rfl rfl (PS.decF (PS.gtr rfl rfl rfl) (by omega)) ?_
  refine PL.mv rfl rfl rfl rfl rfl ?_
  refine PL.stepW rfl rfl rfl rfl rfl (PS.moved (r:=.c _) rfl rfl) ?_
  refine PL.stepW rfl rfl rfl rfl rfl (PS.len (n:=l0.length) rfl rfl Tryz.underlying22 (by decide) (by simp[bl])) ?_
  refine PL.stepW rfl rfl rfl rfl rfl (PS.decF (PS.gtr rfl rfl rfl) (by omega)) ?_
  refine PL.pF rfl rfl rfl rfl rfl rfl ?_
  refine PL.mv rfl rfl rfl rfl rfl ?_
  refine PL.stepW rfl rfl rfl rfl rfl (PS.moved (r:=.c _) rfl rfl) ?_
  refine PL.stepW rfl rfl rfl rfl rfl (PS.len (n:=l2.length) rfl rfl Tryz.underlying22 (by decide) (by simp[bl])) ?_
  refine PL.stepW rfl rfl rfl rfl rfl (PS.decF (PS.gtr rfl rfl rfl) (by omega)) ?_
  refine PL.pF rfl rfl rfl rfl rfl rfl ?_
  refine PL.nil ?_
  show PW _ _ _ _
  refine PW.cond (b:=false) (by rfl) (fun h=>nomatch h) (fun _=>?_)
  refine(PW.skip ?_:PW _ _ _ _)
  refine(PW.seq ?_:PW _ _ _ _)
  refine(PW.region ?_:PW _ _ _ _)
  refine PL.mv rfl rfl rfl rfl rfl ?_
  refine PL.call (xs:=[_]) rfl rfl rfl rfl rfl rfl rfl (fun w hw=>c_point hl1 hg1 hk1 w (tab.below hw.to_below)) ?_
  refine PL.mv rfl rfl rfl rfl rfl ?_
  refine PL.step rfl rfl rfl (PS.ext rfl rfl rfl) ?_
  refine PL.step rfl rfl rfl (PS.ext rfl rfl rfl) ?_
  refine PL.full rfl (Fa.alloc 1 (z:=(.agg #[.int .u64 0,.int .u64 0,.int .u64 0,.int .u64 0,.int .u64 0,.int .u64 0,.int .u64 0,.int .u64 0,.int .u64 0,.int .u64 0,.int .u64 0,.int .u64 0,.int .u64 0,.int .u64 0,.int .u64 0,.int .u64 0,.int .u64 0,.int .u64 0,.int .u64 0,.int .u64 0])) rfl (by kernel_rfl) (by kernel_rfl) rfl rfl ?_)
  refine PL.full rfl (Fa.alloc 2 (z:=(.agg #[.slice none 0 0,.slice none 0 0,.slice none 0 0])) rfl (by kernel_rfl) (by kernel_rfl) rfl rfl ?_)
  refine PL.full rfl (Fa.storeH 20 rfl rfl rfl rfl rfl (pnt_row g1) (by kernel_rfl) rfl ?_)
  refine PL.full rfl (Fa.storeR rfl rfl rfl rfl rfl rfl (by kernel_rfl) rfl ?_)
  refine PL.nil ?_
  refine(PW.seq ?_:PW _ _ _ _)
  rcases(show(32 < l0.length)∨(l0.length≤32∧32 < l2.length)∨(l0.length≤32∧l2.length≤32) by omega) with q0|⟨q0,q1⟩|⟨q0,q1⟩
  ·skip
   refine(PW.region ?_:PW _ _ _ _)
   refine PL.mv rfl rfl rfl rfl rfl ?_
   refine PL.step rfl rfl rfl (PS.loadH (k:=20) rfl rfl rfl (row_sz (pnt_row g1)) Tryz.underlying28 rfl (by kernel_rfl)) ?_
   refine PL.call (xs:=[_,_]) rfl rfl rfl rfl rfl rfl rfl (fun w hw=>p_mulL (by omega) w) ?_
   refine PL.mv rfl rfl rfl rfl rfl ?_
   refine PL.step rfl rfl rfl (PS.ext rfl rfl rfl) ?_
   refine PL.step rfl rfl rfl (PS.ext rfl rfl rfl) ?_
   refine PL.full rfl (Fa.alloc 3 (z:=(.agg #[.int .u64 0,.int .u64 0,.int .u64 0,.int .u64 0,.int .u64 0,.int .u64 0,.int .u64 0,.int .u64 0,.int .u64 0,.int .u64 0,.int .u64 0,.int .u64 0,.int .u64 0,.int .u64 0,.int .u64 0,.int .u64 0,.int .u64 0,.int .u64 0,.int .u64 0,.int .u64 0])) rfl (by kernel_rfl) (by kernel_rfl) rfl rfl ?_)
   refine PL.full rfl (Fa.storeH 20 rfl rfl rfl rfl rfl (nop_row) (by kernel_rfl) rfl ?_)
   refine PL.mu rfl rfl rfl rfl rfl ?_
   refine PL.nil ?_
   refine(PW.seq ?_:PW _ _ _ _)
   refine(PW.region ?_:PW _ _ _ _)
   refine PL.mv rfl rfl rfl rfl rfl ?_
   refine PL.step rfl rfl rfl (PS.loadH (k:=20) rfl rfl rfl (row_sz (pnt_row g1)) Tryz.underlying28 rfl (by kernel_rfl)) ?_
   refine PL.mv rfl rfl rfl rfl rfl ?_
   refine PL.call (xs:=[_,_,_]) rfl rfl rfl rfl rfl rfl rfl (fun w hw=>p_mixL (by simp[Nat.max_def];split <;> omega) w) ?_
   refine PL.mv rfl rfl rfl rfl rfl ?_
   refine PL.step rfl rfl rfl (PS.ext rfl rfl rfl) ?_
   refine PL.step rfl rfl rfl (PS.ext rfl rfl rfl) ?_
   refine PL.full rfl (Fa.alloc 4 (z:=(.agg #[.int .u64 0,.int .u64 0,.int .u64 0,.int .u64 0,.int .u64 0,.int .u64 0,.int .u64 0,.int .u64 0,.int .u64 0,.int .u64 0,.int .u64 0,.int .u64 0,.int .u64 0,.int .u64 0,.int .u64 0,.int .u64 0,.int .u64 0,.int .u64 0,.int .u64 0,.int .u64 0])) rfl (by kernel_rfl) (by kernel_rfl) rfl rfl ?_)
   refine PL.full rfl (Fa.storeH 20 rfl rfl rfl rfl rfl (nop_row) (by kernel_rfl) rfl ?_)
   refine PL.mu rfl rfl rfl rfl rfl ?_
   refine PL.nil ?_
   refine(PW.seq ?_:PW _ _ _ _)
   refine(PW.seq ?_:PW _ _ _ _)
   refine(PW.region ?_:PW _ _ _ _)
   refine PL.mv rfl rfl rfl rfl rfl ?_
   refine PL.step rfl rfl rfl (PS.len (n:=l0.length) rfl rfl Tryz.underlying22 (by decide) (by simp[bl])) ?_
   refine PL.step rfl rfl rfl (PS.decT (PS.gtr rfl rfl rfl) (by omega)) ?_
   refine PL.nil ?_
   show PW _ _ _ _
   refine PW.cond (b:=true) (by rfl) (fun _=>?_) (fun h=>nomatch h)
   refine(PW.seq ?_:PW _ _ _ _)
   refine(PW.region ?_:PW _ _ _ _)
   refine PL.mv rfl rfl rfl rfl rfl ?_
   refine PL.step rfl rfl rfl (PS.eql rfl rfl rfl) ?_
   refine PL.mv rfl rfl rfl rfl rfl ?_
   refine PL.stepW rfl rfl rfl rfl rfl (PS.moved (r:=.c _) rfl rfl) ?_
   refine PL.stepW rfl rfl rfl rfl rfl (PS.eql rfl rfl rfl) ?_
   refine PL.pT rfl rfl rfl rfl rfl rfl ?_
   refine PL.mv rfl rfl rfl rfl rfl ?_
   refine PL.stepW rfl rfl rfl rfl rfl (PS.loadH (k:=20) rfl rfl rfl (row_sz (nop_row)) Tryz.underlying28 rfl (by kernel_rfl)) ?_
   refine PL.stepW rfl rfl rfl rfl rfl (PS.as (y:=nop) (PS.build (xs:=[]) (zs:=[.int .u64 0,.int .u64 0,.int .u64 0,.int .u64 0,.int .u64 0,.int .u64 0,.int .u64 0,.int .u64 0,.int .u64 0,.int .u64 0,.int .u64 0,.int .u64 0,.int .u64 0,.int .u64 0,.int .u64 0,.int .u64 0,.int .u64 0,.int .u64 0,.int .u64 0,.int .u64 0]) [] _ rfl rfl Tryz.underlying28 (by kernel_rfl) (by kernel_rfl) (by kernel_rfl) rfl (by kernel_rfl) rfl) (agg_lit (l:=z20.toList))) ?_
   refine PL.stepW rfl rfl rfl rfl rfl (PS.bin (.bool true) rfl rfl rfl (fun w=>by kernel_rfl) (fun w=>by kernel_rfl)) ?_
   refine PL.pT rfl rfl rfl rfl rfl rfl ?_
   refine PL.mv rfl rfl rfl rfl rfl ?_
   refine PL.stepW rfl rfl rfl rfl rfl (PS.loadH (k:=20) rfl rfl rfl (row_sz (nop_row)) Tryz.underlying28 rfl (by kernel_rfl)) ?_
   refine PL.stepW rfl rfl rfl rfl rfl (PS.as (y:=nop) (PS.build (xs:=[]) (zs:=[.int .u64 0,.int .u64 0,.int .u64 0,.int .u64 0,.int .u64 0,.int .u64 0,.int .u64 0,.int .u64 0,.int .u64 0,.int .u64 0,.int .u64 0,.int .u64 0,.int .u64 0,.int .u64 0,.int .u64 0,.int .u64 0,.int .u64 0,.int .u64 0,.int .u64 0,.int .u64 0]) [] _ rfl rfl Tryz.underlying28 (by kernel_rfl) (by kernel_rfl) (by kernel_rfl) rfl (by kernel_rfl) rfl) (agg_lit (l:=z20.toList))) ?_
   refine PL.stepW rfl rfl rfl rfl rfl (PS.bin (.bool true) rfl rfl rfl (fun w=>by kernel_rfl) (fun w=>by kernel_rfl)) ?_
   refine PL.pT rfl rfl rfl rfl rfl rfl ?_
   refine PL.mv rfl rfl rfl rfl rfl ?_
   refine PL.stepW rfl rfl rfl rfl rfl (PS.call (xs:=[]) rfl rfl rfl rfl (fun w hw=>p_known w (tab.below hw.to_below) (ts.below hw.to_below))) ?_
   refine PL.pT rfl rfl rfl rfl rfl rfl ?_
   refine PL.mu rfl rfl rfl rfl rfl ?_
   refine PL.nil ?_
   refine(PW.ret ?_:PW _ _ _ _)
   exact Rt.as (Rt.one Tryz.results6 rfl) (le_refl _)
  ·skip
   refine(PW.region ?_:PW _ _ _ _)
   refine PL.mv rfl rfl rfl rfl rfl ?_
   refine PL.step rfl rfl rfl (PS.loadH (k:=20) rfl rfl rfl (row_sz (pnt_row g1)) Tryz.underlying28 rfl (by kernel_rfl)) ?_
   refine PL.call (xs:=[_,_]) rfl rfl rfl rfl rfl rfl rfl (fun w hw=>p_mul (by omega) hl0 w (tab.below hw.to_below)) ?_
   refine PL.mv rfl rfl rfl rfl rfl ?_
   refine PL.step rfl rfl rfl (PS.ext rfl rfl rfl) ?_
   refine PL.step rfl rfl rfl (PS.ext rfl rfl rfl) ?_
   refine PL.full rfl (Fa.alloc 5 (z:=(.agg #[.int .u64 0,.int .u64 0,.int .u64 0,.int .u64 0,.int .u64 0,.int .u64 0,.int .u64 0,.int .u64 0,.int .u64 0,.int .u64 0,.int .u64 0,.int .u64 0,.int .u64 0,.int .u64 0,.int .u64 0,.int .u64 0,.int .u64 0,.int .u64 0,.int .u64 0,.int .u64 0])) rfl (by kernel_rfl) (by kernel_rfl) rfl rfl ?_)
   refine PL.full rfl (Fa.storeH 20 rfl rfl rfl rfl rfl (pnt_row (ti (le l0) g1)) (by kernel_rfl) rfl ?_)
   refine PL.mu rfl rfl rfl rfl rfl ?_
   refine PL.nil ?_
   refine(PW.seq ?_:PW _ _ _ _)
   refine(PW.region ?_:PW _ _ _ _)
   refine PL.mv rfl rfl rfl rfl rfl ?_
   refine PL.step rfl rfl rfl (PS.loadH (k:=20) rfl rfl rfl (row_sz (pnt_row g1)) Tryz.underlying28 rfl (by kernel_rfl)) ?_
   refine PL.mv rfl rfl rfl rfl rfl ?_
   refine PL.call (xs:=[_,_,_]) rfl rfl rfl rfl rfl rfl rfl (fun w hw=>p_mixL (by simp[Nat.max_def];split <;> omega) w) ?_
   refine PL.mv rfl rfl rfl rfl rfl ?_
   refine PL.step rfl rfl rfl (PS.ext rfl rfl rfl) ?_
   refine PL.step rfl rfl rfl (PS.ext rfl rfl rfl) ?_
   refine PL.full rfl (Fa.alloc 6 (z:=(.agg #[.int .u64 0,.int .u64 0,.int .u64 0,.int .u64 0,.int .u64 0,.int .u64 0,.int .u64 0,.int .u64 0,.int .u64 0,.int .u64 0,.int .u64 0,.int .u64 0,.int .u64 0,.int .u64 0,.int .u64 0,.int .u64 0,.int .u64 0,.int .u64 0,.int .u64 0,.int .u64 0])) rfl (by kernel_rfl) (by kernel_rfl) rfl rfl ?_)
   refine PL.full rfl (Fa.storeH 20 rfl rfl rfl rfl rfl (nop_row) (by kernel_rfl) rfl ?_)
   refine PL.mu rfl rfl rfl rfl rfl ?_
   refine PL.nil ?_
   refine(PW.seq ?_:PW _ _ _ _)
   refine(PW.seq ?_:PW _ _ _ _)
   refine(PW.region ?_:PW _ _ _ _)
   refine PL.mv rfl rfl rfl rfl rfl ?_
   refine PL.step rfl rfl rfl (PS.len (n:=l0.length) rfl rfl Tryz.underlying22 (by decide) (by simp[bl])) ?_
   refine PL.step rfl rfl rfl (PS.decF (PS.gtr rfl rfl rfl) (by omega)) ?_
   refine PL.nil ?_
   show PW _ _ _ _
   refine PW.cond (b:=false) (by rfl) (fun h=>nomatch h) (fun _=>?_)
   refine(PW.skip ?_:PW _ _ _ _)
   refine(PW.seq ?_:PW _ _ _ _)
   refine(PW.seq ?_:PW _ _ _ _)
   refine(PW.region ?_:PW _ _ _ _)
   refine PL.mv rfl rfl rfl rfl rfl ?_
   refine PL.step rfl rfl rfl (PS.len (n:=l2.length) rfl rfl Tryz.underlying22 (by decide) (by simp[bl])) ?_
   refine PL.step rfl rfl rfl (PS.decT (PS.gtr rfl rfl rfl) (by omega)) ?_
   refine PL.nil ?_
   show PW _ _ _ _
   refine PW.cond (b:=true) (by rfl) (fun _=>?_) (fun h=>nomatch h)
   refine(PW.seq ?_:PW _ _ _ _)
   refine(PW.region ?_:PW _ _ _ _)
   refine PL.mv rfl rfl rfl rfl rfl ?_
   refine PL.step rfl rfl rfl (PS.eql rfl rfl rfl) ?_
   refine PL.mv rfl rfl rfl rfl rfl ?_
   refine PL.stepW rfl rfl rfl rfl rfl (PS.loadH (k:=20) rfl rfl rfl (row_sz (nop_row)) Tryz.underlying28 rfl (by kernel_rfl)) ?_
   refine PL.stepW rfl rfl rfl rfl rfl (PS.as (y:=nop) (PS.build (xs:=[]) (zs:=[.int .u64 0,.int .u64 0,.int .u64 0,.int .u64 0,.int .u64 0,.int .u64 0,.int .u64 0,.int .u64 0,.int .u64 0,.int .u64 0,.int .u64 0,.int .u64 0,.int .u64 0,.int .u64 0,.int .u64 0,.int .u64 0,.int .u64 0,.int .u64 0,.int .u64 0,.int .u64 0]) [] _ rfl rfl Tryz.underlying28 (by kernel_rfl) (by kernel_rfl) (by kernel_rfl) rfl (by kernel_rfl) rfl) (agg_lit (l:=z20.toList))) ?_
   refine PL.stepW rfl rfl rfl rfl rfl (PS.bin (.bool true) rfl rfl rfl (fun w=>by kernel_rfl) (fun w=>by kernel_rfl)) ?_
   refine PL.pT rfl rfl rfl rfl rfl rfl ?_
   refine PL.mv rfl rfl rfl rfl rfl ?_
   refine PL.stepW rfl rfl rfl rfl rfl (PS.call (xs:=[]) rfl rfl rfl rfl (fun w hw=>p_known w (tab.below hw.to_below) (ts.below hw.to_below))) ?_
   refine PL.pT rfl rfl rfl rfl rfl rfl ?_
   refine PL.mu rfl rfl rfl rfl rfl ?_
   refine PL.nil ?_
   refine(PW.ret ?_:PW _ _ _ _)
   exact Rt.as (Rt.one Tryz.results6 rfl) (le_refl _)
  ·skip
   refine(PW.region ?_:PW _ _ _ _)
   refine PL.mv rfl rfl rfl rfl rfl ?_
   refine PL.step rfl rfl rfl (PS.loadH (k:=20) rfl rfl rfl (row_sz (pnt_row g1)) Tryz.underlying28 rfl (by kernel_rfl)) ?_
   refine PL.call (xs:=[_,_]) rfl rfl rfl rfl rfl rfl rfl (fun w hw=>p_mul (by omega) hl0 w (tab.below hw.to_below)) ?_
   refine PL.mv rfl rfl rfl rfl rfl ?_
   refine PL.step rfl rfl rfl (PS.ext rfl rfl rfl) ?_
   refine PL.step rfl rfl rfl (PS.ext rfl rfl rfl) ?_
   refine PL.full rfl (Fa.alloc 7 (z:=(.agg #[.int .u64 0,.int .u64 0,.int .u64 0,.int .u64 0,.int .u64 0,.int .u64 0,.int .u64 0,.int .u64 0,.int .u64 0,.int .u64 0,.int .u64 0,.int .u64 0,.int .u64 0,.int .u64 0,.int .u64 0,.int .u64 0,.int .u64 0,.int .u64 0,.int .u64 0,.int .u64 0])) rfl (by kernel_rfl) (by kernel_rfl) rfl rfl ?_)
   refine PL.full rfl (Fa.storeH 20 rfl rfl rfl rfl rfl (pnt_row (ti (le l0) g1)) (by kernel_rfl) rfl ?_)
   refine PL.mu rfl rfl rfl rfl rfl ?_
   refine PL.nil ?_
   refine(PW.seq ?_:PW _ _ _ _)
   refine(PW.region ?_:PW _ _ _ _)
   refine PL.mv rfl rfl rfl rfl rfl ?_
   refine PL.step rfl rfl rfl (PS.loadH (k:=20) rfl rfl rfl (row_sz (pnt_row g1)) Tryz.underlying28 rfl (by kernel_rfl)) ?_
   refine PL.mv rfl rfl rfl rfl rfl ?_
   refine PL.call (xs:=[_,_,_]) rfl rfl rfl rfl rfl rfl rfl (fun w hw=>p_mix hb (by omega) (by omega) hl0 hl2 w (tab.below hw.to_below)) ?_
   refine PL.mv rfl rfl rfl rfl rfl ?_
   refine PL.step rfl rfl rfl (PS.ext rfl rfl rfl) ?_
   refine PL.step rfl rfl rfl (PS.ext rfl rfl rfl) ?_
   refine PL.full rfl (Fa.alloc 8 (z:=(.agg #[.int .u64 0,.int .u64 0,.int .u64 0,.int .u64 0,.int .u64 0,.int .u64 0,.int .u64 0,.int .u64 0,.int .u64 0,.int .u64 0,.int .u64 0,.int .u64 0,.int .u64 0,.int .u64 0,.int .u64 0,.int .u64 0,.int .u64 0,.int .u64 0,.int .u64 0,.int .u64 0])) rfl (by kernel_rfl) (by kernel_rfl) rfl rfl ?_)
   refine PL.full rfl (Fa.storeH 20 rfl rfl rfl rfl rfl (pnt_row (ga (ti (le l0) g1) (ti (le l2) b))) (by kernel_rfl) rfl ?_)
   refine PL.mu rfl rfl rfl rfl rfl ?_
   refine PL.nil ?_
   refine(PW.seq ?_:PW _ _ _ _)
   refine(PW.seq ?_:PW _ _ _ _)
   refine(PW.region ?_:PW _ _ _ _)
   refine PL.mv rfl rfl rfl rfl rfl ?_
   refine PL.step rfl rfl rfl (PS.len (n:=l0.length) rfl rfl Tryz.underlying22 (by decide) (by simp[bl])) ?_
   refine PL.step rfl rfl rfl (PS.decF (PS.gtr rfl rfl rfl) (by omega)) ?_
   refine PL.nil ?_
   show PW _ _ _ _
   refine PW.cond (b:=false) (by rfl) (fun h=>nomatch h) (fun _=>?_)
   refine(PW.skip ?_:PW _ _ _ _)
   refine(PW.seq ?_:PW _ _ _ _)
   refine(PW.seq ?_:PW _ _ _ _)
   refine(PW.region ?_:PW _ _ _ _)
   refine PL.mv rfl rfl rfl rfl rfl ?_
   refine PL.step rfl rfl rfl (PS.len (n:=l2.length) rfl rfl Tryz.underlying22 (by decide) (by simp[bl])) ?_
   refine PL.step rfl rfl rfl (PS.decF (PS.gtr rfl rfl rfl) (by omega)) ?_
   refine PL.nil ?_
   show PW _ _ _ _
   refine PW.cond (b:=false) (by rfl) (fun h=>nomatch h) (fun _=>?_)
   refine(PW.skip ?_:PW _ _ _ _)
   refine(PW.seq ?_:PW _ _ _ _)
   refine(PW.drawn 26 (by kernel_rfl) (by kernel_rfl) (by kernel_rfl) (by kernel_rfl) (by kernel_rfl) ?_:PW _ _ _ _)
   refine PD.mv rfl rfl rfl rfl rfl ?_
   refine PD.step rfl rfl rfl (PS.eql rfl rfl rfl) ?_
   refine PD.mv rfl rfl rfl rfl rfl ?_
   refine PD.stepW rfl rfl rfl (by kernel_rfl) rfl rfl (PS.moved (r:=.c _) rfl rfl) ?_
   refine PD.stepW rfl rfl rfl (by kernel_rfl) rfl rfl (PS.eql rfl rfl rfl) ?_
   refine PD.pT rfl rfl rfl rfl rfl rfl ?_
   refine PD.mv rfl rfl rfl rfl rfl ?_
   refine PD.stepW rfl rfl rfl (by kernel_rfl) rfl rfl (PS.loadH (k:=20) rfl rfl rfl (row_sz (pnt_row (ti (le l0) g1))) Tryz.underlying28 rfl (by kernel_rfl)) ?_
   refine PD.stepW rfl rfl rfl (by kernel_rfl) rfl rfl (PS.moved (r:=.c _) rfl rfl) ?_
   refine PD.stepW rfl rfl rfl (by kernel_rfl) rfl rfl (PS.loadR (xs:=[_,_,_]) rfl rfl rfl rfl Tryz.underlying34 rfl (by kernel_rfl)) ?_
   refine PD.stepW rfl rfl rfl (by kernel_rfl) rfl rfl (PS.call (xs:=[_,_]) rfl rfl rfl rfl (fun w hw=>c_times (n:=l0) (p:=ptT l1) (by omega) hk1 w)) ?_
   refine PD.stepW rfl rfl rfl (by kernel_rfl) rfl rfl (PS.call (xs:=[_,_]) rfl rfl rfl rfl (fun w hw=>c_isT (t:=two3 l0 [] (ptT l1) zero3) (R3.times hl0 hg1) two3_ok true (by simp) w)) ?_
   refine PD.pT rfl rfl rfl rfl rfl rfl ?_
   refine PD.mv rfl rfl rfl rfl rfl ?_
   refine PD.stepW rfl rfl rfl (by kernel_rfl) rfl rfl (PS.loadH (k:=20) rfl rfl rfl (row_sz (pnt_row (ga (ti (le l0) g1) (ti (le l2) b)))) Tryz.underlying28 rfl (by kernel_rfl)) ?_
   refine PD.stepW rfl rfl rfl (by kernel_rfl) rfl rfl (PS.moved (r:=.c _) rfl rfl) ?_
   refine PD.stepW rfl rfl rfl (by kernel_rfl) rfl rfl (PS.loadR (xs:=[_,_,_]) rfl rfl rfl rfl Tryz.underlying34 rfl (by kernel_rfl)) ?_
   refine PD.stepW rfl rfl rfl (by kernel_rfl) rfl rfl (PS.moved (r:=.c _) rfl rfl) ?_
   refine PD.stepW rfl rfl rfl (by kernel_rfl) rfl rfl (PS.call (xs:=[]) rfl rfl rfl rfl (fun w hw=>c_base w)) ?_
   refine PD.stepW rfl rfl rfl (by kernel_rfl) rfl rfl (PS.call (xs:=[_,_,_,_]) rfl rfl rfl rfl (fun w hw=>c_two (n:=l0) (m:=l2) (p:=ptT l1) (q:=base3) (by omega) (by omega) hk1 base3_ok w)) ?_
   refine PD.stepW rfl rfl rfl (by kernel_rfl) rfl rfl (PS.call (xs:=[_,_]) rfl rfl rfl rfl (fun w hw=>c_isT (t:=two3 l0 l2 (ptT l1) base3) (R3.two hl0 hl2 hg1 (base3_R3 hb)) two3_ok true (by simp) w)) ?_
   refine PD.pT rfl rfl rfl rfl rfl rfl ?_
   refine PD.mv rfl rfl rfl rfl rfl ?_
   refine PD.stepW rfl rfl rfl (by kernel_rfl) rfl rfl (PS.call (xs:=[]) rfl rfl rfl rfl (fun w hw=>p_known w (tab.below hw.to_below) (ts.below hw.to_below))) ?_
   refine PD.pT rfl rfl rfl rfl rfl rfl ?_
   refine PD.mu rfl rfl rfl rfl rfl ?_
   refine PD.nil ?_
   refine(PW.ret ?_:PW _ _ _ _)
   exact Rt.as (Rt.one Tryz.results6 rfl) (le_refl _)
theorem walk_edMuls{w:World}(tab:TabE w∧Sh.Tab w)(A0:Option Addr)(n0 c0:Nat)(l0:List Nat)(hb0:BL w A0 n0 c0 l0)(A1:Option Addr)(n1 c1:Nat)(l1:List Nat)(hb1:BL w A1 n1 c1 l1)(A2:Option Addr)(n2 c2:Nat)(l2:List Nat)(hb2:BL w A2 n2 c2 l2):Calls Tryz.prog 6 #[.slice A0 n0 c0,.slice A1 n1 c1,.slice A2 n2 c2] w fun e w'=>e=.returned (.bool true)∧Below w.heap.size w w':=by
 obtain⟨b,hb⟩:=base_some
 obtain⟨g1,hg1,hk1⟩:=ptT_some hb1.2.2.1 hb
 exact(l_EdMuls hb0.2.2.1 hb1.2.2.1 hb2.2.2.1 hg1 hk1 hb w tab.1 tab.2).run (vs:=[.slice A0 n0 c0,.slice A1 n1 c1,.slice A2 n2 c2]) rfl ⟨⟨_,rfl,bl_byt hb0⟩,⟨_,rfl,bl_byt hb1⟩,⟨_,rfl,bl_byt hb2⟩,trivial⟩
end Go.Proofs.YtjimhjfjfpeojaaGreatDoor.Av
