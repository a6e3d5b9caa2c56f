/- Joined texts. -/
import Derived.Test.YtjimhjfjfpeojaaGreatDoorQbAvLw
set_option linter.unusedVariables false
namespace Go.Proofs.YtjimhjfjfpeojaaGreatDoor.Av
open Go.RowKit Go.Proofs.YtjimhjfjfpeojaaGreatDoor.Gn Go.Proofs.YtjimhjfjfpeojaaGreatDoor.Fd Go.Proofs.YtjimhjfjfpeojaaGreatDoor.Ed Go.Deep
theorem base_xy{b:G}(h:Hp kbase b):fv b.x=nbx∧fv b.y=nby:=by
 have h2:=base3_R3 h
 have hx:fe nbx=b.x*fe 1:=h2.hx
 have hy:fe nby=b.y*fe 1:=h2.hy
 rw[fe_one,Crv.mul_one_] at hx hy
 rw[←hx,←hy]
 exact⟨fv_small small_lt.2.2.1,fv_small small_lt.2.2.2⟩
theorem rof_of{x y:Nat}(hx:x < pp)(hy:y < pp)(he:x%2=0){b:G}(h1:fv b.x=x)(h2:fv b.y=y):rof y false=some x:=by
 obtain⟨p,h3,h4⟩:=dpt_of b
 rw[h1,h2,he] at h3
 unfold dpt at h3
 rw[if_pos hy] at h3
 unfold rof
 rw[rr_acr]
 cases ha:acr (kof y) with
 |none=>rw[ha] at h3;cases h3
 |some r =>
  rw[ha] at h3
  dsimp only at h3
  rw[if_neg (fun h=>by cases h.1)] at h3
  obtain rfl:=Option.some.inj h3
  have hr:=acr_lt ha
  dsimp only
  rw[if_neg (fun h=>by cases h.1),if_neg (by decide)]
  have h5:(sx 0 r).f=fe r:=by rw[sx_f,if_neg (by decide)]
  have h6:=kheld_R3 (a:=r) (b:=y) h4 h5.symm (kof_f _).symm
  have hx:fe r=b.x*fe 1:=h6.hx
  rw[fe_one,Crv.mul_one_] at hx
  rw[←fv_small hr.1,hx,h1]
theorem rof_base:rof nby false=some nbx:=by
 obtain⟨b,hb⟩:=base_some
 obtain⟨h1,h2⟩:=base_xy hb
 exact rof_of small_lt.2.2.1 small_lt.2.2.2 (by decide +kernel) h1 h2
theorem d_known:dn*121666%pp=(0+(pp - 121665))%pp:=by rw[pp_eq];decide +kernel
theorem y_known:nby*5%pp=4:=by rw[pp_eq];decide +kernel
set_option maxHeartbeats 2000000 in
set_option maxRecDepth 100000 in
theorem c_fixed(w:World):FnAt Tryz.prog [.u64] w 19 [] (.lit (.bool true)):=by
 refine FnAt.of Tryz.f19 _ _ Tryz.func19 Tryz.ntmps19 rfl (by kernel_rfl) (fun _ _=>by kernel_rfl) fun O=>?_
 show PW _ _ _ ⟨[],[]⟩
 refine(PW.seq ?_:PW _ _ _ _)
 refine(PW.region ?_:PW _ _ _ _)
 refine PL.mu rfl rfl rfl rfl rfl ?_
 refine PL.nil ?_
 refine(PW.seq ?_:PW _ _ _ _)
 refine(PW.region ?_:PW _ _ _ _)
 refine PL.call (xs:=[]) rfl rfl rfl rfl rfl rfl rfl (fun w hw=>c_base w) ?_
 refine PL.full rfl (Fa.alloc 1 (z:=(.agg #[.slice none 0 0,.slice none 0 0,.slice none 0 0])) rfl (by kernel_rfl) (by kernel_rfl) rfl rfl ?_)
 refine PL.full rfl (Fa.storeR rfl rfl rfl rfl rfl rfl (by kernel_rfl) rfl ?_)
 refine PL.nil ?_
 refine(PW.seq ?_:PW _ _ _ _)
 refine(PW.region ?_:PW _ _ _ _)
 refine PL.step rfl rfl rfl (PS.fieldAddr 1 rfl rfl (fun _ _=>by kernel_rfl)) ?_
 refine PL.step rfl rfl rfl (PS.load rfl rfl rfl rfl Tryz.underlying32 rfl) ?_
 refine PL.call (xs:=[_,_]) rfl rfl rfl rfl rfl rfl rfl (fun w hw=>FnAt.to (c_Of (y:=nby) false small_lt.2.2.2 w) (le_eq (by rw[rof_base]))) ?_
 refine PL.mv rfl rfl rfl rfl rfl ?_
 refine PL.step rfl rfl rfl (PS.ext rfl rfl rfl) ?_
 refine PL.step rfl rfl rfl (PS.ext rfl rfl rfl) ?_
 refine PL.full rfl (Fa.alloc 2 (z:=(.agg #[.slice none 0 0,.slice none 0 0,.slice none 0 0])) rfl (by kernel_rfl) (by kernel_rfl) rfl rfl ?_)
 refine PL.full rfl (Fa.storeR rfl rfl rfl rfl rfl rfl (by kernel_rfl) rfl ?_)
 refine PL.mu rfl rfl rfl rfl rfl ?_
 refine PL.nil ?_
 refine(PW.seq ?_:PW _ _ _ _)
 refine(PW.region ?_:PW _ _ _ _)
 refine PL.call (xs:=[]) rfl rfl rfl rfl rfl rfl rfl (fun w hw=>c_D w) ?_
 refine PL.step rfl rfl rfl (PS.buildSlice (parts:=[(0,_),(1,_)]) (xs:=[_,_]) (z:=(.int .u64 0)) (bytes:=8) rfl rfl rfl Tryz.underlying32 (by kernel_rfl) rfl (by kernel_rfl) (by kernel_rfl)) ?_
 refine PL.call (xs:=[_,_]) rfl rfl rfl rfl rfl rfl rfl (fun w hw=>FnAt.le2 (c_mul (a:=dn) (b:=121666) dn_lt (by rw[pp_eq];decide) w) (le_refl _) (le_dg (l:=[56130,1]) (by decide +kernel))) ?_
 refine PL.step rfl rfl rfl (PS.buildSlice (parts:=[(0,_),(1,_)]) (xs:=[_,_]) (z:=(.int .u64 0)) (bytes:=8) rfl rfl rfl Tryz.underlying32 (by kernel_rfl) rfl (by kernel_rfl) (by kernel_rfl)) ?_
 refine PL.call (xs:=[_,_]) rfl rfl rfl rfl rfl rfl rfl (fun w hw=>FnAt.le2 (c_less (a:=0) (b:=121665) pp_pos (by rw[pp_eq];decide) w) le_zero (le_dg (l:=[56129,1]) (by decide +kernel))) ?_
 refine PL.call (xs:=[_,_]) rfl rfl rfl rfl rfl rfl rfl (fun w hw=>FnAt.to (c_same (lt_mod _) (lt_mod _) w) (bool_true (decide_eq_true d_known))) ?_
 refine PL.mv rfl rfl rfl rfl rfl ?_
 refine PL.stepW rfl rfl rfl rfl rfl (PS.fieldAddr 1 rfl rfl (fun _ _=>by kernel_rfl)) ?_
 refine PL.stepW rfl rfl rfl rfl rfl (PS.load rfl rfl rfl rfl Tryz.underlying32 rfl) ?_
 refine PL.stepW rfl rfl rfl rfl rfl (PS.buildSlice (parts:=[(0,_)]) (xs:=[_]) (z:=(.int .u64 0)) (bytes:=8) rfl rfl rfl Tryz.underlying32 (by kernel_rfl) rfl (by kernel_rfl) (by kernel_rfl)) ?_
 refine PL.stepW rfl rfl rfl rfl rfl (PS.call (xs:=[_,_]) rfl rfl rfl rfl (fun w hw=>FnAt.le2 (c_mul (a:=nby) (b:=5) small_lt.2.2.2 (by rw[pp_eq];decide) w) (le_refl _) (le_dg (l:=[5]) (by decide +kernel)))) ?_
 refine PL.stepW rfl rfl rfl rfl rfl (PS.buildSlice (parts:=[(0,_)]) (xs:=[_]) (z:=(.int .u64 0)) (bytes:=8) rfl rfl rfl Tryz.underlying32 (by kernel_rfl) rfl (by kernel_rfl) (by kernel_rfl)) ?_
 refine PL.stepW rfl rfl rfl rfl rfl (PS.call (xs:=[_,_]) rfl rfl rfl rfl (fun w hw=>FnAt.to (FnAt.le2 (c_same (a:=nby*5%pp) (b:=4) (lt_mod _) (by rw[pp_eq];decide) w) (le_refl _) (le_dg (l:=[4]) (by decide +kernel))) (bool_true (decide_eq_true y_known)))) ?_
 refine PL.pT rfl rfl rfl rfl rfl rfl ?_
 refine PL.mv rfl rfl rfl rfl rfl ?_
 refine PL.stepW rfl rfl rfl rfl rfl (PS.moved (r:=.c _) rfl rfl) ?_
 refine PL.pT rfl rfl rfl rfl rfl rfl ?_
 refine PL.mv rfl rfl rfl rfl rfl ?_
 refine PL.stepW rfl rfl rfl rfl rfl (PS.fieldAddr 0 rfl rfl (fun _ _=>by kernel_rfl)) ?_
 refine PL.stepW rfl rfl rfl rfl rfl (PS.load rfl rfl rfl rfl Tryz.underlying32 rfl) ?_
 refine PL.stepW rfl rfl rfl rfl rfl (PS.fieldAddr 0 rfl rfl (fun _ _=>by kernel_rfl)) ?_
 refine PL.stepW rfl rfl rfl rfl rfl (PS.load rfl rfl rfl rfl Tryz.underlying32 rfl) ?_
 refine PL.stepW rfl rfl rfl rfl rfl (PS.call (xs:=[_,_]) rfl rfl rfl rfl (fun w hw=>FnAt.to (c_same (a:=nbx) (b:=nbx) small_lt.2.2.1 small_lt.2.2.1 w) (bool_true (by simp)))) ?_
 refine PL.pT rfl rfl rfl rfl rfl rfl ?_
 refine PL.mv rfl rfl rfl rfl rfl ?_
 refine PL.stepW rfl rfl rfl rfl rfl (PS.fieldAddr 0 rfl rfl (fun _ _=>by kernel_rfl)) ?_
 refine PL.stepW rfl rfl rfl rfl rfl (PS.load rfl rfl rfl rfl Tryz.underlying32 rfl) ?_
 refine PL.stepW rfl rfl rfl rfl rfl (PS.index1 (i:=0) (.lit (.int .u64 (((dg nbx).getD 0 0:Nat):Int))) rfl rfl rfl Tryz.underlying32 (by kernel_rfl) (num_get (by decide +kernel))) ?_
 refine PL.stepW rfl rfl rfl rfl rfl (PS.loadA rfl rfl Tryz.underlying24 rfl) ?_
 refine PL.stepW rfl rfl rfl rfl rfl (PS.remN (a:=(dg nbx).getD 0 0) (b:=2) rfl rfl rfl (by decide)) ?_
 refine PL.stepW rfl rfl rfl rfl rfl (PS.eq (y:=Bo true) (PS.eql rfl rfl rfl) (by rw[show(dg nbx).getD 0 0%2=0 by decide +kernel];rfl)) ?_
 refine PL.pT rfl rfl rfl rfl rfl rfl ?_
 refine PL.mu rfl rfl rfl rfl rfl ?_
 refine PL.nil ?_
 refine(PW.ret ?_:PW _ _ _ _)
 exact Rt.as (Rt.one Tryz.results19 rfl) (le_refl _)
set_option maxHeartbeats 4000000 in
set_option maxRecDepth 100000 in
theorem l_EdOn(p:KP){l0:List Nat}(hl0:∀x∈l0,x < 256){g0:G}(hg0:R3 (ptT l0) g0)(hk0:(ptT l0).ok)(w:World)(tab:TabE w)(ts:Sh.Tab w):FnAt Tryz.prog [.u64] w 4 [.lit (.agg p.v),byt true l0] (.lit (.bool true)):=by
 refine FnAt.of Tryz.f4 _ _ Tryz.func4 Tryz.ntmps4 rfl (by kernel_rfl) (fun _ _=>by kernel_rfl) fun O=>?_
 show PW _ _ _ ⟨[(0,.c (.dv _)),(1,.c (.dv _))],[]⟩
 refine(PW.seq ?_:PW _ _ _ _)
 refine(PW.region ?_:PW _ _ _ _)
 refine PL.full rfl (Fa.boxH 21 rfl rfl (fun O w v h=>⟨_,h⟩) (by kernel_rfl) rfl rfl ?_)
 refine PL.mu rfl rfl rfl rfl rfl ?_
 refine PL.nil ?_
 refine(PW.seq ?_:PW _ _ _ _)
 refine(PW.seq ?_:PW _ _ _ _)
 refine(PW.region ?_:PW _ _ _ _)
 refine PL.mv rfl rfl rfl rfl rfl ?_
 refine PL.step rfl rfl rfl (PS.len (n:=l0.length) rfl rfl Tryz.underlying22 (by decide) (by simp[bl])) ?_
 refine PL.step rfl rfl rfl (PS.gtr rfl rfl rfl) ?_
 refine PL.nil ?_
 show PW _ _ _ _
 refine PW.cond (by rfl) (fun hc13=>?_) (fun hc13=>?_)
 ·skip
  refine(PW.seq ?_:PW _ _ _ _)
  refine(PW.region ?_:PW _ _ _ _)
  refine PL.call (xs:=[]) rfl rfl rfl rfl rfl rfl rfl (fun w hw=>p_known w (tab.below hw.to_below) (ts.below hw.to_below)) ?_
  refine PL.mu rfl rfl rfl rfl rfl ?_
  refine PL.nil ?_
  refine(PW.ret ?_:PW _ _ _ _)
  exact Rt.as (Rt.one Tryz.results4 rfl) (le_refl _)
 have hle:l0.length≤100:=by have:=of_decide_eq_false hc13;omega
 refine(PW.skip ?_:PW _ _ _ _)
 refine(PW.seq ?_:PW _ _ _ _)
 refine(PW.region ?_:PW _ _ _ _)
 refine PL.mv rfl rfl rfl rfl rfl ?_
 refine PL.call (xs:=[_]) rfl rfl rfl rfl rfl rfl rfl (fun w hw=>c_point hl0 hg0 hk0 w (tab.below hw.to_below)) ?_
 refine PL.mv rfl rfl rfl rfl rfl ?_
 refine PL.step rfl rfl rfl (PS.ext rfl rfl rfl) ?_
 refine PL.step rfl rfl rfl (PS.ext rfl rfl rfl) ?_
 refine PL.full rfl (Fa.alloc 1 (z:=(.agg #[.int .u64 0,.int .u64 0,.int .u64 0,.int .u64 0,.int .u64 0,.int .u64 0,.int .u64 0,.int .u64 0,.int .u64 0,.int .u64 0,.int .u64 0,.int .u64 0,.int .u64 0,.int .u64 0,.int .u64 0,.int .u64 0,.int .u64 0,.int .u64 0,.int .u64 0,.int .u64 0])) rfl (by kernel_rfl) (by kernel_rfl) rfl rfl ?_)
 refine PL.full rfl (Fa.alloc 2 (z:=(.agg #[.slice none 0 0,.slice none 0 0,.slice none 0 0])) rfl (by kernel_rfl) (by kernel_rfl) rfl rfl ?_)
 refine PL.full rfl (Fa.storeH 20 rfl rfl rfl rfl rfl (pnt_row g0) (by kernel_rfl) rfl ?_)
 refine PL.full rfl (Fa.storeR rfl rfl rfl rfl rfl rfl (by kernel_rfl) rfl ?_)
 refine PL.nil ?_
 refine(PW.seq ?_:PW _ _ _ _)
 refine(PW.drawn 21 (by kernel_rfl) (by kernel_rfl) (by kernel_rfl) (by kernel_rfl) (by kernel_rfl) ?_:PW _ _ _ _)
 refine PD.call (xs:=[]) rfl rfl rfl rfl rfl rfl rfl (fun w hw=>c_fixed w) ?_
 refine PD.mv rfl rfl rfl rfl rfl ?_
 refine PD.stepW rfl rfl rfl (by kernel_rfl) rfl rfl (PS.loadH (k:=20) rfl rfl rfl (row_sz (kp_row p)) Tryz.underlying28 rfl (by kernel_rfl)) ?_
 refine PD.stepW rfl rfl rfl (by kernel_rfl) rfl rfl (PS.call (xs:=[_]) rfl rfl rfl rfl (fun w hw=>p_onk p w (tab.below hw.to_below))) ?_
 refine PD.stepW rfl rfl rfl (by kernel_rfl) rfl rfl (PS.loadH (k:=20) rfl rfl rfl (row_sz (kp_row p)) Tryz.underlying28 rfl (by kernel_rfl)) ?_
 refine PD.stepW rfl rfl rfl (by kernel_rfl) rfl rfl (PS.call (xs:=[_]) rfl rfl rfl rfl (fun w hw=>c_onk p w)) ?_
 refine PD.stepW rfl rfl rfl (by kernel_rfl) rfl rfl (PS.eq (y:=Bo true) (PS.beq rfl rfl rfl Tryz.underlying4) (by rw[rhon_hon];simp)) ?_
 refine PD.pT rfl rfl rfl rfl rfl rfl ?_
 refine PD.mv rfl rfl rfl rfl rfl ?_
 refine PD.stepW rfl rfl rfl (by kernel_rfl) rfl rfl (PS.loadH (k:=20) rfl rfl rfl (row_sz (pnt_row g0)) Tryz.underlying28 rfl (by kernel_rfl)) ?_
 refine PD.stepW rfl rfl rfl (by kernel_rfl) rfl rfl (PS.call (xs:=[_]) rfl rfl rfl rfl (fun w hw=>p_on w (tab.below hw.to_below))) ?_
 refine PD.pT rfl rfl rfl rfl rfl rfl ?_
 refine PD.mv rfl rfl rfl rfl rfl ?_
 refine PD.stepW rfl rfl rfl (by kernel_rfl) rfl rfl (PS.loadH (k:=20) rfl rfl rfl (row_sz (pnt_row g0)) Tryz.underlying28 rfl (by kernel_rfl)) ?_
 refine PD.stepW rfl rfl rfl (by kernel_rfl) rfl rfl (PS.loadR (xs:=[_,_,_]) rfl rfl rfl rfl Tryz.underlying34 rfl (by kernel_rfl)) ?_
 refine PD.stepW rfl rfl rfl (by kernel_rfl) rfl rfl (PS.call (xs:=[_,_]) rfl rfl rfl rfl (fun w hw=>c_isT (t:=ptT l0) hg0 hk0 true (by simp) w)) ?_
 refine PD.pT rfl rfl rfl rfl rfl rfl ?_
 refine PD.mv rfl rfl rfl rfl rfl ?_
 refine PD.stepW rfl rfl rfl (by kernel_rfl) rfl rfl (PS.call (xs:=[]) rfl rfl rfl rfl (fun w hw=>p_known w (tab.below hw.to_below) (ts.below hw.to_below))) ?_
 refine PD.pT rfl rfl rfl rfl rfl rfl ?_
 refine PD.mu rfl rfl rfl rfl rfl ?_
 refine PD.nil ?_
 refine(PW.ret ?_:PW _ _ _ _)
 exact Rt.as (Rt.one Tryz.results4 rfl) (le_refl _)
theorem walk_edOn{w:World}(tab:TabE w∧Sh.Tab w)(p:KP)(A0:Option Addr)(n0 c0:Nat)(l0:List Nat)(hb0:BL w A0 n0 c0 l0):Calls Tryz.prog 4 #[.agg p.v,.slice A0 n0 c0] w fun e w'=>e=.returned (.bool true)∧Below w.heap.size w w':=by
 obtain⟨b,hb⟩:=base_some
 obtain⟨g0,hg0,hk0⟩:=ptT_some hb0.2.2.1 hb
 exact(l_EdOn p hb0.2.2.1 hg0 hk0 w tab.1 tab.2).run (vs:=[.agg p.v,.slice A0 n0 c0]) rfl ⟨⟨_,rfl,rfl⟩,⟨_,rfl,bl_byt hb0⟩,trivial⟩
end Go.Proofs.YtjimhjfjfpeojaaGreatDoor.Av
