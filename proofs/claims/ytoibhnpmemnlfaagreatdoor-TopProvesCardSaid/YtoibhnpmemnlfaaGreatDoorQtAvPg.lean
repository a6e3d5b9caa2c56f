/- Joined texts. -/
import Derived.Test.YtoibhnpmemnlfaaGreatDoorQtEdN
import Derived.Test.YtoibhnpmemnlfaaGreatDoorQtEdL
import Derived.Test.YtoibhnpmemnlfaaGreatDoorQtEdC
set_option linter.unusedVariables false
namespace Go.Proofs.YtoibhnpmemnlfaaGreatDoor.Av
open Go.RowKit Go.Proofs.YtoibhnpmemnlfaaGreatDoor.Gn Go.Proofs.YtoibhnpmemnlfaaGreatDoor.Fd Go.Proofs.YtoibhnpmemnlfaaGreatDoor.Ed Go.Deep
theorem p_onk(p:KP)(w:World)(tab:TabE w):FnAt Tryz.prog [] w 36 [pv p] (.lit (.bool (hon kd p))):=el_one (fun _ _=>by kernel_rfl) (On_any p w tab)
theorem p_heldk(x y:K)(w:World):FnAt Tryz.prog [] w 33 [kv x,kv y] (pv (kheld x y)):=el_two (fun _ _=>by kernel_rfl) (held_any x y w)
theorem f_enc(x:K)(w:World):OwnAt Tryz.prog [] w 43 [kv x] 5 1 false ((bl (by_ (fv x.f) 32)).map .lit) :=
 ⟨fun _ _=>by kernel_rfl,fun O vs hO hk hl hr=>by
  obtain⟨u,rfl,h1⟩:=one_arg hl hr
  cases h1
  exact(cenc x w).mono fun e w' hr=>ownY_rep (by_le _ 32 (by decide)) hr⟩
theorem or128:∀b:Nat,b < 128→bits .or .u8 (b:Int) 128=((b+128:Nat):Int):=by decide +kernel
theorem o_or128(w:World)(b:Nat)(h:b < 128):(binOp .or 5 (.int .u8 (b:Int)) (.int .u8 128)).run Tryz.prog w=.ok (.int .u8 ((b+128:Nat):Int)) w:=by
 have:=or128 b h
 go_simp
 try simpa using this
theorem by_31{n:Nat}(h:n < 57896044618658097711785492504343953926634992332820282019728792003956564819968):(by_ n 32).getD 31 0 < 128:=by
 have h1:=by_length n 32
 have h2:=by_lt n 32
 have h3:=low_le h1 h2
 rw[le_by,Nat.mod_eq_of_lt (Nat.lt_trans h (by decide))] at h3
 have:(by_ n 32).getD 31 0 / 128=0:=by
  rcases Nat.eq_zero_or_pos ((by_ n 32).getD 31 0 / 128) with h4|h4
  ·exact h4
  ·have:=Nat.mul_le_mul_right 57896044618658097711785492504343953926634992332820282019728792003956564819968 h4
   omega
 omega
theorem top_eq{n:Nat}(h:n < 57896044618658097711785492504343953926634992332820282019728792003956564819968):(by_ n 32).set 31 ((by_ n 32).getD 31 0+128)=by_ (n+57896044618658097711785492504343953926634992332820282019728792003956564819968) 32:=by
 have:=by_top n h
 rwa [Nat.mod_eq_of_lt (by_31 h)] at this
def ez(p:KP):K:=kinv p.z
def ey(p:KP):K:=kmul p.y (ez p)
def ex(p:KP):K:=kmul p.x (ez p)
set_option maxRecDepth 100000 in
theorem p_samek(p q:KP)(w:World)(tab:TabE w):FnAt Tryz.prog [] w 13 [pv p,pv q] (.lit (.bool (hsame kd p q))):=by
 refine FnAt.of Tryz.f13 _ _ Tryz.func13 Tryz.ntmps13 rfl (by kernel_rfl) (fun _ _=>by kernel_rfl) fun O=>?_
 show PW _ _ _ ⟨[(0,.c (.dv _)),(1,.c (.dv _))],[]⟩
 refine(PW.seq ?_:PW _ _ _ _)
 refine(PW.region ?_:PW _ _ _ _)
 refine PL.full rfl (Fa.boxH 21 rfl rfl (row_agg (kp_row p)) (by kernel_rfl) rfl rfl ?_)
 refine PL.full rfl (Fa.boxH 22 rfl rfl (row_agg (kp_row q)) (by kernel_rfl) rfl rfl ?_)
 refine PL.mu rfl rfl rfl rfl rfl ?_
 refine PL.nil ?_
 refine(PW.seq ?_:PW _ _ _ _)
 rcases h1:hon kd p with _|_
 rotate_left
 rcases h2:hon kd q with _|_
 rotate_left
 rcases h3:decide ((kmul p.x q.z).f=(kmul q.x p.z).f) with _|_
 rotate_left
 ·skip
  refine(PW.drawn 33 (by kernel_rfl) (by kernel_rfl) (by kernel_rfl) (by kernel_rfl) (by kernel_rfl) ?_:PW _ _ _ _)
  refine PD.step rfl rfl rfl (PS.loadH (k:=20) rfl rfl rfl (row_sz (kp_row _)) Tryz.underlying33 rfl (by kernel_rfl)) ?_
  refine PD.call (xs:=[_]) rfl rfl rfl rfl rfl rfl rfl (fun w hw=>h1▸p_onk p w (tab.below hw.to_below)) ?_
  refine PD.mv rfl rfl rfl rfl rfl ?_
  refine PD.stepW rfl rfl rfl (by kernel_rfl) rfl rfl (PS.loadH (k:=20) rfl rfl rfl (row_sz (kp_row _)) Tryz.underlying33 rfl (by kernel_rfl)) ?_
  refine PD.stepW rfl rfl rfl (by kernel_rfl) rfl rfl (PS.call (xs:=[_]) rfl rfl rfl rfl (fun w hw=>h2▸p_onk q w (tab.below hw.to_below))) ?_
  refine PD.pT rfl rfl rfl rfl rfl rfl ?_
  refine PD.mv rfl rfl rfl rfl rfl ?_
  refine PD.stepW rfl rfl rfl (by kernel_rfl) rfl rfl (PS.fieldAddr 0 rfl rfl (fun _ _=>by kernel_rfl)) ?_
  refine PD.stepW rfl rfl rfl (by kernel_rfl) rfl rfl (PS.part (k:=5) (vs:=KP.v p) (K.v p.x) rfl rfl rfl (by kernel_rfl) Tryz.underlying31 rfl (by kernel_rfl) rfl) ?_
  refine PD.stepW rfl rfl rfl (by kernel_rfl) rfl rfl (PS.fieldAddr 10 rfl rfl (fun _ _=>by kernel_rfl)) ?_
  refine PD.stepW rfl rfl rfl (by kernel_rfl) rfl rfl (PS.part (k:=5) (vs:=KP.v q) (K.v q.z) rfl rfl rfl (by kernel_rfl) Tryz.underlying31 rfl (by kernel_rfl) rfl) ?_
  refine PD.stepW rfl rfl rfl (by kernel_rfl) rfl rfl (PS.call (xs:=[_,_]) rfl rfl rfl rfl (fun w hw=>f_mul _ _ w)) ?_
  refine PD.stepW rfl rfl rfl (by kernel_rfl) rfl rfl (PS.fieldAddr 0 rfl rfl (fun _ _=>by kernel_rfl)) ?_
  refine PD.stepW rfl rfl rfl (by kernel_rfl) rfl rfl (PS.part (k:=5) (vs:=KP.v q) (K.v q.x) rfl rfl rfl (by kernel_rfl) Tryz.underlying31 rfl (by kernel_rfl) rfl) ?_
  refine PD.stepW rfl rfl rfl (by kernel_rfl) rfl rfl (PS.fieldAddr 10 rfl rfl (fun _ _=>by kernel_rfl)) ?_
  refine PD.stepW rfl rfl rfl (by kernel_rfl) rfl rfl (PS.part (k:=5) (vs:=KP.v p) (K.v p.z) rfl rfl rfl (by kernel_rfl) Tryz.underlying31 rfl (by kernel_rfl) rfl) ?_
  refine PD.stepW rfl rfl rfl (by kernel_rfl) rfl rfl (PS.call (xs:=[_,_]) rfl rfl rfl rfl (fun w hw=>f_mul _ _ w)) ?_
  refine PD.stepW rfl rfl rfl (by kernel_rfl) rfl rfl (PS.call (xs:=[_,_]) rfl rfl rfl rfl (fun w hw=>FnAt.to (f_same _ _ w) (bool_le h3))) ?_
  refine PD.pT rfl rfl rfl rfl rfl rfl ?_
  refine PD.mv rfl rfl rfl rfl rfl ?_
  refine PD.stepW rfl rfl rfl (by kernel_rfl) rfl rfl (PS.fieldAddr 5 rfl rfl (fun _ _=>by kernel_rfl)) ?_
  refine PD.stepW rfl rfl rfl (by kernel_rfl) rfl rfl (PS.part (k:=5) (vs:=KP.v p) (K.v p.y) rfl rfl rfl (by kernel_rfl) Tryz.underlying31 rfl (by kernel_rfl) rfl) ?_
  refine PD.stepW rfl rfl rfl (by kernel_rfl) rfl rfl (PS.fieldAddr 10 rfl rfl (fun _ _=>by kernel_rfl)) ?_
  refine PD.stepW rfl rfl rfl (by kernel_rfl) rfl rfl (PS.part (k:=5) (vs:=KP.v q) (K.v q.z) rfl rfl rfl (by kernel_rfl) Tryz.underlying31 rfl (by kernel_rfl) rfl) ?_
  refine PD.stepW rfl rfl rfl (by kernel_rfl) rfl rfl (PS.call (xs:=[_,_]) rfl rfl rfl rfl (fun w hw=>f_mul _ _ w)) ?_
  refine PD.stepW rfl rfl rfl (by kernel_rfl) rfl rfl (PS.fieldAddr 5 rfl rfl (fun _ _=>by kernel_rfl)) ?_
  refine PD.stepW rfl rfl rfl (by kernel_rfl) rfl rfl (PS.part (k:=5) (vs:=KP.v q) (K.v q.y) rfl rfl rfl (by kernel_rfl) Tryz.underlying31 rfl (by kernel_rfl) rfl) ?_
  refine PD.stepW rfl rfl rfl (by kernel_rfl) rfl rfl (PS.fieldAddr 10 rfl rfl (fun _ _=>by kernel_rfl)) ?_
  refine PD.stepW rfl rfl rfl (by kernel_rfl) rfl rfl (PS.part (k:=5) (vs:=KP.v p) (K.v p.z) rfl rfl rfl (by kernel_rfl) Tryz.underlying31 rfl (by kernel_rfl) rfl) ?_
  refine PD.stepW rfl rfl rfl (by kernel_rfl) rfl rfl (PS.call (xs:=[_,_]) rfl rfl rfl rfl (fun w hw=>f_mul _ _ w)) ?_
  refine PD.stepW rfl rfl rfl (by kernel_rfl) rfl rfl (PS.call (xs:=[_,_]) rfl rfl rfl rfl (fun w hw=>f_same _ _ w)) ?_
  refine PD.pT rfl rfl rfl rfl rfl rfl ?_
  refine PD.mu rfl rfl rfl rfl rfl ?_
  refine PD.nil ?_
  refine(PW.ret ?_:PW _ _ _ _)
  exact Rt.as (Rt.one Tryz.results13 rfl) (bool_le (by unfold hsame;rw[h1,h2,h3];rfl))
 ·skip
  refine(PW.drawn 33 (by kernel_rfl) (by kernel_rfl) (by kernel_rfl) (by kernel_rfl) (by kernel_rfl) ?_:PW _ _ _ _)
  refine PD.step rfl rfl rfl (PS.loadH (k:=20) rfl rfl rfl (row_sz (kp_row _)) Tryz.underlying33 rfl (by kernel_rfl)) ?_
  refine PD.call (xs:=[_]) rfl rfl rfl rfl rfl rfl rfl (fun w hw=>h1▸p_onk p w (tab.below hw.to_below)) ?_
  refine PD.mv rfl rfl rfl rfl rfl ?_
  refine PD.stepP rfl rfl rfl (by kernel_rfl) (by decide) rfl rfl ?_
  refine PD.stepP rfl rfl rfl (by kernel_rfl) (by decide) rfl rfl ?_
  refine PD.pF rfl rfl rfl rfl rfl rfl ?_
  refine PD.mv rfl rfl rfl rfl rfl ?_
  refine PD.stepP rfl rfl rfl (by kernel_rfl) (by decide) rfl rfl ?_
  refine PD.stepP rfl rfl rfl (by kernel_rfl) (by decide) rfl rfl ?_
  refine PD.stepP rfl rfl rfl (by kernel_rfl) (by decide) rfl rfl ?_
  refine PD.stepP rfl rfl rfl (by kernel_rfl) (by decide) rfl rfl ?_
  refine PD.stepP rfl rfl rfl (by kernel_rfl) (by decide) rfl rfl ?_
  refine PD.stepP rfl rfl rfl (by kernel_rfl) (by decide) rfl rfl ?_
  refine PD.stepP rfl rfl rfl (by kernel_rfl) (by decide) rfl rfl ?_
  refine PD.stepP rfl rfl rfl (by kernel_rfl) (by decide) rfl rfl ?_
  refine PD.stepP rfl rfl rfl (by kernel_rfl) (by decide) rfl rfl ?_
  refine PD.stepP rfl rfl rfl (by kernel_rfl) (by decide) rfl rfl ?_
  refine PD.stepP rfl rfl rfl (by kernel_rfl) (by decide) rfl rfl ?_
  refine PD.pF rfl rfl rfl rfl rfl rfl ?_
  refine PD.mv rfl rfl rfl rfl rfl ?_
  refine PD.stepP rfl rfl rfl (by kernel_rfl) (by decide) rfl rfl ?_
  refine PD.stepP rfl rfl rfl (by kernel_rfl) (by decide) rfl rfl ?_
  refine PD.stepP rfl rfl rfl (by kernel_rfl) (by decide) rfl rfl ?_
  refine PD.stepP rfl rfl rfl (by kernel_rfl) (by decide) rfl rfl ?_
  refine PD.stepP rfl rfl rfl (by kernel_rfl) (by decide) rfl rfl ?_
  refine PD.stepP rfl rfl rfl (by kernel_rfl) (by decide) rfl rfl ?_
  refine PD.stepP rfl rfl rfl (by kernel_rfl) (by decide) rfl rfl ?_
  refine PD.stepP rfl rfl rfl (by kernel_rfl) (by decide) rfl rfl ?_
  refine PD.stepP rfl rfl rfl (by kernel_rfl) (by decide) rfl rfl ?_
  refine PD.stepP rfl rfl rfl (by kernel_rfl) (by decide) rfl rfl ?_
  refine PD.stepP rfl rfl rfl (by kernel_rfl) (by decide) rfl rfl ?_
  refine PD.pF rfl rfl rfl rfl rfl rfl ?_
  refine PD.mu rfl rfl rfl rfl rfl ?_
  refine PD.nil ?_
  refine(PW.ret ?_:PW _ _ _ _)
  exact Rt.as (Rt.one Tryz.results13 rfl) (bool_le (by unfold hsame;rw[h1];rfl))
 ·skip
  refine(PW.drawn 33 (by kernel_rfl) (by kernel_rfl) (by kernel_rfl) (by kernel_rfl) (by kernel_rfl) ?_:PW _ _ _ _)
  refine PD.step rfl rfl rfl (PS.loadH (k:=20) rfl rfl rfl (row_sz (kp_row _)) Tryz.underlying33 rfl (by kernel_rfl)) ?_
  refine PD.call (xs:=[_]) rfl rfl rfl rfl rfl rfl rfl (fun w hw=>h1▸p_onk p w (tab.below hw.to_below)) ?_
  refine PD.mv rfl rfl rfl rfl rfl ?_
  refine PD.stepW rfl rfl rfl (by kernel_rfl) rfl rfl (PS.loadH (k:=20) rfl rfl rfl (row_sz (kp_row _)) Tryz.underlying33 rfl (by kernel_rfl)) ?_
  refine PD.stepW rfl rfl rfl (by kernel_rfl) rfl rfl (PS.call (xs:=[_]) rfl rfl rfl rfl (fun w hw=>h2▸p_onk q w (tab.below hw.to_below))) ?_
  refine PD.pT rfl rfl rfl rfl rfl rfl ?_
  refine PD.mv rfl rfl rfl rfl rfl ?_
  refine PD.stepP rfl rfl rfl (by kernel_rfl) (by decide) rfl rfl ?_
  refine PD.stepP rfl rfl rfl (by kernel_rfl) (by decide) rfl rfl ?_
  refine PD.stepP rfl rfl rfl (by kernel_rfl) (by decide) rfl rfl ?_
  refine PD.stepP rfl rfl rfl (by kernel_rfl) (by decide) rfl rfl ?_
  refine PD.stepP rfl rfl rfl (by kernel_rfl) (by decide) rfl rfl ?_
  refine PD.stepP rfl rfl rfl (by kernel_rfl) (by decide) rfl rfl ?_
  refine PD.stepP rfl rfl rfl (by kernel_rfl) (by decide) rfl rfl ?_
  refine PD.stepP rfl rfl rfl (by kernel_rfl) (by decide) rfl rfl ?_
  refine PD.stepP rfl rfl rfl (by kernel_rfl) (by decide) rfl rfl ?_
  refine PD.stepP rfl rfl rfl (by kernel_rfl) (by decide) rfl rfl ?_
  refine PD.stepP rfl rfl rfl (by kernel_rfl) (by decide) rfl rfl ?_
  refine PD.pF rfl rfl rfl rfl rfl rfl ?_
  refine PD.mv rfl rfl rfl rfl rfl ?_
  refine PD.stepP rfl rfl rfl (by kernel_rfl) (by decide) rfl rfl ?_
  refine PD.stepP rfl rfl rfl (by kernel_rfl) (by decide) rfl rfl ?_
  refine PD.stepP rfl rfl rfl (by kernel_rfl) (by decide) rfl rfl ?_
  refine PD.stepP rfl rfl rfl (by kernel_rfl) (by decide) rfl rfl ?_
  refine PD.stepP rfl rfl rfl (by kernel_rfl) (by decide) rfl rfl ?_
  refine PD.stepP rfl rfl rfl (by kernel_rfl) (by decide) rfl rfl ?_
  refine PD.stepP rfl rfl rfl (by kernel_rfl) (by decide) rfl rfl ?_
  refine PD.stepP rfl rfl rfl (by kernel_rfl) (by decide) rfl rfl ?_
  refine PD.stepP rfl rfl rfl (by kernel_rfl) (by decide) rfl rfl ?_
  refine PD.stepP rfl rfl rfl (by kernel_rfl) (by decide) rfl rfl ?_
  refine PD.stepP rfl rfl rfl (by kernel_rfl) (by decide) rfl rfl ?_
  refine PD.pF rfl rfl rfl rfl rfl rfl ?_
  refine PD.mu rfl rfl rfl rfl rfl ?_
  refine PD.nil ?_
  refine(PW.ret ?_:PW _ _ _ _)
  exact Rt.as (Rt.one Tryz.results13 rfl) (bool_le (by unfold hsame;rw[h1,h2];rfl))
 ·skip
  refine(PW.drawn 33 (by kernel_rfl) (by kernel_rfl) (by kernel_rfl) (by kernel_rfl) (by kernel_rfl) ?_:PW _ _ _ _)
  refine PD.step rfl rfl rfl (PS.loadH (k:=20) rfl rfl rfl (row_sz (kp_row _)) Tryz.underlying33 rfl (by kernel_rfl)) ?_
  refine PD.call (xs:=[_]) rfl rfl rfl rfl rfl rfl rfl (fun w hw=>h1▸p_onk p w (tab.below hw.to_below)) ?_
  refine PD.mv rfl rfl rfl rfl rfl ?_
  refine PD.stepW rfl rfl rfl (by kernel_rfl) rfl rfl (PS.loadH (k:=20) rfl rfl rfl (row_sz (kp_row _)) Tryz.underlying33 rfl (by kernel_rfl)) ?_
  refine PD.stepW rfl rfl rfl (by kernel_rfl) rfl rfl (PS.call (xs:=[_]) rfl rfl rfl rfl (fun w hw=>h2▸p_onk q w (tab.below hw.to_below))) ?_
  refine PD.pT rfl rfl rfl rfl rfl rfl ?_
  refine PD.mv rfl rfl rfl rfl rfl ?_
  refine PD.stepW rfl rfl rfl (by kernel_rfl) rfl rfl (PS.fieldAddr 0 rfl rfl (fun _ _=>by kernel_rfl)) ?_
  refine PD.stepW rfl rfl rfl (by kernel_rfl) rfl rfl (PS.part (k:=5) (vs:=KP.v p) (K.v p.x) rfl rfl rfl (by kernel_rfl) Tryz.underlying31 rfl (by kernel_rfl) rfl) ?_
  refine PD.stepW rfl rfl rfl (by kernel_rfl) rfl rfl (PS.fieldAddr 10 rfl rfl (fun _ _=>by kernel_rfl)) ?_
  refine PD.stepW rfl rfl rfl (by kernel_rfl) rfl rfl (PS.part (k:=5) (vs:=KP.v q) (K.v q.z) rfl rfl rfl (by kernel_rfl) Tryz.underlying31 rfl (by kernel_rfl) rfl) ?_
  refine PD.stepW rfl rfl rfl (by kernel_rfl) rfl rfl (PS.call (xs:=[_,_]) rfl rfl rfl rfl (fun w hw=>f_mul _ _ w)) ?_
  refine PD.stepW rfl rfl rfl (by kernel_rfl) rfl rfl (PS.fieldAddr 0 rfl rfl (fun _ _=>by kernel_rfl)) ?_
  refine PD.stepW rfl rfl rfl (by kernel_rfl) rfl rfl (PS.part (k:=5) (vs:=KP.v q) (K.v q.x) rfl rfl rfl (by kernel_rfl) Tryz.underlying31 rfl (by kernel_rfl) rfl) ?_
  refine PD.stepW rfl rfl rfl (by kernel_rfl) rfl rfl (PS.fieldAddr 10 rfl rfl (fun _ _=>by kernel_rfl)) ?_
  refine PD.stepW rfl rfl rfl (by kernel_rfl) rfl rfl (PS.part (k:=5) (vs:=KP.v p) (K.v p.z) rfl rfl rfl (by kernel_rfl) Tryz.underlying31 rfl (by kernel_rfl) rfl) ?_
  refine PD.stepW rfl rfl rfl (by kernel_rfl) rfl rfl (PS.call (xs:=[_,_]) rfl rfl rfl rfl (fun w hw=>f_mul _ _ w)) ?_
  refine PD.stepW rfl rfl rfl (by kernel_rfl) rfl rfl (PS.call (xs:=[_,_]) rfl rfl rfl rfl (fun w hw=>FnAt.to (f_same _ _ w) (bool_le h3))) ?_
  refine PD.pT rfl rfl rfl rfl rfl rfl ?_
  refine PD.mv rfl rfl rfl rfl rfl ?_
  refine PD.stepP rfl rfl rfl (by kernel_rfl) (by decide) rfl rfl ?_
  refine PD.stepP rfl rfl rfl (by kernel_rfl) (by decide) rfl rfl ?_
  refine PD.stepP rfl rfl rfl (by kernel_rfl) (by decide) rfl rfl ?_
  refine PD.stepP rfl rfl rfl (by kernel_rfl) (by decide) rfl rfl ?_
  refine PD.stepP rfl rfl rfl (by kernel_rfl) (by decide) rfl rfl ?_
  refine PD.stepP rfl rfl rfl (by kernel_rfl) (by decide) rfl rfl ?_
  refine PD.stepP rfl rfl rfl (by kernel_rfl) (by decide) rfl rfl ?_
  refine PD.stepP rfl rfl rfl (by kernel_rfl) (by decide) rfl rfl ?_
  refine PD.stepP rfl rfl rfl (by kernel_rfl) (by decide) rfl rfl ?_
  refine PD.stepP rfl rfl rfl (by kernel_rfl) (by decide) rfl rfl ?_
  refine PD.stepP rfl rfl rfl (by kernel_rfl) (by decide) rfl rfl ?_
  refine PD.pF rfl rfl rfl rfl rfl rfl ?_
  refine PD.mu rfl rfl rfl rfl rfl ?_
  refine PD.nil ?_
  refine(PW.ret ?_:PW _ _ _ _)
  exact Rt.as (Rt.one Tryz.results13 rfl) (bool_le (by unfold hsame;rw[h1,h2,h3];rfl))
set_option maxRecDepth 100000 in
theorem p_enck{p:KP}{g:G}(h:Hp p g)(w:World):FnAt Tryz.prog [] w 16 [pv p] (byt true (by_ (gb g) 32)):=by
 refine FnAt.of Tryz.f16 _ _ Tryz.func16 Tryz.ntmps16 rfl (by kernel_rfl) (fun _ _=>by kernel_rfl) fun O=>?_
 show PW _ _ _ ⟨[(0,.c (.dv _))],[]⟩
 refine(PW.seq ?_:PW _ _ _ _)
 refine(PW.region ?_:PW _ _ _ _)
 refine PL.full rfl (Fa.boxH 21 rfl rfl (row_agg (kp_row p)) (by kernel_rfl) rfl rfl ?_)
 refine PL.mu rfl rfl rfl rfl rfl ?_
 refine PL.nil ?_
 refine(PW.seq ?_:PW _ _ _ _)
 refine(PW.region ?_:PW _ _ _ _)
 refine PL.step rfl rfl rfl (PS.fieldAddr 10 rfl rfl (fun _ _=>by kernel_rfl)) ?_
 refine PL.step rfl rfl rfl (PS.part (k:=5) (vs:=KP.v p) (K.v p.z) rfl rfl rfl (by kernel_rfl) Tryz.underlying31 rfl (by kernel_rfl) rfl) ?_
 refine PL.call (xs:=[_]) rfl rfl rfl rfl rfl rfl rfl (fun w hw=>(f_inv p.z w:FnAt _ _ _ _ _ (kv (ez p)))) ?_
 refine PL.full rfl (Fa.alloc 1 (z:=(.agg #[.int .u64 0,.int .u64 0,.int .u64 0,.int .u64 0,.int .u64 0])) rfl (by kernel_rfl) (by kernel_rfl) rfl rfl ?_)
 refine PL.full rfl (Fa.storeH 5 rfl rfl rfl rfl rfl (kv_row _) (by kernel_rfl) rfl ?_)
 refine PL.nil ?_
 refine(PW.seq ?_:PW _ _ _ _)
 refine(PW.region ?_:PW _ _ _ _)
 refine PL.step rfl rfl rfl (PS.fieldAddr 5 rfl rfl (fun _ _=>by kernel_rfl)) ?_
 refine PL.step rfl rfl rfl (PS.part (k:=5) (vs:=KP.v p) (K.v p.y) rfl rfl rfl (by kernel_rfl) Tryz.underlying31 rfl (by kernel_rfl) rfl) ?_
 refine PL.step rfl rfl rfl (PS.loadH (k:=5) rfl rfl rfl (row_sz (kv_row _)) Tryz.underlying31 rfl (by kernel_rfl)) ?_
 refine PL.call (xs:=[_,_]) rfl rfl rfl rfl rfl rfl rfl (fun w hw=>(f_mul p.y (ez p) w:FnAt _ _ _ _ _ (kv (ey p)))) ?_
 refine PL.full rfl (Fa.callOwn 12 (xs:=[_]) rfl rfl rfl (by kernel_rfl) (fun w hw=>f_enc (ey p) w) (by kernel_rfl) rfl rfl ?_)
 refine PL.mu rfl rfl rfl rfl rfl ?_
 refine PL.nil ?_
 refine(PW.seq ?_:PW _ _ _ _)
 refine(PW.seq ?_:PW _ _ _ _)
 refine(PW.region ?_:PW _ _ _ _)
 refine PL.step rfl rfl rfl (PS.fieldAddr 0 rfl rfl (fun _ _=>by kernel_rfl)) ?_
 refine PL.step rfl rfl rfl (PS.part (k:=5) (vs:=KP.v p) (K.v p.x) rfl rfl rfl (by kernel_rfl) Tryz.underlying31 rfl (by kernel_rfl) rfl) ?_
 refine PL.step rfl rfl rfl (PS.loadH (k:=5) rfl rfl rfl (row_sz (kv_row _)) Tryz.underlying31 rfl (by kernel_rfl)) ?_
 refine PL.call (xs:=[_,_]) rfl rfl rfl rfl rfl rfl rfl (fun w hw=>(f_mul p.x (ez p) w:FnAt _ _ _ _ _ (kv (ex p)))) ?_
 refine PL.call (xs:=[_]) rfl rfl rfl rfl rfl rfl rfl (fun w hw=>f_odd (ex p) w) ?_
 refine PL.nil ?_
 show PW _ _ _ _
 refine PW.cond (by rfl) (fun hc32=>?_) (fun hc32=>?_)
 ·have ho:=hc32
  refine(PW.region ?_:PW _ _ _ _)
  refine PL.mv rfl rfl rfl rfl rfl ?_
  refine PL.step rfl rfl rfl (PS.indexOwn (i:=31) (k:=1) rfl rfl rfl rfl Tryz.underlying22 (by kernel_rfl) (by decide) (by simp[bl,by_length])) ?_
  refine PL.step rfl rfl rfl (PS.loadB (c:=.lit (.int .u8 (((by_ (fv (ey p).f) 32).getD 31 0:Nat):Int))) rfl rfl rfl (byt_get (by rw[by_length];decide)) Tryz.underlying5 rfl) ?_
  refine PL.step rfl rfl rfl (PS.bin (.int .u8 (((by_ (fv (ey p).f) 32).getD 31 0+128:Nat):Int)) rfl rfl rfl guard_int (fun w=>o_or128 w _ (by_31 (fv_top _)))) ?_
  refine PL.step rfl rfl rfl (PS.indexOwn (i:=31) (k:=1) rfl rfl rfl rfl Tryz.underlying22 (by kernel_rfl) (by decide) (by simp[bl,by_length])) ?_
  refine PL.full rfl (Fa.storeB rfl rfl rfl rfl (by simp[bl,by_length]) rfl (fun h=>by cases h) (by kernel_rfl) rfl ?_)
  refine PL.nil ?_
  refine(PW.seq ?_:PW _ _ _ _)
  refine PW.give 12 rfl ?_
  refine(PW.region ?_:PW _ _ _ _)
  refine PL.mv rfl rfl rfl rfl rfl ?_
  refine PL.mu rfl rfl rfl rfl rfl ?_
  refine PL.nil ?_
  refine(PW.ret ?_:PW _ _ _ _)
  exact Rt.as (Rt.one Tryz.results16 rfl) (by rw[show(ex p).f=g.x from enc_x h] at ho;rw[gb_odd ho,←show(ey p).f=g.y from enc_y h];exact le_eq (by rw[←top_eq (fv_top _)];show _=DV.sq true 1 _;rw[←byt_set]))
 have ho:=hc32
 refine(PW.skip ?_:PW _ _ _ _)
 refine(PW.seq ?_:PW _ _ _ _)
 refine PW.give 12 rfl ?_
 refine(PW.region ?_:PW _ _ _ _)
 refine PL.mv rfl rfl rfl rfl rfl ?_
 refine PL.mu rfl rfl rfl rfl rfl ?_
 refine PL.nil ?_
 refine(PW.ret ?_:PW _ _ _ _)
 exact Rt.as (Rt.one Tryz.results16 rfl) (by rw[show(ex p).f=g.x from enc_x h] at ho;rw[gb_even ho,←show(ey p).f=g.y from enc_y h];exact le_refl _)
end Go.Proofs.YtoibhnpmemnlfaaGreatDoor.Av
