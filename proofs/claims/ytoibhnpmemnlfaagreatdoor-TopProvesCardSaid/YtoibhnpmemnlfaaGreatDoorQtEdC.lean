/- Joined texts. -/
import Derived.Deep.DeepCutAuto
import Derived.Deep.Cut
import Derived.Test.YtoibhnpmemnlfaaGreatDoorQtEdB
set_option linter.unusedVariables false
namespace Go.Proofs.YtoibhnpmemnlfaaGreatDoor.Ed
open Go.RowKit Go.Proofs.YtoibhnpmemnlfaaGreatDoor.Gn Go.Proofs.YtoibhnpmemnlfaaGreatDoor.Fd Go.Deep
def ke:K:=⟨⟨0,0,0,0,0⟩,by unfold E5.ok;decide⟩
theorem ke_f:ke.f=0:=by
 show fe 0=0
 exact fe_zero
def hon(k:K)(p:KP):Bool:=!decide (p.z.f=ke.f) && (decide ((kmul p.t p.z).f=(kmul p.x p.y).f) && decide ((ksub (kmul p.y p.y) (kmul p.x p.x)).f=(kadd (kmul p.z p.z) (kmul k (kmul p.t p.t))).f))
theorem hon_iff(p:KP):hon kd p=true↔cv.Held p.pt:=by
 unfold hon Crv.Held KP.pt
 simp only[Bool.and_eq_true,Bool.not_eq_true',decide_eq_false_iff_not,decide_eq_true_eq,ke_f,kmul_f,ksub_f,kadd_f,kd_f]
theorem hon_has{p:KP}{g:G}(h:Hp p g):hon kd p=true:=(hon_iff p).2 (Has.held h)
set_option maxRecDepth 100000 in
set_option maxHeartbeats 4000000 in
theorem On_t(p:KP)(k:K)(w:World)(S1:∀w,Calls Tryz.prog 37 #[.agg (K.v p.z),.agg (K.v ke)] w fun e w'=>e=.returned (.bool true)∧Below w.heap.size w w')(hr:∀z,Below w.heap.size w z→z.rangeAt 3 0 k.v.toList):Calls Tryz.prog 36 #[.agg p.v] w fun e w'=>e=.returned (.bool false)∧Below w.heap.size w w':=by
 go_enter Tryz.func36,Tryz.ntmps36
 go_upto_region 1 with(fail)
 refine at_box1 _ _ _ ?_
 intro W0 B0 D0 hs
 refine wp_region_o (sp:=[some (.pointer (some ⟨w.heap.size,10,none⟩)),some (.agg (K.v p.z)),some (.agg (K.v ke)),some (.bool true),some (.bool true),some undef,some undef,some undef,some undef,some undef,some undef,some undef,some undef,some undef,some undef,some undef,some undef,some (.bool true)]) (vs:=[]) (out:=none) (by kernel_rfl) (by kernel_rfl) (by kernel_rfl) (by kernel_rfl) (by kernel_rfl) (by simp) ?_ ?_
 ·refine Each.cons ?_<|Each.cons ?_<|Each.cons ?_<|Each.cons ?_<|Each.cons ?_<|Each.cons ?_<|Each.cons ?_<|Each.cons ?_<|Each.cons ?_<|Each.cons ?_<|Each.cons ?_<|Each.cons ?_<|Each.cons ?_<|Each.cons ?_<|Each.cons ?_<|Each.cons ?_<|Each.cons ?_<|Each.cons ?_<|Each.nil
  ·exact OV.val (.pointer (some ⟨w.heap.size,10,none⟩)) (by kernel_rfl) (fun γ=>by kernel_rfl) (by kernel_rfl) (fun γ w=>by kernel_rfl)
  ·exact OV.load w.heap.size 10 5 33 (KP.v p) B0 (by simp) ((K.v p.z)) 31 (.tmp 5) _ (by kernel_rfl) (fun γ=>by kernel_rfl) (by kernel_rfl) rfl (fun γ=>by kernel_rfl) (by kernel_rfl) (by kernel_rfl) Tryz.underlying31 rfl sizeE
  ·exact OV.val (.agg (K.v ke)) (by kernel_rfl) (fun γ=>by kernel_rfl) (by kernel_rfl) (fun γ w=>by kernel_rfl)
  ·exact OV.call 37 #[.agg (K.v p.z),.agg (K.v ke)] (.bool true) (by kernel_rfl) (fun γ=>by kernel_rfl) (by kernel_rfl) (fun γ w=>by kernel_rfl) (fun w _=>S1 w)
  ·exact OV.val (.bool true) (by kernel_rfl) (fun γ=>by kernel_rfl) (by kernel_rfl) (fun γ w=>by kernel_rfl)
  ·exact OV.pass (by kernel_rfl) (fun γ=>by kernel_rfl) (by kernel_rfl)
  ·exact OV.pass (by kernel_rfl) (fun γ=>by kernel_rfl) (by kernel_rfl)
  ·exact OV.pass (by kernel_rfl) (fun γ=>by kernel_rfl) (by kernel_rfl)
  ·exact OV.pass (by kernel_rfl) (fun γ=>by kernel_rfl) (by kernel_rfl)
  ·exact OV.pass (by kernel_rfl) (fun γ=>by kernel_rfl) (by kernel_rfl)
  ·exact OV.pass (by kernel_rfl) (fun γ=>by kernel_rfl) (by kernel_rfl)
  ·exact OV.pass (by kernel_rfl) (fun γ=>by kernel_rfl) (by kernel_rfl)
  ·exact OV.pass (by kernel_rfl) (fun γ=>by kernel_rfl) (by kernel_rfl)
  ·exact OV.pass (by kernel_rfl) (fun γ=>by kernel_rfl) (by kernel_rfl)
  ·exact OV.pass (by kernel_rfl) (fun γ=>by kernel_rfl) (by kernel_rfl)
  ·exact OV.pass (by kernel_rfl) (fun γ=>by kernel_rfl) (by kernel_rfl)
  ·exact OV.pass (by kernel_rfl) (fun γ=>by kernel_rfl) (by kernel_rfl)
  ·exact OV.val (.bool true) (by kernel_rfl) (fun γ=>by kernel_rfl) (by kernel_rfl) (fun γ w=>by kernel_rfl)
 intro γ W1 hgr1 hat hx2 hres
 clear hx2
 have B1:=B0.grown hgr1 (by simp)
 have D1:=below_none D0 hgr1
 have z1:=hgr1.size
 clear hat hres hgr1 D0 B0
 simp only[fr,fill,exa,spx,List.map_cons,List.map_nil,List.getElem?_cons_zero,List.getElem?_cons_succ,List.setIfInBounds_toArray,List.set_cons_zero,List.set_cons_succ]
 go_wp2_with fail
 go_ret
 exact⟨rfl,D1⟩
set_option maxRecDepth 100000 in
set_option maxHeartbeats 4000000 in
theorem On_ff(p:KP)(k:K)(w:World)(S1:∀w,Calls Tryz.prog 37 #[.agg (K.v p.z),.agg (K.v ke)] w fun e w'=>e=.returned (.bool false)∧Below w.heap.size w w')(S2:∀w,Calls Tryz.prog 37 #[.agg (K.v (kmul p.t p.z)),.agg (K.v (kmul p.x p.y))] w fun e w'=>e=.returned (.bool false)∧Below w.heap.size w w')(hr:∀z,Below w.heap.size w z→z.rangeAt 3 0 k.v.toList):Calls Tryz.prog 36 #[.agg p.v] w fun e w'=>e=.returned (.bool false)∧Below w.heap.size w w':=by
 go_enter Tryz.func36,Tryz.ntmps36
 go_upto_region 1 with(fail)
 refine at_box1 _ _ _ ?_
 intro W0 B0 D0 hs
 refine wp_region_o (sp:=[some (.pointer (some ⟨w.heap.size,10,none⟩)),some (.agg (K.v p.z)),some (.agg (K.v ke)),some (.bool false),some (.bool false),some (.pointer (some ⟨w.heap.size,15,none⟩)),some (.agg (K.v p.t)),some (.pointer (some ⟨w.heap.size,10,none⟩)),some (.agg (K.v p.z)),some (.agg (K.v (kmul p.t p.z))),some (.pointer (some ⟨w.heap.size,0,none⟩)),some (.agg (K.v p.x)),some (.pointer (some ⟨w.heap.size,5,none⟩)),some (.agg (K.v p.y)),some (.agg (K.v (kmul p.x p.y))),some (.bool false),some (.bool true),some (.bool true)]) (vs:=[]) (out:=none) (by kernel_rfl) (by kernel_rfl) (by kernel_rfl) (by kernel_rfl) (by kernel_rfl) (by simp) ?_ ?_
 ·refine Each.cons ?_<|Each.cons ?_<|Each.cons ?_<|Each.cons ?_<|Each.cons ?_<|Each.cons ?_<|Each.cons ?_<|Each.cons ?_<|Each.cons ?_<|Each.cons ?_<|Each.cons ?_<|Each.cons ?_<|Each.cons ?_<|Each.cons ?_<|Each.cons ?_<|Each.cons ?_<|Each.cons ?_<|Each.cons ?_<|Each.nil
  ·exact OV.val (.pointer (some ⟨w.heap.size,10,none⟩)) (by kernel_rfl) (fun γ=>by kernel_rfl) (by kernel_rfl) (fun γ w=>by kernel_rfl)
  ·exact OV.load w.heap.size 10 5 33 (KP.v p) B0 (by simp) ((K.v p.z)) 31 (.tmp 5) _ (by kernel_rfl) (fun γ=>by kernel_rfl) (by kernel_rfl) rfl (fun γ=>by kernel_rfl) (by kernel_rfl) (by kernel_rfl) Tryz.underlying31 rfl sizeE
  ·exact OV.val (.agg (K.v ke)) (by kernel_rfl) (fun γ=>by kernel_rfl) (by kernel_rfl) (fun γ w=>by kernel_rfl)
  ·exact OV.call 37 #[.agg (K.v p.z),.agg (K.v ke)] (.bool false) (by kernel_rfl) (fun γ=>by kernel_rfl) (by kernel_rfl) (fun γ w=>by kernel_rfl) (fun w _=>S1 w)
  ·exact OV.val (.bool false) (by kernel_rfl) (fun γ=>by kernel_rfl) (by kernel_rfl) (fun γ w=>by kernel_rfl)
  ·exact OV.val (.pointer (some ⟨w.heap.size,15,none⟩)) (by kernel_rfl) (fun γ=>by kernel_rfl) (by kernel_rfl) (fun γ w=>by kernel_rfl)
  ·exact OV.load w.heap.size 15 5 33 (KP.v p) B0 (by simp) ((K.v p.t)) 31 (.tmp 10) _ (by kernel_rfl) (fun γ=>by kernel_rfl) (by kernel_rfl) rfl (fun γ=>by kernel_rfl) (by kernel_rfl) (by kernel_rfl) Tryz.underlying31 rfl sizeE
  ·exact OV.val (.pointer (some ⟨w.heap.size,10,none⟩)) (by kernel_rfl) (fun γ=>by kernel_rfl) (by kernel_rfl) (fun γ w=>by kernel_rfl)
  ·exact OV.load w.heap.size 10 5 33 (KP.v p) B0 (by simp) ((K.v p.z)) 31 (.tmp 12) _ (by kernel_rfl) (fun γ=>by kernel_rfl) (by kernel_rfl) rfl (fun γ=>by kernel_rfl) (by kernel_rfl) (by kernel_rfl) Tryz.underlying31 rfl sizeE
  ·exact OV.call 38 #[.agg (K.v p.t),.agg (K.v p.z)] (.agg (K.v (kmul p.t p.z))) (by kernel_rfl) (fun γ=>by kernel_rfl) (by kernel_rfl) (fun γ w=>by kernel_rfl) (fun w _=>cmul p.t p.z w)
  ·exact OV.val (.pointer (some ⟨w.heap.size,0,none⟩)) (by kernel_rfl) (fun γ=>by kernel_rfl) (by kernel_rfl) (fun γ w=>by kernel_rfl)
  ·exact OV.load w.heap.size 0 5 33 (KP.v p) B0 (by simp) ((K.v p.x)) 31 (.tmp 15) _ (by kernel_rfl) (fun γ=>by kernel_rfl) (by kernel_rfl) rfl (fun γ=>by kernel_rfl) (by kernel_rfl) (by kernel_rfl) Tryz.underlying31 rfl sizeE
  ·exact OV.val (.pointer (some ⟨w.heap.size,5,none⟩)) (by kernel_rfl) (fun γ=>by kernel_rfl) (by kernel_rfl) (fun γ w=>by kernel_rfl)
  ·exact OV.load w.heap.size 5 5 33 (KP.v p) B0 (by simp) ((K.v p.y)) 31 (.tmp 17) _ (by kernel_rfl) (fun γ=>by kernel_rfl) (by kernel_rfl) rfl (fun γ=>by kernel_rfl) (by kernel_rfl) (by kernel_rfl) Tryz.underlying31 rfl sizeE
  ·exact OV.call 38 #[.agg (K.v p.x),.agg (K.v p.y)] (.agg (K.v (kmul p.x p.y))) (by kernel_rfl) (fun γ=>by kernel_rfl) (by kernel_rfl) (fun γ w=>by kernel_rfl) (fun w _=>cmul p.x p.y w)
  ·exact OV.call 37 #[.agg (K.v (kmul p.t p.z)),.agg (K.v (kmul p.x p.y))] (.bool false) (by kernel_rfl) (fun γ=>by kernel_rfl) (by kernel_rfl) (fun γ w=>by kernel_rfl) (fun w _=>S2 w)
  ·exact OV.val (.bool true) (by kernel_rfl) (fun γ=>by kernel_rfl) (by kernel_rfl) (fun γ w=>by kernel_rfl)
  ·exact OV.val (.bool true) (by kernel_rfl) (fun γ=>by kernel_rfl) (by kernel_rfl) (fun γ w=>by kernel_rfl)
 intro γ W1 hgr1 hat hx2 hres
 clear hx2
 have B1:=B0.grown hgr1 (by simp)
 have D1:=below_none D0 hgr1
 have z1:=hgr1.size
 clear hat hres hgr1 D0 B0
 simp only[fr,fill,exa,spx,List.map_cons,List.map_nil,List.getElem?_cons_zero,List.getElem?_cons_succ,List.setIfInBounds_toArray,List.set_cons_zero,List.set_cons_succ]
 go_wp2_with fail
 go_ret
 exact⟨rfl,D1⟩
set_option maxRecDepth 100000 in
set_option maxHeartbeats 4000000 in
theorem On_ft(p:KP)(k:K)(w:World)(S1:∀w,Calls Tryz.prog 37 #[.agg (K.v p.z),.agg (K.v ke)] w fun e w'=>e=.returned (.bool false)∧Below w.heap.size w w')(S2:∀w,Calls Tryz.prog 37 #[.agg (K.v (kmul p.t p.z)),.agg (K.v (kmul p.x p.y))] w fun e w'=>e=.returned (.bool true)∧Below w.heap.size w w')(b3:Bool)(S3:∀w,Calls Tryz.prog 37 #[.agg (K.v (ksub (kmul p.y p.y) (kmul p.x p.x))),.agg (K.v (kadd (kmul p.z p.z) (kmul k (kmul p.t p.t))))] w fun e w'=>e=.returned (.bool b3)∧Below w.heap.size w w')(hr:∀z,Below w.heap.size w z→z.rangeAt 3 0 k.v.toList):Calls Tryz.prog 36 #[.agg p.v] w fun e w'=>e=.returned (.bool b3)∧Below w.heap.size w w':=by
 go_enter Tryz.func36,Tryz.ntmps36
 go_upto_region 1 with(fail)
 refine at_box1 _ _ _ ?_
 intro W0 B0 D0 hs
 refine wp_region_o (sp:=[some (.pointer (some ⟨w.heap.size,10,none⟩)),some (.agg (K.v p.z)),some (.agg (K.v ke)),some (.bool false),some (.bool false),some (.pointer (some ⟨w.heap.size,15,none⟩)),some (.agg (K.v p.t)),some (.pointer (some ⟨w.heap.size,10,none⟩)),some (.agg (K.v p.z)),some (.agg (K.v (kmul p.t p.z))),some (.pointer (some ⟨w.heap.size,0,none⟩)),some (.agg (K.v p.x)),some (.pointer (some ⟨w.heap.size,5,none⟩)),some (.agg (K.v p.y)),some (.agg (K.v (kmul p.x p.y))),some (.bool true),some (.bool false),some (.bool false)]) (vs:=[]) (out:=none) (by kernel_rfl) (by kernel_rfl) (by kernel_rfl) (by kernel_rfl) (by kernel_rfl) (by simp) ?_ ?_
 ·refine Each.cons ?_<|Each.cons ?_<|Each.cons ?_<|Each.cons ?_<|Each.cons ?_<|Each.cons ?_<|Each.cons ?_<|Each.cons ?_<|Each.cons ?_<|Each.cons ?_<|Each.cons ?_<|Each.cons ?_<|Each.cons ?_<|Each.cons ?_<|Each.cons ?_<|Each.cons ?_<|Each.cons ?_<|Each.cons ?_<|Each.nil
  ·exact OV.val (.pointer (some ⟨w.heap.size,10,none⟩)) (by kernel_rfl) (fun γ=>by kernel_rfl) (by kernel_rfl) (fun γ w=>by kernel_rfl)
  ·exact OV.load w.heap.size 10 5 33 (KP.v p) B0 (by simp) ((K.v p.z)) 31 (.tmp 5) _ (by kernel_rfl) (fun γ=>by kernel_rfl) (by kernel_rfl) rfl (fun γ=>by kernel_rfl) (by kernel_rfl) (by kernel_rfl) Tryz.underlying31 rfl sizeE
  ·exact OV.val (.agg (K.v ke)) (by kernel_rfl) (fun γ=>by kernel_rfl) (by kernel_rfl) (fun γ w=>by kernel_rfl)
  ·exact OV.call 37 #[.agg (K.v p.z),.agg (K.v ke)] (.bool false) (by kernel_rfl) (fun γ=>by kernel_rfl) (by kernel_rfl) (fun γ w=>by kernel_rfl) (fun w _=>S1 w)
  ·exact OV.val (.bool false) (by kernel_rfl) (fun γ=>by kernel_rfl) (by kernel_rfl) (fun γ w=>by kernel_rfl)
  ·exact OV.val (.pointer (some ⟨w.heap.size,15,none⟩)) (by kernel_rfl) (fun γ=>by kernel_rfl) (by kernel_rfl) (fun γ w=>by kernel_rfl)
  ·exact OV.load w.heap.size 15 5 33 (KP.v p) B0 (by simp) ((K.v p.t)) 31 (.tmp 10) _ (by kernel_rfl) (fun γ=>by kernel_rfl) (by kernel_rfl) rfl (fun γ=>by kernel_rfl) (by kernel_rfl) (by kernel_rfl) Tryz.underlying31 rfl sizeE
  ·exact OV.val (.pointer (some ⟨w.heap.size,10,none⟩)) (by kernel_rfl) (fun γ=>by kernel_rfl) (by kernel_rfl) (fun γ w=>by kernel_rfl)
  ·exact OV.load w.heap.size 10 5 33 (KP.v p) B0 (by simp) ((K.v p.z)) 31 (.tmp 12) _ (by kernel_rfl) (fun γ=>by kernel_rfl) (by kernel_rfl) rfl (fun γ=>by kernel_rfl) (by kernel_rfl) (by kernel_rfl) Tryz.underlying31 rfl sizeE
  ·exact OV.call 38 #[.agg (K.v p.t),.agg (K.v p.z)] (.agg (K.v (kmul p.t p.z))) (by kernel_rfl) (fun γ=>by kernel_rfl) (by kernel_rfl) (fun γ w=>by kernel_rfl) (fun w _=>cmul p.t p.z w)
  ·exact OV.val (.pointer (some ⟨w.heap.size,0,none⟩)) (by kernel_rfl) (fun γ=>by kernel_rfl) (by kernel_rfl) (fun γ w=>by kernel_rfl)
  ·exact OV.load w.heap.size 0 5 33 (KP.v p) B0 (by simp) ((K.v p.x)) 31 (.tmp 15) _ (by kernel_rfl) (fun γ=>by kernel_rfl) (by kernel_rfl) rfl (fun γ=>by kernel_rfl) (by kernel_rfl) (by kernel_rfl) Tryz.underlying31 rfl sizeE
  ·exact OV.val (.pointer (some ⟨w.heap.size,5,none⟩)) (by kernel_rfl) (fun γ=>by kernel_rfl) (by kernel_rfl) (fun γ w=>by kernel_rfl)
  ·exact OV.load w.heap.size 5 5 33 (KP.v p) B0 (by simp) ((K.v p.y)) 31 (.tmp 17) _ (by kernel_rfl) (fun γ=>by kernel_rfl) (by kernel_rfl) rfl (fun γ=>by kernel_rfl) (by kernel_rfl) (by kernel_rfl) Tryz.underlying31 rfl sizeE
  ·exact OV.call 38 #[.agg (K.v p.x),.agg (K.v p.y)] (.agg (K.v (kmul p.x p.y))) (by kernel_rfl) (fun γ=>by kernel_rfl) (by kernel_rfl) (fun γ w=>by kernel_rfl) (fun w _=>cmul p.x p.y w)
  ·exact OV.call 37 #[.agg (K.v (kmul p.t p.z)),.agg (K.v (kmul p.x p.y))] (.bool true) (by kernel_rfl) (fun γ=>by kernel_rfl) (by kernel_rfl) (fun γ w=>by kernel_rfl) (fun w _=>S2 w)
  ·exact OV.val (.bool false) (by kernel_rfl) (fun γ=>by kernel_rfl) (by kernel_rfl) (fun γ w=>by kernel_rfl)
  ·exact OV.val (.bool false) (by kernel_rfl) (fun γ=>by kernel_rfl) (by kernel_rfl) (fun γ w=>by kernel_rfl)
 intro γ W1 hgr1 hat hx2 hres
 clear hx2
 have B1:=B0.grown hgr1 (by simp)
 have D1:=below_none D0 hgr1
 have z1:=hgr1.size
 clear hat hres hgr1 D0 B0
 simp only[fr,fill,exa,spx,List.map_cons,List.map_nil,List.getElem?_cons_zero,List.getElem?_cons_succ,List.setIfInBounds_toArray,List.set_cons_zero,List.set_cons_succ]
 go_upto_region 3 with(fail)
 refine wp_region_o (sp:=[some (.pointer (some ⟨w.heap.size,5,none⟩)),some (.agg (K.v p.y)),some (.agg (K.v (kmul p.y p.y))),some (.pointer (some ⟨w.heap.size,0,none⟩)),some (.agg (K.v p.x)),some (.agg (K.v (kmul p.x p.x))),some (.agg (K.v (ksub ((kmul p.y p.y)) ((kmul p.x p.x))))),none,none]) (vs:=[⟨7,8,31,z5,(K.v (ksub ((kmul p.y p.y)) ((kmul p.x p.x))))⟩]) (out:=none) (by kernel_rfl) (by kernel_rfl) (by kernel_rfl) (by kernel_rfl) (by kernel_rfl) (by simp) ?_ ?_
 ·refine Each.cons ?_<|Each.cons ?_<|Each.cons ?_<|Each.cons ?_<|Each.cons ?_<|Each.cons ?_<|Each.cons ?_<|Each.cons ?_<|Each.cons ?_<|Each.nil
  ·exact OV.val (.pointer (some ⟨w.heap.size,5,none⟩)) (by kernel_rfl) (fun γ=>by kernel_rfl) (by kernel_rfl) (fun γ w=>by kernel_rfl)
  ·exact OV.load w.heap.size 5 5 33 (KP.v p) B1 (by simp) ((K.v p.y)) 31 (.tmp 23) _ (by kernel_rfl) (fun γ=>by kernel_rfl) (by kernel_rfl) rfl (fun γ=>by kernel_rfl) (by kernel_rfl) (by kernel_rfl) Tryz.underlying31 rfl sizeE
  ·exact OV.call 58 #[.agg (K.v p.y)] (.agg (K.v (kmul p.y p.y))) (by kernel_rfl) (fun γ=>by kernel_rfl) (by kernel_rfl) (fun γ w=>by kernel_rfl) (fun w _=>csq p.y w)
  ·exact OV.val (.pointer (some ⟨w.heap.size,0,none⟩)) (by kernel_rfl) (fun γ=>by kernel_rfl) (by kernel_rfl) (fun γ w=>by kernel_rfl)
  ·exact OV.load w.heap.size 0 5 33 (KP.v p) B1 (by simp) ((K.v p.x)) 31 (.tmp 26) _ (by kernel_rfl) (fun γ=>by kernel_rfl) (by kernel_rfl) rfl (fun γ=>by kernel_rfl) (by kernel_rfl) (by kernel_rfl) Tryz.underlying31 rfl sizeE
  ·exact OV.call 58 #[.agg (K.v p.x)] (.agg (K.v (kmul p.x p.x))) (by kernel_rfl) (fun γ=>by kernel_rfl) (by kernel_rfl) (fun γ w=>by kernel_rfl) (fun w _=>csq p.x w)
  ·exact OV.call 40 #[.agg (K.v (kmul p.y p.y)),.agg (K.v (kmul p.x p.x))] (.agg (K.v (ksub ((kmul p.y p.y)) ((kmul p.x p.x))))) (by kernel_rfl) (fun γ=>by kernel_rfl) (by kernel_rfl) (fun γ w=>by kernel_rfl) (fun w _=>csub ((kmul p.y p.y)) ((kmul p.x p.x)) w)
  ·exact OV.new_ ⟨7,8,31,z5,(K.v (ksub ((kmul p.y p.y)) ((kmul p.x p.x))))⟩ (List.Mem.head _) rfl (by kernel_rfl) (by simp) (by kernel_rfl) (fun γ=>by kernel_rfl) (fun γ w=>by kernel_rfl)
  ·exact OV.put_ ⟨7,8,31,z5,(K.v (ksub ((kmul p.y p.y)) ((kmul p.x p.x))))⟩ (List.Mem.head _) rfl (by kernel_rfl) (by simp) (by kernel_rfl) (fun γ=>by kernel_rfl) (by kernel_rfl) 31 (.tmp 3) (.tmp 29) rfl (fun γ=>by kernel_rfl) (fun γ=>by kernel_rfl) (by kernel_rfl) sizeE (K.ones _)
 intro γ W2 hgr2 hat hx2 hres
 clear hx2
 have B2:=B1.grown hgr2 (by simp)
 obtain⟨h2_0,eh2_0,lh2_0,B3⟩:=hat _ (List.Mem.head _)
 have D2:=below_none D1 hgr2
 have z2:=hgr2.size
 dsimp only at eh2_0
 clear hat hres hgr2 D1 B1
 simp only[fr,fill,exa,spx,List.map_cons,List.map_nil,List.getElem?_cons_zero,List.getElem?_cons_succ,List.setIfInBounds_toArray,List.set_cons_zero,List.set_cons_succ,eh2_0]
 go_upto_region 4 with(fail)
 refine wp_region_o (sp:=[some (.pointer (some ⟨w.heap.size,10,none⟩)),some (.agg (K.v p.z)),some (.agg (K.v (kmul p.z p.z))),some (.agg (K.v k)),some (.pointer (some ⟨w.heap.size,15,none⟩)),some (.agg (K.v p.t)),some (.agg (K.v (kmul p.t p.t))),some (.agg (K.v (kmul k ((kmul p.t p.t))))),some (.agg (K.v (kadd ((kmul p.z p.z)) ((kmul k ((kmul p.t p.t))))))),none,none]) (vs:=[⟨9,10,31,z5,(K.v (kadd ((kmul p.z p.z)) ((kmul k ((kmul p.t p.t))))))⟩]) (out:=none) (by kernel_rfl) (by kernel_rfl) (by kernel_rfl) (by kernel_rfl) (by kernel_rfl) (by simp) ?_ ?_
 ·refine Each.cons ?_<|Each.cons ?_<|Each.cons ?_<|Each.cons ?_<|Each.cons ?_<|Each.cons ?_<|Each.cons ?_<|Each.cons ?_<|Each.cons ?_<|Each.cons ?_<|Each.cons ?_<|Each.nil
  ·exact OV.val (.pointer (some ⟨w.heap.size,10,none⟩)) (by kernel_rfl) (fun γ=>by kernel_rfl) (by kernel_rfl) (fun γ w=>by kernel_rfl)
  ·exact OV.load w.heap.size 10 5 33 (KP.v p) B2 (by simp) ((K.v p.z)) 31 (.tmp 30) _ (by kernel_rfl) (fun γ=>by kernel_rfl) (by kernel_rfl) rfl (fun γ=>by kernel_rfl) (by kernel_rfl) (by kernel_rfl) Tryz.underlying31 rfl sizeE
  ·exact OV.call 58 #[.agg (K.v p.z)] (.agg (K.v (kmul p.z p.z))) (by kernel_rfl) (fun γ=>by kernel_rfl) (by kernel_rfl) (fun γ w=>by kernel_rfl) (fun w _=>csq p.z w)
  ·exact OV.range 3 _ (hr _ D2) (by simp) 31 (.global 3) (by kernel_rfl) (fun γ=>by kernel_rfl) (by kernel_rfl) rfl (fun γ=>by kernel_rfl) Tryz.underlying31 rfl sizeE
  ·exact OV.val (.pointer (some ⟨w.heap.size,15,none⟩)) (by kernel_rfl) (fun γ=>by kernel_rfl) (by kernel_rfl) (fun γ w=>by kernel_rfl)
  ·exact OV.load w.heap.size 15 5 33 (KP.v p) B2 (by simp) ((K.v p.t)) 31 (.tmp 34) _ (by kernel_rfl) (fun γ=>by kernel_rfl) (by kernel_rfl) rfl (fun γ=>by kernel_rfl) (by kernel_rfl) (by kernel_rfl) Tryz.underlying31 rfl sizeE
  ·exact OV.call 58 #[.agg (K.v p.t)] (.agg (K.v (kmul p.t p.t))) (by kernel_rfl) (fun γ=>by kernel_rfl) (by kernel_rfl) (fun γ w=>by kernel_rfl) (fun w _=>csq p.t w)
  ·exact OV.call 38 #[.agg (K.v k),.agg (K.v (kmul p.t p.t))] (.agg (K.v (kmul k ((kmul p.t p.t))))) (by kernel_rfl) (fun γ=>by kernel_rfl) (by kernel_rfl) (fun γ w=>by kernel_rfl) (fun w _=>cmul k ((kmul p.t p.t)) w)
  ·exact OV.call 39 #[.agg (K.v (kmul p.z p.z)),.agg (K.v (kmul k ((kmul p.t p.t))))] (.agg (K.v (kadd ((kmul p.z p.z)) ((kmul k ((kmul p.t p.t))))))) (by kernel_rfl) (fun γ=>by kernel_rfl) (by kernel_rfl) (fun γ w=>by kernel_rfl) (fun w _=>cadd ((kmul p.z p.z)) ((kmul k ((kmul p.t p.t)))) w)
  ·exact OV.new_ ⟨9,10,31,z5,(K.v (kadd ((kmul p.z p.z)) ((kmul k ((kmul p.t p.t))))))⟩ (List.Mem.head _) rfl (by kernel_rfl) (by simp) (by kernel_rfl) (fun γ=>by kernel_rfl) (fun γ w=>by kernel_rfl)
  ·exact OV.put_ ⟨9,10,31,z5,(K.v (kadd ((kmul p.z p.z)) ((kmul k ((kmul p.t p.t))))))⟩ (List.Mem.head _) rfl (by kernel_rfl) (by simp) (by kernel_rfl) (fun γ=>by kernel_rfl) (by kernel_rfl) 31 (.tmp 4) (.tmp 38) rfl (fun γ=>by kernel_rfl) (fun γ=>by kernel_rfl) (by kernel_rfl) sizeE (K.ones _)
 intro γ W3 hgr3 hat hx2 hres
 clear hx2
 have B4:=B2.grown hgr3 (by simp)
 have B5:=B3.grown hgr3 (by simp)
 obtain⟨h3_0,eh3_0,lh3_0,B6⟩:=hat _ (List.Mem.head _)
 have D3:=below_none D2 hgr3
 have z3:=hgr3.size
 dsimp only at eh3_0
 clear hat hres hgr3 D2 B2 B3
 simp only[fr,fill,exa,spx,List.map_cons,List.map_nil,List.getElem?_cons_zero,List.getElem?_cons_succ,List.setIfInBounds_toArray,List.set_cons_zero,List.set_cons_succ,eh3_0]
 go_upto_region 5 with(fail)
 refine wp_region_o (sp:=[some (.agg (K.v (ksub ((kmul p.y p.y)) ((kmul p.x p.x))))),some (.agg (K.v (kadd ((kmul p.z p.z)) ((kmul k ((kmul p.t p.t))))))),some (.bool b3),some (.bool b3)]) (vs:=[]) (out:=none) (by kernel_rfl) (by kernel_rfl) (by kernel_rfl) (by kernel_rfl) (by kernel_rfl) (by simp) ?_ ?_
 ·refine Each.cons ?_<|Each.cons ?_<|Each.cons ?_<|Each.cons ?_<|Each.nil
  ·exact OV.load h2_0 0 5 31 (K.v ((ksub ((kmul p.y p.y)) ((kmul p.x p.x))))) B5 (by simp) ((K.v (ksub ((kmul p.y p.y)) ((kmul p.x p.x))))) 31 (.tmp 3) _ (by kernel_rfl) (fun γ=>by kernel_rfl) (by kernel_rfl) rfl (fun γ=>by kernel_rfl) (by kernel_rfl) (by kernel_rfl) Tryz.underlying31 rfl sizeE
  ·exact OV.load h3_0 0 5 31 (K.v ((kadd ((kmul p.z p.z)) ((kmul k ((kmul p.t p.t))))))) B6 (by simp) ((K.v (kadd ((kmul p.z p.z)) ((kmul k ((kmul p.t p.t))))))) 31 (.tmp 4) _ (by kernel_rfl) (fun γ=>by kernel_rfl) (by kernel_rfl) rfl (fun γ=>by kernel_rfl) (by kernel_rfl) (by kernel_rfl) Tryz.underlying31 rfl sizeE
  ·exact OV.call 37 #[.agg (K.v (ksub ((kmul p.y p.y)) ((kmul p.x p.x)))),.agg (K.v (kadd ((kmul p.z p.z)) ((kmul k ((kmul p.t p.t))))))] (.bool b3) (by kernel_rfl) (fun γ=>by kernel_rfl) (by kernel_rfl) (fun γ w=>by kernel_rfl) (fun w _=>S3 w)
  ·exact OV.val (.bool b3) (by kernel_rfl) (fun γ=>by kernel_rfl) (by kernel_rfl) (fun γ w=>by kernel_rfl)
 intro γ W4 hgr4 hat hx2 hres
 clear hx2
 have B7:=B4.grown hgr4 (by simp)
 have B8:=B5.grown hgr4 (by simp)
 have B9:=B6.grown hgr4 (by simp)
 have D4:=below_none D3 hgr4
 have z4:=hgr4.size
 clear hat hres hgr4 D3 B4 B5 B6
 simp only[fr,fill,exa,spx,List.map_cons,List.map_nil,List.getElem?_cons_zero,List.getElem?_cons_succ,List.setIfInBounds_toArray,List.set_cons_zero,List.set_cons_succ]
 go_wp2_with fail
 go_ret
 exact⟨rfl,D4⟩
theorem On_any(p:KP)(w:World)(tab:TabE w):Calls Tryz.prog 36 #[.agg p.v] w fun e w'=>e=.returned (.bool (hon kd p))∧Below w.heap.size w w':=by
 have hr:∀z,Below w.heap.size w z→z.rangeAt 3 0 kd.v.toList:=fun z hz=>c5_range kd_v (tab.below hz).d
 unfold hon
 generalize kd=k at *
 have S1:=csame p.z ke
 have S2:=csame (kmul p.t p.z) (kmul p.x p.y)
 have S3:=csame (ksub (kmul p.y p.y) (kmul p.x p.x)) (kadd (kmul p.z p.z) (kmul k (kmul p.t p.t)))
 cases h1:decide (p.z.f=ke.f)
 ·cases h2:decide ((kmul p.t p.z).f=(kmul p.x p.y).f)
  ·rw[h1] at S1
   rw[h2] at S2
   exact On_ff p k w S1 S2 hr
  ·rw[h1] at S1
   rw[h2] at S2
   exact On_ft p k w S1 S2 _ S3 hr
 ·rw[h1] at S1
  exact On_t p k w S1 hr
def hsame(k:K)(p q:KP):Bool:=hon k p && (hon k q && (decide ((kmul p.x q.z).f=(kmul q.x p.z).f) && decide ((kmul p.y q.z).f=(kmul q.y p.z).f)))
theorem hsame_has{p q:KP}{g h:G}(hp:Hp p g)(hq:Hp q h):(hsame kd p q=true)↔g=h:=by
 unfold hsame
 rw[hon_has hp,hon_has hq]
 simp only[Bool.true_and,Bool.and_eq_true,decide_eq_true_eq,kmul_f]
 exact has_alike hp hq
end Go.Proofs.YtoibhnpmemnlfaaGreatDoor.Ed
