/- Joined texts. -/
import Derived.IntWalk
import Derived.Test.YtoibhnpmemnlfaaGreatDoorQtEdH
set_option linter.unusedVariables false
namespace Go.Proofs.YtoibhnpmemnlfaaGreatDoor.Ed
open Go.RowKit Go.Proofs.YtoibhnpmemnlfaaGreatDoor.Gn Go.Proofs.YtoibhnpmemnlfaaGreatDoor.Fd Go.Deep
theorem K.sz(x y:K):x.v.size=y.v.size:=by
 show 5=5
 rfl
set_option maxRecDepth 100000 in
set_option maxHeartbeats 4000000 in
theorem across_walk(y yy u dy v k rk:K)(b:Bool)(w0:World)(tab:TabE w0)
  (SQ:∀w,Calls Tryz.prog 58 #[.agg (K.v y)] w fun e w'=>e=.returned (.agg (K.v yy))∧Below w.heap.size w w') (SB:∀w,Calls Tryz.prog 40 #[.agg (K.v yy),.agg (K.v (kof 1))] w fun e w'=>e=.returned (.agg (K.v u))∧Below w.heap.size w w') (ML:∀w,Calls Tryz.prog 38 #[.agg (K.v k),.agg (K.v yy)] w fun e w'=>e=.returned (.agg (K.v dy))∧Below w.heap.size w w') (AD:∀w,Calls Tryz.prog 39 #[.agg (K.v dy),.agg (K.v (kof 1))] w fun e w'=>e=.returned (.agg (K.v v))∧Below w.heap.size w w')
  (RT:∀w,TabE w→Calls Tryz.prog 59 #[.agg (K.v u),.agg (K.v v)] w fun e w'=>e=.returned (.tuple #[.agg (K.v rk),.bool b])∧Below w.heap.size w w')
  (hr:∀z,Below w0.heap.size w0 z→z.rangeAt 3 0 k.v.toList) :
  Calls Tryz.prog 30 #[.agg y.v] w0 fun e w'=>e=.returned (.tuple #[.agg (K.v rk),.bool b])∧Below w0.heap.size w0 w':=by
 have hl1:3 < w0.heap.size:=cell_lt tab.d.1
 go_enter Tryz.func30,Tryz.ntmps30
 go_upto_region 1 with(fail)
 refine at_box2 _ _ _ _ _ ?_
 intro W0 B0 B1 D0 hs
 refine wp_region_o (sp:=[some (.agg (K.v (kof 1))),some (.agg (K.v y)),some (.agg (K.v yy)),none,none,none,none]) (vs:=[⟨3,5,31,z5,(K.v (kof 1))⟩,⟨4,6,31,z5,(K.v yy)⟩]) (out:=none) (by kernel_rfl) (by kernel_rfl) (by kernel_rfl) (by kernel_rfl) (by kernel_rfl) (by simp) ?_ ?_
 ·refine Each.cons ?_<|Each.cons ?_<|Each.cons ?_<|Each.cons ?_<|Each.cons ?_<|Each.cons ?_<|Each.cons ?_<|Each.nil
  ·exact OV.call 57 #[.int .u64 1] (.agg (K.v (kof 1))) (by kernel_rfl) (fun γ=>by kernel_rfl) (by kernel_rfl) (fun γ w=>by kernel_rfl) (fun w _=>csmall1 w)
  ·exact OV.load w0.heap.size 0 5 31 (K.v y) B0 (by simp) ((K.v y)) 31 (.tmp 1) _ (by kernel_rfl) (fun γ=>by kernel_rfl) (by kernel_rfl) rfl (fun γ=>by kernel_rfl) (by kernel_rfl) (by kernel_rfl) Tryz.underlying31 rfl sizeE
  ·exact OV.call 58 #[.agg (K.v y)] (.agg (K.v yy)) (by kernel_rfl) (fun γ=>by kernel_rfl) (by kernel_rfl) (fun γ w=>by kernel_rfl) (fun w _=>SQ w)
  ·exact OV.new_ ⟨3,5,31,z5,(K.v (kof 1))⟩ (List.Mem.head _) rfl (by kernel_rfl) (by simp) (by kernel_rfl) (fun γ=>by kernel_rfl) (fun γ w=>by kernel_rfl)
  ·exact OV.new_ ⟨4,6,31,z5,(K.v yy)⟩ (List.Mem.tail _ (List.Mem.head _)) rfl (by kernel_rfl) (by simp) (by kernel_rfl) (fun γ=>by kernel_rfl) (fun γ w=>by kernel_rfl)
  ·exact OV.put_ ⟨3,5,31,z5,(K.v (kof 1))⟩ (List.Mem.head _) rfl (by kernel_rfl) (by simp) (by kernel_rfl) (fun γ=>by kernel_rfl) (by kernel_rfl) 31 (.tmp 4) (.tmp 6) rfl (fun γ=>by kernel_rfl) (fun γ=>by kernel_rfl) (by kernel_rfl) sizeE (K.ones _)
  ·exact OV.put_ ⟨4,6,31,z5,(K.v yy)⟩ (List.Mem.tail _ (List.Mem.head _)) rfl (by kernel_rfl) (by simp) (by kernel_rfl) (fun γ=>by kernel_rfl) (by kernel_rfl) 31 (.tmp 5) (.tmp 8) rfl (fun γ=>by kernel_rfl) (fun γ=>by kernel_rfl) (by kernel_rfl) sizeE (K.ones _)
 intro γ W1 hgr1 hat hx2 hres
 clear hx2
 have B2:=B0.grown hgr1 (by simp)
 have B3:=B1.grown hgr1 (by simp)
 obtain⟨h1_0,eh1_0,lh1_0,B4⟩:=hat _ (List.Mem.head _)
 obtain⟨h1_1,eh1_1,lh1_1,B5⟩:=hat _ (List.Mem.tail _ (List.Mem.head _))
 have D1:=below_none D0 hgr1
 have z1:=hgr1.size
 dsimp only at eh1_0 eh1_1
 clear hat hres hgr1 D0 B0 B1
 simp only[fr,fill,exa,spx,List.map_cons,List.map_nil,List.getElem?_cons_zero,List.getElem?_cons_succ,List.setIfInBounds_toArray,List.set_cons_zero,List.set_cons_succ,eh1_0,eh1_1]
 go_upto_region 2 with(fail)
 have DX:=D1
 refine wp_region_o (sp:=[some (.agg (K.v yy)),some (.agg (K.v (kof 1))),some (.agg (K.v u)),some (.agg (K.v k)),some (.agg (K.v yy)),some (.agg (K.v dy)),some (.agg (K.v (kof 1))),some (.agg (K.v v)),some (.tuple #[.agg (K.v rk),.bool b]),some (.agg (K.v rk)),some (.bool b),none,some (.bool b)]) (vs:=[]) (out:=(some ⟨11,w0.heap.size+1,31,z5,(K.v rk)⟩)) (by kernel_rfl) (by kernel_rfl) (by kernel_rfl) (by kernel_rfl) (by kernel_rfl) (fun r hr=>by obtain rfl:_=r:=Option.some.inj hr;exact⟨show w0.heap.size+1 < _ from by omega,B3,Nat.le_of_ble_eq_true (by kernel_rfl)⟩) ?_ ?_
 ·refine Each.cons ?_<|Each.cons ?_<|Each.cons ?_<|Each.cons ?_<|Each.cons ?_<|Each.cons ?_<|Each.cons ?_<|Each.cons ?_<|Each.cons ?_<|Each.cons ?_<|Each.cons ?_<|Each.cons ?_<|Each.cons ?_<|Each.nil
  ·exact OV.load h1_1 0 5 31 (K.v yy) B5 (by simp only[Option.map_some,ne_eq,Option.some.injEq];omega) ((K.v yy)) 31 (.tmp 5) _ (by kernel_rfl) (fun γ=>by kernel_rfl) (by kernel_rfl) rfl (fun γ=>by kernel_rfl) (by kernel_rfl) (by kernel_rfl) Tryz.underlying31 rfl sizeE
  ·exact OV.load h1_0 0 5 31 (K.v ((kof 1))) B4 (by simp only[Option.map_some,ne_eq,Option.some.injEq];omega) ((K.v (kof 1))) 31 (.tmp 4) _ (by kernel_rfl) (fun γ=>by kernel_rfl) (by kernel_rfl) rfl (fun γ=>by kernel_rfl) (by kernel_rfl) (by kernel_rfl) Tryz.underlying31 rfl sizeE
  ·exact OV.call 40 #[.agg (K.v yy),.agg (K.v (kof 1))] (.agg (K.v u)) (by kernel_rfl) (fun γ=>by kernel_rfl) (by kernel_rfl) (fun γ w=>by kernel_rfl) (fun w _=>SB w)
  ·exact OV.range 3 _ (hr _ D1) (by simp only[Option.map_some,ne_eq,Option.some.injEq];omega) 31 (.global 3) (by kernel_rfl) (fun γ=>by kernel_rfl) (by kernel_rfl) rfl (fun γ=>by kernel_rfl) Tryz.underlying31 rfl sizeE
  ·exact OV.load h1_1 0 5 31 (K.v yy) B5 (by simp only[Option.map_some,ne_eq,Option.some.injEq];omega) ((K.v yy)) 31 (.tmp 5) _ (by kernel_rfl) (fun γ=>by kernel_rfl) (by kernel_rfl) rfl (fun γ=>by kernel_rfl) (by kernel_rfl) (by kernel_rfl) Tryz.underlying31 rfl sizeE
  ·exact OV.call 38 #[.agg (K.v k),.agg (K.v yy)] (.agg (K.v dy)) (by kernel_rfl) (fun γ=>by kernel_rfl) (by kernel_rfl) (fun γ w=>by kernel_rfl) (fun w _=>ML w)
  ·exact OV.load h1_0 0 5 31 (K.v ((kof 1))) B4 (by simp only[Option.map_some,ne_eq,Option.some.injEq];omega) ((K.v (kof 1))) 31 (.tmp 4) _ (by kernel_rfl) (fun γ=>by kernel_rfl) (by kernel_rfl) rfl (fun γ=>by kernel_rfl) (by kernel_rfl) (by kernel_rfl) Tryz.underlying31 rfl sizeE
  ·exact OV.call 39 #[.agg (K.v dy),.agg (K.v (kof 1))] (.agg (K.v v)) (by kernel_rfl) (fun γ=>by kernel_rfl) (by kernel_rfl) (fun γ w=>by kernel_rfl) (fun w _=>AD w)
  ·exact OV.call 59 #[.agg (K.v u),.agg (K.v v)] (.tuple #[.agg (K.v rk),.bool b]) (by kernel_rfl) (fun γ=>by kernel_rfl) (by kernel_rfl) (fun γ w=>by kernel_rfl) (fun w _=>RT w (tab.below (below_only (g:=w0.heap.size+1) DX ‹_› (by omega))))
  ·exact OV.val (.agg (K.v rk)) (by kernel_rfl) (fun γ=>by kernel_rfl) (by kernel_rfl) (fun γ w=>by kernel_rfl)
  ·exact OV.val (.bool b) (by kernel_rfl) (fun γ=>by kernel_rfl) (by kernel_rfl) (fun γ w=>by kernel_rfl)
  ·exact OV.res_ rfl (by kernel_rfl) (by kernel_rfl) (fun γ=>by kernel_rfl) 31 (.tmp 2) (.tmp 18) rfl (fun γ=>by kernel_rfl) (fun γ=>by kernel_rfl) (by kernel_rfl) sizeE (K.ones _)
  ·exact OV.val (.bool b) (by kernel_rfl) (fun γ=>by kernel_rfl) (by kernel_rfl) (fun γ w=>by kernel_rfl)
 intro γ w' hgr hx1 hx2 hres
 clear hx1 hx2
 have hb:=hres _ rfl
 have hz:=below_only (g:=w0.heap.size+1) D1 hgr (by omega)
 rename_i hk0
 refine hk0 _ _ (wp_ret ?_)
 refine bodyPost_ret (v:=.tuple #[.agg (K.v rk),.bool b]) (Gn.results_cell_tmp 2 31 3 (.bool b) (w0.heap.size+1) 31 (K.v rk) Tryz.results30 (by kernel_rfl) (by kernel_rfl) hb Tryz.underlying31 rfl sizeE) rfl ⟨rfl,hz⟩
end Go.Proofs.YtoibhnpmemnlfaaGreatDoor.Ed
