/- Joined texts. -/
import Derived.Deep.DeepCutAuto
import Derived.Deep.Cut
import Derived.Test.YtoibhnpmemnlfaaGreatDoorQtEdA
set_option linter.unusedVariables false
namespace Go.Proofs.YtoibhnpmemnlfaaGreatDoor.Ed
open Go.RowKit Go.Proofs.YtoibhnpmemnlfaaGreatDoor.Gn Go.Proofs.YtoibhnpmemnlfaaGreatDoor.Fd Go.Deep
theorem c5_range{w:World}{g n:Nat}{k:K}(h:k.v=(el n).v)(hc:C5 w g (el n)):w.rangeAt g 0 k.v.toList:=by
 rw[h]
 intro j v hj
 obtain⟨c0,c1,c2,c3,c4⟩:=hc
 rw[Nat.zero_add]
 unfold E5.v at hj
 match j,hj with
 |0,hj=>obtain rfl:=Option.some.inj hj;exact c0
 |1,hj=>obtain rfl:=Option.some.inj hj;exact c1
 |2,hj=>obtain rfl:=Option.some.inj hj;exact c2
 |3,hj=>obtain rfl:=Option.some.inj hj;exact c3
 |4,hj=>obtain rfl:=Option.some.inj hj;exact c4
 |n+5,hj=>simp at hj
set_option maxRecDepth 100000 in
set_option maxHeartbeats 4000000 in
theorem held_any(x y:K)(w:World):Calls Tryz.prog 33 #[.agg x.v,.agg y.v] w fun e w'=>e=.returned (.agg (kheld x y).v)∧Below w.heap.size w w':=by
 go_enter Tryz.func33,Tryz.ntmps33
 go_upto_region 1 with(fail)
 refine at_box3 _ _ _ _ _ _ _ ?_
 intro W0 B0 B1 B2 D0 hs
 refine wp_region_o (sp:=[some (.agg (K.v x)),some (.agg (K.v y)),some (.agg (K.v (kof 1))),some (.agg (K.v x)),some (.agg (K.v y)),some (.agg (K.v (kmul x y))),some (.agg (KP.v ⟨x,y,(kof 1),(kmul x y)⟩)),none]) (vs:=[]) (out:=(some ⟨7,w.heap.size+1+1,33,z20,(KP.v ⟨x,y,(kof 1),(kmul x y)⟩)⟩)) (by kernel_rfl) (by kernel_rfl) (by kernel_rfl) (by kernel_rfl) (by kernel_rfl) (fun r hr=>by obtain rfl:_=r:=Option.some.inj hr;exact⟨show w.heap.size+1+1 < _ from by omega,B2,Nat.le_of_ble_eq_true (by kernel_rfl)⟩) ?_ ?_
 ·refine Each.cons ?_<|Each.cons ?_<|Each.cons ?_<|Each.cons ?_<|Each.cons ?_<|Each.cons ?_<|Each.cons ?_<|Each.cons ?_<|Each.nil
  ·exact OV.load w.heap.size 0 5 31 (K.v x) B0 (by simp only[Option.map_some,ne_eq,Option.some.injEq];omega) ((K.v x)) 31 (.tmp 2) _ (by kernel_rfl) (fun γ=>by kernel_rfl) (by kernel_rfl) rfl (fun γ=>by kernel_rfl) (by kernel_rfl) (by kernel_rfl) Tryz.underlying31 rfl sizeE
  ·exact OV.load (w.heap.size+1) 0 5 31 (K.v y) B1 (by simp only[Option.map_some,ne_eq,Option.some.injEq];omega) ((K.v y)) 31 (.tmp 3) _ (by kernel_rfl) (fun γ=>by kernel_rfl) (by kernel_rfl) rfl (fun γ=>by kernel_rfl) (by kernel_rfl) (by kernel_rfl) Tryz.underlying31 rfl sizeE
  ·exact OV.call 57 #[.int .u64 1] (.agg (K.v (kof 1))) (by kernel_rfl) (fun γ=>by kernel_rfl) (by kernel_rfl) (fun γ w=>by kernel_rfl) (fun w _=>csmall1 w)
  ·exact OV.load w.heap.size 0 5 31 (K.v x) B0 (by simp only[Option.map_some,ne_eq,Option.some.injEq];omega) ((K.v x)) 31 (.tmp 2) _ (by kernel_rfl) (fun γ=>by kernel_rfl) (by kernel_rfl) rfl (fun γ=>by kernel_rfl) (by kernel_rfl) (by kernel_rfl) Tryz.underlying31 rfl sizeE
  ·exact OV.load (w.heap.size+1) 0 5 31 (K.v y) B1 (by simp only[Option.map_some,ne_eq,Option.some.injEq];omega) ((K.v y)) 31 (.tmp 3) _ (by kernel_rfl) (fun γ=>by kernel_rfl) (by kernel_rfl) rfl (fun γ=>by kernel_rfl) (by kernel_rfl) (by kernel_rfl) Tryz.underlying31 rfl sizeE
  ·exact OV.call 38 #[.agg (K.v x),.agg (K.v y)] (.agg (K.v (kmul x y))) (by kernel_rfl) (fun γ=>by kernel_rfl) (by kernel_rfl) (fun γ w=>by kernel_rfl) (fun w _=>cmul x y w)
  ·exact OV.val (.agg (KP.v ⟨x,y,(kof 1),(kmul x y)⟩)) (by kernel_rfl) (fun γ=>by kernel_rfl) (by kernel_rfl) (fun γ w=>by kernel_rfl)
  ·exact OV.res_ rfl (by kernel_rfl) (by kernel_rfl) (fun γ=>by kernel_rfl) 33 (.tmp 4) (.tmp 11) rfl (fun γ=>by kernel_rfl) (fun γ=>by kernel_rfl) (by kernel_rfl) sizeP (KP.ones _)
 intro γ w' hgr hx1 hx2 hres
 clear hx1 hx2
 have hb:=hres _ rfl
 rename_i hk0
 refine hk0 _ _ (wp_ret ?_)
 refine bodyPost_ret (v:=.agg (kheld x y).v) (results_cell 4 33 _ _ _ Tryz.results33 (by kernel_rfl) hb Tryz.underlying33 rfl sizeP) rfl ⟨rfl,below_only (g:=w.heap.size+1+1) D0 hgr (by omega)⟩
set_option maxRecDepth 100000 in
set_option maxHeartbeats 4000000 in
theorem quotients_any(a b u v:K)(w:World):Calls Tryz.prog 41 #[.agg a.v,.agg b.v,.agg u.v,.agg v.v] w fun e w'=>e=.returned (.agg (kquo a b u v).v)∧Below w.heap.size w w':=by
 go_enter Tryz.func41,Tryz.ntmps41
 go_upto_region 1 with(fail)
 refine at_box5 _ _ _ _ _ _ _ _ _ _ _ ?_
 intro W0 B0 B1 B2 B3 B4 D0 hs
 refine wp_region_o (sp:=[some (.agg (K.v a)),some (.agg (K.v v)),some (.agg (K.v (kmul a v))),some (.agg (K.v u)),some (.agg (K.v b)),some (.agg (K.v (kmul u b))),some (.agg (K.v b)),some (.agg (K.v v)),some (.agg (K.v (kmul b v))),some (.agg (K.v a)),some (.agg (K.v u)),some (.agg (K.v (kmul a u))),some (.agg (KP.v ⟨(kmul a v),(kmul u b),(kmul b v),(kmul a u)⟩)),none]) (vs:=[]) (out:=(some ⟨13,w.heap.size+1+1+1+1,33,z20,(KP.v ⟨(kmul a v),(kmul u b),(kmul b v),(kmul a u)⟩)⟩)) (by kernel_rfl) (by kernel_rfl) (by kernel_rfl) (by kernel_rfl) (by kernel_rfl) (fun r hr=>by obtain rfl:_=r:=Option.some.inj hr;exact⟨show w.heap.size+1+1+1+1 < _ from by omega,B4,Nat.le_of_ble_eq_true (by kernel_rfl)⟩) ?_ ?_
 ·refine Each.cons ?_<|Each.cons ?_<|Each.cons ?_<|Each.cons ?_<|Each.cons ?_<|Each.cons ?_<|Each.cons ?_<|Each.cons ?_<|Each.cons ?_<|Each.cons ?_<|Each.cons ?_<|Each.cons ?_<|Each.cons ?_<|Each.cons ?_<|Each.nil
  ·exact OV.load w.heap.size 0 5 31 (K.v a) B0 (by simp only[Option.map_some,ne_eq,Option.some.injEq];omega) ((K.v a)) 31 (.tmp 4) _ (by kernel_rfl) (fun γ=>by kernel_rfl) (by kernel_rfl) rfl (fun γ=>by kernel_rfl) (by kernel_rfl) (by kernel_rfl) Tryz.underlying31 rfl sizeE
  ·exact OV.load (w.heap.size+1+1+1) 0 5 31 (K.v v) B3 (by simp only[Option.map_some,ne_eq,Option.some.injEq];omega) ((K.v v)) 31 (.tmp 7) _ (by kernel_rfl) (fun γ=>by kernel_rfl) (by kernel_rfl) rfl (fun γ=>by kernel_rfl) (by kernel_rfl) (by kernel_rfl) Tryz.underlying31 rfl sizeE
  ·exact OV.call 38 #[.agg (K.v a),.agg (K.v v)] (.agg (K.v (kmul a v))) (by kernel_rfl) (fun γ=>by kernel_rfl) (by kernel_rfl) (fun γ w=>by kernel_rfl) (fun w _=>cmul a v w)
  ·exact OV.load (w.heap.size+1+1) 0 5 31 (K.v u) B2 (by simp only[Option.map_some,ne_eq,Option.some.injEq];omega) ((K.v u)) 31 (.tmp 6) _ (by kernel_rfl) (fun γ=>by kernel_rfl) (by kernel_rfl) rfl (fun γ=>by kernel_rfl) (by kernel_rfl) (by kernel_rfl) Tryz.underlying31 rfl sizeE
  ·exact OV.load (w.heap.size+1) 0 5 31 (K.v b) B1 (by simp only[Option.map_some,ne_eq,Option.some.injEq];omega) ((K.v b)) 31 (.tmp 5) _ (by kernel_rfl) (fun γ=>by kernel_rfl) (by kernel_rfl) rfl (fun γ=>by kernel_rfl) (by kernel_rfl) (by kernel_rfl) Tryz.underlying31 rfl sizeE
  ·exact OV.call 38 #[.agg (K.v u),.agg (K.v b)] (.agg (K.v (kmul u b))) (by kernel_rfl) (fun γ=>by kernel_rfl) (by kernel_rfl) (fun γ w=>by kernel_rfl) (fun w _=>cmul u b w)
  ·exact OV.load (w.heap.size+1) 0 5 31 (K.v b) B1 (by simp only[Option.map_some,ne_eq,Option.some.injEq];omega) ((K.v b)) 31 (.tmp 5) _ (by kernel_rfl) (fun γ=>by kernel_rfl) (by kernel_rfl) rfl (fun γ=>by kernel_rfl) (by kernel_rfl) (by kernel_rfl) Tryz.underlying31 rfl sizeE
  ·exact OV.load (w.heap.size+1+1+1) 0 5 31 (K.v v) B3 (by simp only[Option.map_some,ne_eq,Option.some.injEq];omega) ((K.v v)) 31 (.tmp 7) _ (by kernel_rfl) (fun γ=>by kernel_rfl) (by kernel_rfl) rfl (fun γ=>by kernel_rfl) (by kernel_rfl) (by kernel_rfl) Tryz.underlying31 rfl sizeE
  ·exact OV.call 38 #[.agg (K.v b),.agg (K.v v)] (.agg (K.v (kmul b v))) (by kernel_rfl) (fun γ=>by kernel_rfl) (by kernel_rfl) (fun γ w=>by kernel_rfl) (fun w _=>cmul b v w)
  ·exact OV.load w.heap.size 0 5 31 (K.v a) B0 (by simp only[Option.map_some,ne_eq,Option.some.injEq];omega) ((K.v a)) 31 (.tmp 4) _ (by kernel_rfl) (fun γ=>by kernel_rfl) (by kernel_rfl) rfl (fun γ=>by kernel_rfl) (by kernel_rfl) (by kernel_rfl) Tryz.underlying31 rfl sizeE
  ·exact OV.load (w.heap.size+1+1) 0 5 31 (K.v u) B2 (by simp only[Option.map_some,ne_eq,Option.some.injEq];omega) ((K.v u)) 31 (.tmp 6) _ (by kernel_rfl) (fun γ=>by kernel_rfl) (by kernel_rfl) rfl (fun γ=>by kernel_rfl) (by kernel_rfl) (by kernel_rfl) Tryz.underlying31 rfl sizeE
  ·exact OV.call 38 #[.agg (K.v a),.agg (K.v u)] (.agg (K.v (kmul a u))) (by kernel_rfl) (fun γ=>by kernel_rfl) (by kernel_rfl) (fun γ w=>by kernel_rfl) (fun w _=>cmul a u w)
  ·exact OV.val (.agg (KP.v ⟨(kmul a v),(kmul u b),(kmul b v),(kmul a u)⟩)) (by kernel_rfl) (fun γ=>by kernel_rfl) (by kernel_rfl) (fun γ w=>by kernel_rfl)
  ·exact OV.res_ rfl (by kernel_rfl) (by kernel_rfl) (fun γ=>by kernel_rfl) 33 (.tmp 8) (.tmp 21) rfl (fun γ=>by kernel_rfl) (fun γ=>by kernel_rfl) (by kernel_rfl) sizeP (KP.ones _)
 intro γ w' hgr hx1 hx2 hres
 clear hx1 hx2
 have hb:=hres _ rfl
 rename_i hk0
 refine hk0 _ _ (wp_ret ?_)
 refine bodyPost_ret (v:=.agg (kquo a b u v).v) (results_cell 8 33 _ _ _ Tryz.results41 (by kernel_rfl) hb Tryz.underlying33 rfl sizeP) rfl ⟨rfl,below_only (g:=w.heap.size+1+1+1+1) D0 hgr (by omega)⟩
set_option maxRecDepth 100000 in
set_option maxHeartbeats 4000000 in
theorem Zero_any  (w:World):Calls Tryz.prog 60 #[] w fun e w'=>e=.returned (.agg kzero.v)∧Below w.heap.size w w':=by
 go_enter Tryz.func60,Tryz.ntmps60
 go_upto_region 1 with(fail)
 refine at_box1 _ _ _ ?_
 intro W0 B0 D0 hs
 refine wp_region_o (sp:=[some (.agg (K.v (kof 0))),some (.agg (K.v (kof 1))),some (.agg (KP.v (kheld ((kof 0)) ((kof 1))))),none]) (vs:=[]) (out:=(some ⟨3,w.heap.size,33,z20,(KP.v (kheld ((kof 0)) ((kof 1))))⟩)) (by kernel_rfl) (by kernel_rfl) (by kernel_rfl) (by kernel_rfl) (by kernel_rfl) (fun r hr=>by obtain rfl:_=r:=Option.some.inj hr;exact⟨show w.heap.size < _ from by omega,B0,Nat.le_of_ble_eq_true (by kernel_rfl)⟩) ?_ ?_
 ·refine Each.cons ?_<|Each.cons ?_<|Each.cons ?_<|Each.cons ?_<|Each.nil
  ·exact OV.call 57 #[.int .u64 0] (.agg (K.v (kof 0))) (by kernel_rfl) (fun γ=>by kernel_rfl) (by kernel_rfl) (fun γ w=>by kernel_rfl) (fun w _=>csmall0 w)
  ·exact OV.call 57 #[.int .u64 1] (.agg (K.v (kof 1))) (by kernel_rfl) (fun γ=>by kernel_rfl) (by kernel_rfl) (fun γ w=>by kernel_rfl) (fun w _=>csmall1 w)
  ·exact OV.call 33 #[.agg (K.v (kof 0)),.agg (K.v (kof 1))] (.agg (KP.v (kheld ((kof 0)) ((kof 1))))) (by kernel_rfl) (fun γ=>by kernel_rfl) (by kernel_rfl) (fun γ w=>by kernel_rfl) (fun w _=>held_any ((kof 0)) ((kof 1)) w)
  ·exact OV.res_ rfl (by kernel_rfl) (by kernel_rfl) (fun γ=>by kernel_rfl) 33 (.tmp 0) (.tmp 3) rfl (fun γ=>by kernel_rfl) (fun γ=>by kernel_rfl) (by kernel_rfl) sizeP (KP.ones _)
 intro γ w' hgr hx1 hx2 hres
 clear hx1 hx2
 have hb:=hres _ rfl
 rename_i hk0
 refine hk0 _ _ (wp_ret ?_)
 refine bodyPost_ret (v:=.agg kzero.v) (results_cell 0 33 _ _ _ Tryz.results60 (by kernel_rfl) hb Tryz.underlying33 rfl sizeP) rfl ⟨rfl,below_only (g:=w.heap.size) D0 hgr (by omega)⟩
set_option maxRecDepth 100000 in
set_option maxHeartbeats 4000000 in
theorem Base_any  (w:World) (tab:TabE w):Calls Tryz.prog 12 #[] w fun e w'=>e=.returned (.agg kbase.v)∧Below w.heap.size w w':=by
 have hl1:0 < w.heap.size:=cell_lt tab.bx.1
 have hl2:1 < w.heap.size:=cell_lt tab.by_.1
 go_enter Tryz.func12,Tryz.ntmps12
 go_upto_region 1 with(fail)
 refine at_box1 _ _ _ ?_
 intro W0 B0 D0 hs
 refine wp_region_o (sp:=[some (.agg (K.v kbx)),some (.agg (K.v kby)),some (.agg (KP.v (kheld kbx kby))),none]) (vs:=[]) (out:=(some ⟨3,w.heap.size,33,z20,(KP.v (kheld kbx kby))⟩)) (by kernel_rfl) (by kernel_rfl) (by kernel_rfl) (by kernel_rfl) (by kernel_rfl) (fun r hr=>by obtain rfl:_=r:=Option.some.inj hr;exact⟨show w.heap.size < _ from by omega,B0,Nat.le_of_ble_eq_true (by kernel_rfl)⟩) ?_ ?_
 ·refine Each.cons ?_<|Each.cons ?_<|Each.cons ?_<|Each.cons ?_<|Each.nil
  ·exact OV.range 0 _ (c5_range kbx_v (tab.below D0).bx) (by simp only[Option.map_some,ne_eq,Option.some.injEq];omega) 31 (.global 0) (by kernel_rfl) (fun γ=>by kernel_rfl) (by kernel_rfl) rfl (fun γ=>by kernel_rfl) Tryz.underlying31 rfl sizeE
  ·exact OV.range 1 _ (c5_range kby_v (tab.below D0).by_) (by simp only[Option.map_some,ne_eq,Option.some.injEq];omega) 31 (.global 1) (by kernel_rfl) (fun γ=>by kernel_rfl) (by kernel_rfl) rfl (fun γ=>by kernel_rfl) Tryz.underlying31 rfl sizeE
  ·exact OV.call 33 #[.agg (K.v kbx),.agg (K.v kby)] (.agg (KP.v (kheld kbx kby))) (by kernel_rfl) (fun γ=>by kernel_rfl) (by kernel_rfl) (fun γ w=>by kernel_rfl) (fun w _=>held_any kbx kby w)
  ·exact OV.res_ rfl (by kernel_rfl) (by kernel_rfl) (fun γ=>by kernel_rfl) 33 (.tmp 0) (.tmp 3) rfl (fun γ=>by kernel_rfl) (fun γ=>by kernel_rfl) (by kernel_rfl) sizeP (KP.ones _)
 intro γ w' hgr hx1 hx2 hres
 clear hx1 hx2
 have hb:=hres _ rfl
 rename_i hk0
 refine hk0 _ _ (wp_ret ?_)
 refine bodyPost_ret (v:=.agg kbase.v) (results_cell 0 33 _ _ _ Tryz.results12 (by kernel_rfl) hb Tryz.underlying33 rfl sizeP) rfl ⟨rfl,below_only (g:=w.heap.size) D0 hgr (by omega)⟩
set_option maxRecDepth 100000 in
set_option maxHeartbeats 4000000 in
theorem Neg_any(p:KP)(w:World):Calls Tryz.prog 46 #[.agg p.v] w fun e w'=>e=.returned (.agg p.neg.v)∧Below w.heap.size w w':=by
 go_enter Tryz.func46,Tryz.ntmps46
 go_upto_region 1 with(fail)
 refine at_box2 _ _ _ _ _ ?_
 intro W0 B0 B1 D0 hs
 refine wp_region_o (sp:=[some (.pointer (some ⟨w.heap.size,0,none⟩)),some (.agg (K.v p.x)),some (.agg (K.v (kneg p.x))),some (.pointer (some ⟨w.heap.size,5,none⟩)),some (.agg (K.v p.y)),some (.pointer (some ⟨w.heap.size,10,none⟩)),some (.agg (K.v p.z)),some (.pointer (some ⟨w.heap.size,15,none⟩)),some (.agg (K.v p.t)),some (.agg (K.v (kneg p.t))),some (.agg (KP.v ⟨(kneg p.x),p.y,p.z,(kneg p.t)⟩)),none]) (vs:=[]) (out:=(some ⟨11,w.heap.size+1,33,z20,(KP.v ⟨(kneg p.x),p.y,p.z,(kneg p.t)⟩)⟩)) (by kernel_rfl) (by kernel_rfl) (by kernel_rfl) (by kernel_rfl) (by kernel_rfl) (fun r hr=>by obtain rfl:_=r:=Option.some.inj hr;exact⟨show w.heap.size+1 < _ from by omega,B1,Nat.le_of_ble_eq_true (by kernel_rfl)⟩) ?_ ?_
 ·refine Each.cons ?_<|Each.cons ?_<|Each.cons ?_<|Each.cons ?_<|Each.cons ?_<|Each.cons ?_<|Each.cons ?_<|Each.cons ?_<|Each.cons ?_<|Each.cons ?_<|Each.cons ?_<|Each.cons ?_<|Each.nil
  ·exact OV.val (.pointer (some ⟨w.heap.size,0,none⟩)) (by kernel_rfl) (fun γ=>by kernel_rfl) (by kernel_rfl) (fun γ w=>by kernel_rfl)
  ·exact OV.load w.heap.size 0 5 33 (KP.v p) B0 (by simp only[Option.map_some,ne_eq,Option.some.injEq];omega) ((K.v p.x)) 31 (.tmp 3) _ (by kernel_rfl) (fun γ=>by kernel_rfl) (by kernel_rfl) rfl (fun γ=>by kernel_rfl) (by kernel_rfl) (by kernel_rfl) Tryz.underlying31 rfl sizeE
  ·exact OV.call 31 #[.agg (K.v p.x)] (.agg (K.v (kneg p.x))) (by kernel_rfl) (fun γ=>by kernel_rfl) (by kernel_rfl) (fun γ w=>by kernel_rfl) (fun w _=>cneg p.x w)
  ·exact OV.val (.pointer (some ⟨w.heap.size,5,none⟩)) (by kernel_rfl) (fun γ=>by kernel_rfl) (by kernel_rfl) (fun γ w=>by kernel_rfl)
  ·exact OV.load w.heap.size 5 5 33 (KP.v p) B0 (by simp only[Option.map_some,ne_eq,Option.some.injEq];omega) ((K.v p.y)) 31 (.tmp 6) _ (by kernel_rfl) (fun γ=>by kernel_rfl) (by kernel_rfl) rfl (fun γ=>by kernel_rfl) (by kernel_rfl) (by kernel_rfl) Tryz.underlying31 rfl sizeE
  ·exact OV.val (.pointer (some ⟨w.heap.size,10,none⟩)) (by kernel_rfl) (fun γ=>by kernel_rfl) (by kernel_rfl) (fun γ w=>by kernel_rfl)
  ·exact OV.load w.heap.size 10 5 33 (KP.v p) B0 (by simp only[Option.map_some,ne_eq,Option.some.injEq];omega) ((K.v p.z)) 31 (.tmp 8) _ (by kernel_rfl) (fun γ=>by kernel_rfl) (by kernel_rfl) rfl (fun γ=>by kernel_rfl) (by kernel_rfl) (by kernel_rfl) Tryz.underlying31 rfl sizeE
  ·exact OV.val (.pointer (some ⟨w.heap.size,15,none⟩)) (by kernel_rfl) (fun γ=>by kernel_rfl) (by kernel_rfl) (fun γ w=>by kernel_rfl)
  ·exact OV.load w.heap.size 15 5 33 (KP.v p) B0 (by simp only[Option.map_some,ne_eq,Option.some.injEq];omega) ((K.v p.t)) 31 (.tmp 10) _ (by kernel_rfl) (fun γ=>by kernel_rfl) (by kernel_rfl) rfl (fun γ=>by kernel_rfl) (by kernel_rfl) (by kernel_rfl) Tryz.underlying31 rfl sizeE
  ·exact OV.call 31 #[.agg (K.v p.t)] (.agg (K.v (kneg p.t))) (by kernel_rfl) (fun γ=>by kernel_rfl) (by kernel_rfl) (fun γ w=>by kernel_rfl) (fun w _=>cneg p.t w)
  ·exact OV.val (.agg (KP.v ⟨(kneg p.x),p.y,p.z,(kneg p.t)⟩)) (by kernel_rfl) (fun γ=>by kernel_rfl) (by kernel_rfl) (fun γ w=>by kernel_rfl)
  ·exact OV.res_ rfl (by kernel_rfl) (by kernel_rfl) (fun γ=>by kernel_rfl) 33 (.tmp 2) (.tmp 13) rfl (fun γ=>by kernel_rfl) (fun γ=>by kernel_rfl) (by kernel_rfl) sizeP (KP.ones _)
 intro γ w' hgr hx1 hx2 hres
 clear hx1 hx2
 have hb:=hres _ rfl
 rename_i hk0
 refine hk0 _ _ (wp_ret ?_)
 refine bodyPost_ret (v:=.agg p.neg.v) (results_cell 2 33 _ _ _ Tryz.results46 (by kernel_rfl) hb Tryz.underlying33 rfl sizeP) rfl ⟨rfl,below_only (g:=w.heap.size+1) D0 hgr (by omega)⟩
def KP.addk(k:K)(p q:KP):KP :=
 kquo (ksub (kmul (kadd p.y p.x) (kadd q.y q.x)) (kmul (ksub p.y p.x) (ksub q.y q.x))) (kadd (kmul (kadd p.z p.z) q.z) (kmul (kmul p.t k) q.t)) (kadd (kmul (kadd p.y p.x) (kadd q.y q.x)) (kmul (ksub p.y p.x) (ksub q.y q.x))) (ksub (kmul (kadd p.z p.z) q.z) (kmul (kmul p.t k) q.t))
set_option maxRecDepth 100000 in
set_option maxHeartbeats 4000000 in
theorem Add_walk(p q:KP)(k2:K)(w:World)(hr:∀z,Below w.heap.size w z→z.rangeAt 2 0 k2.v.toList):Calls Tryz.prog 14 #[.agg p.v,.agg q.v] w fun e w'=>e=.returned (.agg (KP.addk k2 p q).v)∧Below w.heap.size w w':=by
 go_enter Tryz.func14,Tryz.ntmps14
 go_upto_region 1 with(fail)
 refine at_box3 _ _ _ _ _ _ _ ?_
 intro W0 B0 B1 B2 D0 hs
 refine wp_region_o (sp:=[some (.pointer (some ⟨w.heap.size,5,none⟩)),some (.agg (K.v p.y)),some (.pointer (some ⟨w.heap.size,0,none⟩)),some (.agg (K.v p.x)),some (.agg (K.v (kadd p.y p.x))),some (.pointer (some ⟨w.heap.size+1,5,none⟩)),some (.agg (K.v q.y)),some (.pointer (some ⟨w.heap.size+1,0,none⟩)),some (.agg (K.v q.x)),some (.agg (K.v (kadd q.y q.x))),some (.agg (K.v (kmul ((kadd p.y p.x)) ((kadd q.y q.x))))),none,none]) (vs:=[⟨11,12,31,z5,(K.v (kmul ((kadd p.y p.x)) ((kadd q.y q.x))))⟩]) (out:=none) (by kernel_rfl) (by kernel_rfl) (by kernel_rfl) (by kernel_rfl) (by kernel_rfl) (by simp) ?_ ?_
 ·refine Each.cons ?_<|Each.cons ?_<|Each.cons ?_<|Each.cons ?_<|Each.cons ?_<|Each.cons ?_<|Each.cons ?_<|Each.cons ?_<|Each.cons ?_<|Each.cons ?_<|Each.cons ?_<|Each.cons ?_<|Each.cons ?_<|Each.nil
  ·exact OV.val (.pointer (some ⟨w.heap.size,5,none⟩)) (by kernel_rfl) (fun γ=>by kernel_rfl) (by kernel_rfl) (fun γ w=>by kernel_rfl)
  ·exact OV.load w.heap.size 5 5 33 (KP.v p) B0 (by simp) ((K.v p.y)) 31 (.tmp 9) _ (by kernel_rfl) (fun γ=>by kernel_rfl) (by kernel_rfl) rfl (fun γ=>by kernel_rfl) (by kernel_rfl) (by kernel_rfl) Tryz.underlying31 rfl sizeE
  ·exact OV.val (.pointer (some ⟨w.heap.size,0,none⟩)) (by kernel_rfl) (fun γ=>by kernel_rfl) (by kernel_rfl) (fun γ w=>by kernel_rfl)
  ·exact OV.load w.heap.size 0 5 33 (KP.v p) B0 (by simp) ((K.v p.x)) 31 (.tmp 11) _ (by kernel_rfl) (fun γ=>by kernel_rfl) (by kernel_rfl) rfl (fun γ=>by kernel_rfl) (by kernel_rfl) (by kernel_rfl) Tryz.underlying31 rfl sizeE
  ·exact OV.call 39 #[.agg (K.v p.y),.agg (K.v p.x)] (.agg (K.v (kadd p.y p.x))) (by kernel_rfl) (fun γ=>by kernel_rfl) (by kernel_rfl) (fun γ w=>by kernel_rfl) (fun w _=>cadd p.y p.x w)
  ·exact OV.val (.pointer (some ⟨w.heap.size+1,5,none⟩)) (by kernel_rfl) (fun γ=>by kernel_rfl) (by kernel_rfl) (fun γ w=>by kernel_rfl)
  ·exact OV.load (w.heap.size+1) 5 5 33 (KP.v q) B1 (by simp) ((K.v q.y)) 31 (.tmp 14) _ (by kernel_rfl) (fun γ=>by kernel_rfl) (by kernel_rfl) rfl (fun γ=>by kernel_rfl) (by kernel_rfl) (by kernel_rfl) Tryz.underlying31 rfl sizeE
  ·exact OV.val (.pointer (some ⟨w.heap.size+1,0,none⟩)) (by kernel_rfl) (fun γ=>by kernel_rfl) (by kernel_rfl) (fun γ w=>by kernel_rfl)
  ·exact OV.load (w.heap.size+1) 0 5 33 (KP.v q) B1 (by simp) ((K.v q.x)) 31 (.tmp 16) _ (by kernel_rfl) (fun γ=>by kernel_rfl) (by kernel_rfl) rfl (fun γ=>by kernel_rfl) (by kernel_rfl) (by kernel_rfl) Tryz.underlying31 rfl sizeE
  ·exact OV.call 39 #[.agg (K.v q.y),.agg (K.v q.x)] (.agg (K.v (kadd q.y q.x))) (by kernel_rfl) (fun γ=>by kernel_rfl) (by kernel_rfl) (fun γ w=>by kernel_rfl) (fun w _=>cadd q.y q.x w)
  ·exact OV.call 38 #[.agg (K.v (kadd p.y p.x)),.agg (K.v (kadd q.y q.x))] (.agg (K.v (kmul ((kadd p.y p.x)) ((kadd q.y q.x))))) (by kernel_rfl) (fun γ=>by kernel_rfl) (by kernel_rfl) (fun γ w=>by kernel_rfl) (fun w _=>cmul ((kadd p.y p.x)) ((kadd q.y q.x)) w)
  ·exact OV.new_ ⟨11,12,31,z5,(K.v (kmul ((kadd p.y p.x)) ((kadd q.y q.x))))⟩ (List.Mem.head _) rfl (by kernel_rfl) (by simp) (by kernel_rfl) (fun γ=>by kernel_rfl) (fun γ w=>by kernel_rfl)
  ·exact OV.put_ ⟨11,12,31,z5,(K.v (kmul ((kadd p.y p.x)) ((kadd q.y q.x))))⟩ (List.Mem.head _) rfl (by kernel_rfl) (by simp) (by kernel_rfl) (fun γ=>by kernel_rfl) (by kernel_rfl) 31 (.tmp 5) (.tmp 19) rfl (fun γ=>by kernel_rfl) (fun γ=>by kernel_rfl) (by kernel_rfl) sizeE (K.ones _)
 intro γ W1 hgr1 hat hx2 hres
 clear hx2
 have B3:=B0.grown hgr1 (by simp)
 have B4:=B1.grown hgr1 (by simp)
 have B5:=B2.grown hgr1 (by simp)
 obtain⟨h1_0,eh1_0,lh1_0,B6⟩:=hat _ (List.Mem.head _)
 have D1:=below_none D0 hgr1
 have z1:=hgr1.size
 dsimp only at eh1_0
 clear hat hres hgr1 D0 B0 B1 B2
 simp only[fr,fill,exa,spx,List.map_cons,List.map_nil,List.getElem?_cons_zero,List.getElem?_cons_succ,List.setIfInBounds_toArray,List.set_cons_zero,List.set_cons_succ,eh1_0]
 go_upto_region 2 with(fail)
 refine wp_region_o (sp:=[some (.pointer (some ⟨w.heap.size,5,none⟩)),some (.agg (K.v p.y)),some (.pointer (some ⟨w.heap.size,0,none⟩)),some (.agg (K.v p.x)),some (.agg (K.v (ksub p.y p.x))),some (.pointer (some ⟨w.heap.size+1,5,none⟩)),some (.agg (K.v q.y)),some (.pointer (some ⟨w.heap.size+1,0,none⟩)),some (.agg (K.v q.x)),some (.agg (K.v (ksub q.y q.x))),some (.agg (K.v (kmul ((ksub p.y p.x)) ((ksub q.y q.x))))),none,none]) (vs:=[⟨11,12,31,z5,(K.v (kmul ((ksub p.y p.x)) ((ksub q.y q.x))))⟩]) (out:=none) (by kernel_rfl) (by kernel_rfl) (by kernel_rfl) (by kernel_rfl) (by kernel_rfl) (by simp) ?_ ?_
 ·refine Each.cons ?_<|Each.cons ?_<|Each.cons ?_<|Each.cons ?_<|Each.cons ?_<|Each.cons ?_<|Each.cons ?_<|Each.cons ?_<|Each.cons ?_<|Each.cons ?_<|Each.cons ?_<|Each.cons ?_<|Each.cons ?_<|Each.nil
  ·exact OV.val (.pointer (some ⟨w.heap.size,5,none⟩)) (by kernel_rfl) (fun γ=>by kernel_rfl) (by kernel_rfl) (fun γ w=>by kernel_rfl)
  ·exact OV.load w.heap.size 5 5 33 (KP.v p) B3 (by simp) ((K.v p.y)) 31 (.tmp 20) _ (by kernel_rfl) (fun γ=>by kernel_rfl) (by kernel_rfl) rfl (fun γ=>by kernel_rfl) (by kernel_rfl) (by kernel_rfl) Tryz.underlying31 rfl sizeE
  ·exact OV.val (.pointer (some ⟨w.heap.size,0,none⟩)) (by kernel_rfl) (fun γ=>by kernel_rfl) (by kernel_rfl) (fun γ w=>by kernel_rfl)
  ·exact OV.load w.heap.size 0 5 33 (KP.v p) B3 (by simp) ((K.v p.x)) 31 (.tmp 22) _ (by kernel_rfl) (fun γ=>by kernel_rfl) (by kernel_rfl) rfl (fun γ=>by kernel_rfl) (by kernel_rfl) (by kernel_rfl) Tryz.underlying31 rfl sizeE
  ·exact OV.call 40 #[.agg (K.v p.y),.agg (K.v p.x)] (.agg (K.v (ksub p.y p.x))) (by kernel_rfl) (fun γ=>by kernel_rfl) (by kernel_rfl) (fun γ w=>by kernel_rfl) (fun w _=>csub p.y p.x w)
  ·exact OV.val (.pointer (some ⟨w.heap.size+1,5,none⟩)) (by kernel_rfl) (fun γ=>by kernel_rfl) (by kernel_rfl) (fun γ w=>by kernel_rfl)
  ·exact OV.load (w.heap.size+1) 5 5 33 (KP.v q) B4 (by simp) ((K.v q.y)) 31 (.tmp 25) _ (by kernel_rfl) (fun γ=>by kernel_rfl) (by kernel_rfl) rfl (fun γ=>by kernel_rfl) (by kernel_rfl) (by kernel_rfl) Tryz.underlying31 rfl sizeE
  ·exact OV.val (.pointer (some ⟨w.heap.size+1,0,none⟩)) (by kernel_rfl) (fun γ=>by kernel_rfl) (by kernel_rfl) (fun γ w=>by kernel_rfl)
  ·exact OV.load (w.heap.size+1) 0 5 33 (KP.v q) B4 (by simp) ((K.v q.x)) 31 (.tmp 27) _ (by kernel_rfl) (fun γ=>by kernel_rfl) (by kernel_rfl) rfl (fun γ=>by kernel_rfl) (by kernel_rfl) (by kernel_rfl) Tryz.underlying31 rfl sizeE
  ·exact OV.call 40 #[.agg (K.v q.y),.agg (K.v q.x)] (.agg (K.v (ksub q.y q.x))) (by kernel_rfl) (fun γ=>by kernel_rfl) (by kernel_rfl) (fun γ w=>by kernel_rfl) (fun w _=>csub q.y q.x w)
  ·exact OV.call 38 #[.agg (K.v (ksub p.y p.x)),.agg (K.v (ksub q.y q.x))] (.agg (K.v (kmul ((ksub p.y p.x)) ((ksub q.y q.x))))) (by kernel_rfl) (fun γ=>by kernel_rfl) (by kernel_rfl) (fun γ w=>by kernel_rfl) (fun w _=>cmul ((ksub p.y p.x)) ((ksub q.y q.x)) w)
  ·exact OV.new_ ⟨11,12,31,z5,(K.v (kmul ((ksub p.y p.x)) ((ksub q.y q.x))))⟩ (List.Mem.head _) rfl (by kernel_rfl) (by simp) (by kernel_rfl) (fun γ=>by kernel_rfl) (fun γ w=>by kernel_rfl)
  ·exact OV.put_ ⟨11,12,31,z5,(K.v (kmul ((ksub p.y p.x)) ((ksub q.y q.x))))⟩ (List.Mem.head _) rfl (by kernel_rfl) (by simp) (by kernel_rfl) (fun γ=>by kernel_rfl) (by kernel_rfl) 31 (.tmp 6) (.tmp 30) rfl (fun γ=>by kernel_rfl) (fun γ=>by kernel_rfl) (by kernel_rfl) sizeE (K.ones _)
 intro γ W2 hgr2 hat hx2 hres
 clear hx2
 have B7:=B3.grown hgr2 (by simp)
 have B8:=B4.grown hgr2 (by simp)
 have B9:=B5.grown hgr2 (by simp)
 have B10:=B6.grown hgr2 (by simp)
 obtain⟨h2_0,eh2_0,lh2_0,B11⟩:=hat _ (List.Mem.head _)
 have D2:=below_none D1 hgr2
 have z2:=hgr2.size
 dsimp only at eh2_0
 clear hat hres hgr2 D1 B3 B4 B5 B6
 simp only[fr,fill,exa,spx,List.map_cons,List.map_nil,List.getElem?_cons_zero,List.getElem?_cons_succ,List.setIfInBounds_toArray,List.set_cons_zero,List.set_cons_succ,eh2_0]
 go_upto_region 3 with(fail)
 refine wp_region_o (sp:=[some (.pointer (some ⟨w.heap.size,10,none⟩)),some (.agg (K.v p.z)),some (.pointer (some ⟨w.heap.size,10,none⟩)),some (.agg (K.v p.z)),some (.agg (K.v (kadd p.z p.z))),some (.pointer (some ⟨w.heap.size+1,10,none⟩)),some (.agg (K.v q.z)),some (.agg (K.v (kmul ((kadd p.z p.z)) q.z))),none,none]) (vs:=[⟨8,9,31,z5,(K.v (kmul ((kadd p.z p.z)) q.z))⟩]) (out:=none) (by kernel_rfl) (by kernel_rfl) (by kernel_rfl) (by kernel_rfl) (by kernel_rfl) (by simp) ?_ ?_
 ·refine Each.cons ?_<|Each.cons ?_<|Each.cons ?_<|Each.cons ?_<|Each.cons ?_<|Each.cons ?_<|Each.cons ?_<|Each.cons ?_<|Each.cons ?_<|Each.cons ?_<|Each.nil
  ·exact OV.val (.pointer (some ⟨w.heap.size,10,none⟩)) (by kernel_rfl) (fun γ=>by kernel_rfl) (by kernel_rfl) (fun γ w=>by kernel_rfl)
  ·exact OV.load w.heap.size 10 5 33 (KP.v p) B7 (by simp) ((K.v p.z)) 31 (.tmp 31) _ (by kernel_rfl) (fun γ=>by kernel_rfl) (by kernel_rfl) rfl (fun γ=>by kernel_rfl) (by kernel_rfl) (by kernel_rfl) Tryz.underlying31 rfl sizeE
  ·exact OV.val (.pointer (some ⟨w.heap.size,10,none⟩)) (by kernel_rfl) (fun γ=>by kernel_rfl) (by kernel_rfl) (fun γ w=>by kernel_rfl)
  ·exact OV.load w.heap.size 10 5 33 (KP.v p) B7 (by simp) ((K.v p.z)) 31 (.tmp 33) _ (by kernel_rfl) (fun γ=>by kernel_rfl) (by kernel_rfl) rfl (fun γ=>by kernel_rfl) (by kernel_rfl) (by kernel_rfl) Tryz.underlying31 rfl sizeE
  ·exact OV.call 39 #[.agg (K.v p.z),.agg (K.v p.z)] (.agg (K.v (kadd p.z p.z))) (by kernel_rfl) (fun γ=>by kernel_rfl) (by kernel_rfl) (fun γ w=>by kernel_rfl) (fun w _=>cadd p.z p.z w)
  ·exact OV.val (.pointer (some ⟨w.heap.size+1,10,none⟩)) (by kernel_rfl) (fun γ=>by kernel_rfl) (by kernel_rfl) (fun γ w=>by kernel_rfl)
  ·exact OV.load (w.heap.size+1) 10 5 33 (KP.v q) B8 (by simp) ((K.v q.z)) 31 (.tmp 36) _ (by kernel_rfl) (fun γ=>by kernel_rfl) (by kernel_rfl) rfl (fun γ=>by kernel_rfl) (by kernel_rfl) (by kernel_rfl) Tryz.underlying31 rfl sizeE
  ·exact OV.call 38 #[.agg (K.v (kadd p.z p.z)),.agg (K.v q.z)] (.agg (K.v (kmul ((kadd p.z p.z)) q.z))) (by kernel_rfl) (fun γ=>by kernel_rfl) (by kernel_rfl) (fun γ w=>by kernel_rfl) (fun w _=>cmul ((kadd p.z p.z)) q.z w)
  ·exact OV.new_ ⟨8,9,31,z5,(K.v (kmul ((kadd p.z p.z)) q.z))⟩ (List.Mem.head _) rfl (by kernel_rfl) (by simp) (by kernel_rfl) (fun γ=>by kernel_rfl) (fun γ w=>by kernel_rfl)
  ·exact OV.put_ ⟨8,9,31,z5,(K.v (kmul ((kadd p.z p.z)) q.z))⟩ (List.Mem.head _) rfl (by kernel_rfl) (by simp) (by kernel_rfl) (fun γ=>by kernel_rfl) (by kernel_rfl) 31 (.tmp 7) (.tmp 38) rfl (fun γ=>by kernel_rfl) (fun γ=>by kernel_rfl) (by kernel_rfl) sizeE (K.ones _)
 intro γ W3 hgr3 hat hx2 hres
 clear hx2
 have B12:=B7.grown hgr3 (by simp)
 have B13:=B8.grown hgr3 (by simp)
 have B14:=B9.grown hgr3 (by simp)
 have B15:=B10.grown hgr3 (by simp)
 have B16:=B11.grown hgr3 (by simp)
 obtain⟨h3_0,eh3_0,lh3_0,B17⟩:=hat _ (List.Mem.head _)
 have D3:=below_none D2 hgr3
 have z3:=hgr3.size
 dsimp only at eh3_0
 clear hat hres hgr3 D2 B7 B8 B9 B10 B11
 simp only[fr,fill,exa,spx,List.map_cons,List.map_nil,List.getElem?_cons_zero,List.getElem?_cons_succ,List.setIfInBounds_toArray,List.set_cons_zero,List.set_cons_succ,eh3_0]
 go_upto_region 4 with(fail)
 refine wp_region_o (sp:=[some (.pointer (some ⟨w.heap.size,15,none⟩)),some (.agg (K.v p.t)),some (.agg (K.v k2)),some (.agg (K.v (kmul p.t k2))),some (.pointer (some ⟨w.heap.size+1,15,none⟩)),some (.agg (K.v q.t)),some (.agg (K.v (kmul ((kmul p.t k2)) q.t))),none,none]) (vs:=[⟨7,8,31,z5,(K.v (kmul ((kmul p.t k2)) q.t))⟩]) (out:=none) (by kernel_rfl) (by kernel_rfl) (by kernel_rfl) (by kernel_rfl) (by kernel_rfl) (by simp) ?_ ?_
 ·refine Each.cons ?_<|Each.cons ?_<|Each.cons ?_<|Each.cons ?_<|Each.cons ?_<|Each.cons ?_<|Each.cons ?_<|Each.cons ?_<|Each.cons ?_<|Each.nil
  ·exact OV.val (.pointer (some ⟨w.heap.size,15,none⟩)) (by kernel_rfl) (fun γ=>by kernel_rfl) (by kernel_rfl) (fun γ w=>by kernel_rfl)
  ·exact OV.load w.heap.size 15 5 33 (KP.v p) B12 (by simp) ((K.v p.t)) 31 (.tmp 39) _ (by kernel_rfl) (fun γ=>by kernel_rfl) (by kernel_rfl) rfl (fun γ=>by kernel_rfl) (by kernel_rfl) (by kernel_rfl) Tryz.underlying31 rfl sizeE
  ·exact OV.range 2 _ (hr _ D3) (by simp) 31 (.global 2) (by kernel_rfl) (fun γ=>by kernel_rfl) (by kernel_rfl) rfl (fun γ=>by kernel_rfl) Tryz.underlying31 rfl sizeE
  ·exact OV.call 38 #[.agg (K.v p.t),.agg (K.v k2)] (.agg (K.v (kmul p.t k2))) (by kernel_rfl) (fun γ=>by kernel_rfl) (by kernel_rfl) (fun γ w=>by kernel_rfl) (fun w _=>cmul p.t k2 w)
  ·exact OV.val (.pointer (some ⟨w.heap.size+1,15,none⟩)) (by kernel_rfl) (fun γ=>by kernel_rfl) (by kernel_rfl) (fun γ w=>by kernel_rfl)
  ·exact OV.load (w.heap.size+1) 15 5 33 (KP.v q) B13 (by simp) ((K.v q.t)) 31 (.tmp 43) _ (by kernel_rfl) (fun γ=>by kernel_rfl) (by kernel_rfl) rfl (fun γ=>by kernel_rfl) (by kernel_rfl) (by kernel_rfl) Tryz.underlying31 rfl sizeE
  ·exact OV.call 38 #[.agg (K.v (kmul p.t k2)),.agg (K.v q.t)] (.agg (K.v (kmul ((kmul p.t k2)) q.t))) (by kernel_rfl) (fun γ=>by kernel_rfl) (by kernel_rfl) (fun γ w=>by kernel_rfl) (fun w _=>cmul ((kmul p.t k2)) q.t w)
  ·exact OV.new_ ⟨7,8,31,z5,(K.v (kmul ((kmul p.t k2)) q.t))⟩ (List.Mem.head _) rfl (by kernel_rfl) (by simp) (by kernel_rfl) (fun γ=>by kernel_rfl) (fun γ w=>by kernel_rfl)
  ·exact OV.put_ ⟨7,8,31,z5,(K.v (kmul ((kmul p.t k2)) q.t))⟩ (List.Mem.head _) rfl (by kernel_rfl) (by simp) (by kernel_rfl) (fun γ=>by kernel_rfl) (by kernel_rfl) 31 (.tmp 8) (.tmp 45) rfl (fun γ=>by kernel_rfl) (fun γ=>by kernel_rfl) (by kernel_rfl) sizeE (K.ones _)
 intro γ W4 hgr4 hat hx2 hres
 clear hx2
 have B18:=B12.grown hgr4 (by simp)
 have B19:=B13.grown hgr4 (by simp)
 have B20:=B14.grown hgr4 (by simp)
 have B21:=B15.grown hgr4 (by simp)
 have B22:=B16.grown hgr4 (by simp)
 have B23:=B17.grown hgr4 (by simp)
 obtain⟨h4_0,eh4_0,lh4_0,B24⟩:=hat _ (List.Mem.head _)
 have D4:=below_none D3 hgr4
 have z4:=hgr4.size
 dsimp only at eh4_0
 clear hat hres hgr4 D3 B12 B13 B14 B15 B16 B17
 simp only[fr,fill,exa,spx,List.map_cons,List.map_nil,List.getElem?_cons_zero,List.getElem?_cons_succ,List.setIfInBounds_toArray,List.set_cons_zero,List.set_cons_succ,eh4_0]
 go_upto_region 5 with(fail)
 refine wp_region_o (sp:=[some (.agg (K.v (kmul ((kadd p.y p.x)) ((kadd q.y q.x))))),some (.agg (K.v (kmul ((ksub p.y p.x)) ((ksub q.y q.x))))),some (.agg (K.v (ksub ((kmul ((kadd p.y p.x)) ((kadd q.y q.x)))) ((kmul ((ksub p.y p.x)) ((ksub q.y q.x))))))),some (.agg (K.v (kmul ((kadd p.z p.z)) q.z))),some (.agg (K.v (kmul ((kmul p.t k2)) q.t))),some (.agg (K.v (kadd ((kmul ((kadd p.z p.z)) q.z)) ((kmul ((kmul p.t k2)) q.t))))),some (.agg (K.v (kmul ((kadd p.y p.x)) ((kadd q.y q.x))))),some (.agg (K.v (kmul ((ksub p.y p.x)) ((ksub q.y q.x))))),some (.agg (K.v (kadd ((kmul ((kadd p.y p.x)) ((kadd q.y q.x)))) ((kmul ((ksub p.y p.x)) ((ksub q.y q.x))))))),some (.agg (K.v (kmul ((kadd p.z p.z)) q.z))),some (.agg (K.v (kmul ((kmul p.t k2)) q.t))),some (.agg (K.v (ksub ((kmul ((kadd p.z p.z)) q.z)) ((kmul ((kmul p.t k2)) q.t))))),some (.agg (KP.v (kquo ((ksub ((kmul ((kadd p.y p.x)) ((kadd q.y q.x)))) ((kmul ((ksub p.y p.x)) ((ksub q.y q.x)))))) ((kadd ((kmul ((kadd p.z p.z)) q.z)) ((kmul ((kmul p.t k2)) q.t)))) ((kadd ((kmul ((kadd p.y p.x)) ((kadd q.y q.x)))) ((kmul ((ksub p.y p.x)) ((ksub q.y q.x)))))) ((ksub ((kmul ((kadd p.z p.z)) q.z)) ((kmul ((kmul p.t k2)) q.t))))))),none]) (vs:=[]) (out:=(some ⟨13,w.heap.size+1+1,33,z20,(KP.v (kquo ((ksub ((kmul ((kadd p.y p.x)) ((kadd q.y q.x)))) ((kmul ((ksub p.y p.x)) ((ksub q.y q.x)))))) ((kadd ((kmul ((kadd p.z p.z)) q.z)) ((kmul ((kmul p.t k2)) q.t)))) ((kadd ((kmul ((kadd p.y p.x)) ((kadd q.y q.x)))) ((kmul ((ksub p.y p.x)) ((ksub q.y q.x)))))) ((ksub ((kmul ((kadd p.z p.z)) q.z)) ((kmul ((kmul p.t k2)) q.t))))))⟩)) (by kernel_rfl) (by kernel_rfl) (by kernel_rfl) (by kernel_rfl) (by kernel_rfl) (fun r hr=>by obtain rfl:_=r:=Option.some.inj hr;exact⟨show w.heap.size+1+1 < _ from by omega,B20,Nat.le_of_ble_eq_true (by kernel_rfl)⟩) ?_ ?_
 ·refine Each.cons ?_<|Each.cons ?_<|Each.cons ?_<|Each.cons ?_<|Each.cons ?_<|Each.cons ?_<|Each.cons ?_<|Each.cons ?_<|Each.cons ?_<|Each.cons ?_<|Each.cons ?_<|Each.cons ?_<|Each.cons ?_<|Each.cons ?_<|Each.nil
  ·exact OV.load h1_0 0 5 31 (K.v ((kmul ((kadd p.y p.x)) ((kadd q.y q.x))))) B21 (by simp only[Option.map_some,ne_eq,Option.some.injEq];omega) ((K.v (kmul ((kadd p.y p.x)) ((kadd q.y q.x))))) 31 (.tmp 5) _ (by kernel_rfl) (fun γ=>by kernel_rfl) (by kernel_rfl) rfl (fun γ=>by kernel_rfl) (by kernel_rfl) (by kernel_rfl) Tryz.underlying31 rfl sizeE
  ·exact OV.load h2_0 0 5 31 (K.v ((kmul ((ksub p.y p.x)) ((ksub q.y q.x))))) B22 (by simp only[Option.map_some,ne_eq,Option.some.injEq];omega) ((K.v (kmul ((ksub p.y p.x)) ((ksub q.y q.x))))) 31 (.tmp 6) _ (by kernel_rfl) (fun γ=>by kernel_rfl) (by kernel_rfl) rfl (fun γ=>by kernel_rfl) (by kernel_rfl) (by kernel_rfl) Tryz.underlying31 rfl sizeE
  ·exact OV.call 40 #[.agg (K.v (kmul ((kadd p.y p.x)) ((kadd q.y q.x)))),.agg (K.v (kmul ((ksub p.y p.x)) ((ksub q.y q.x))))] (.agg (K.v (ksub ((kmul ((kadd p.y p.x)) ((kadd q.y q.x)))) ((kmul ((ksub p.y p.x)) ((ksub q.y q.x))))))) (by kernel_rfl) (fun γ=>by kernel_rfl) (by kernel_rfl) (fun γ w=>by kernel_rfl) (fun w _=>csub ((kmul ((kadd p.y p.x)) ((kadd q.y q.x)))) ((kmul ((ksub p.y p.x)) ((ksub q.y q.x)))) w)
  ·exact OV.load h3_0 0 5 31 (K.v ((kmul ((kadd p.z p.z)) q.z))) B23 (by simp only[Option.map_some,ne_eq,Option.some.injEq];omega) ((K.v (kmul ((kadd p.z p.z)) q.z))) 31 (.tmp 7) _ (by kernel_rfl) (fun γ=>by kernel_rfl) (by kernel_rfl) rfl (fun γ=>by kernel_rfl) (by kernel_rfl) (by kernel_rfl) Tryz.underlying31 rfl sizeE
  ·exact OV.load h4_0 0 5 31 (K.v ((kmul ((kmul p.t k2)) q.t))) B24 (by simp only[Option.map_some,ne_eq,Option.some.injEq];omega) ((K.v (kmul ((kmul p.t k2)) q.t))) 31 (.tmp 8) _ (by kernel_rfl) (fun γ=>by kernel_rfl) (by kernel_rfl) rfl (fun γ=>by kernel_rfl) (by kernel_rfl) (by kernel_rfl) Tryz.underlying31 rfl sizeE
  ·exact OV.call 39 #[.agg (K.v (kmul ((kadd p.z p.z)) q.z)),.agg (K.v (kmul ((kmul p.t k2)) q.t))] (.agg (K.v (kadd ((kmul ((kadd p.z p.z)) q.z)) ((kmul ((kmul p.t k2)) q.t))))) (by kernel_rfl) (fun γ=>by kernel_rfl) (by kernel_rfl) (fun γ w=>by kernel_rfl) (fun w _=>cadd ((kmul ((kadd p.z p.z)) q.z)) ((kmul ((kmul p.t k2)) q.t)) w)
  ·exact OV.load h1_0 0 5 31 (K.v ((kmul ((kadd p.y p.x)) ((kadd q.y q.x))))) B21 (by simp only[Option.map_some,ne_eq,Option.some.injEq];omega) ((K.v (kmul ((kadd p.y p.x)) ((kadd q.y q.x))))) 31 (.tmp 5) _ (by kernel_rfl) (fun γ=>by kernel_rfl) (by kernel_rfl) rfl (fun γ=>by kernel_rfl) (by kernel_rfl) (by kernel_rfl) Tryz.underlying31 rfl sizeE
  ·exact OV.load h2_0 0 5 31 (K.v ((kmul ((ksub p.y p.x)) ((ksub q.y q.x))))) B22 (by simp only[Option.map_some,ne_eq,Option.some.injEq];omega) ((K.v (kmul ((ksub p.y p.x)) ((ksub q.y q.x))))) 31 (.tmp 6) _ (by kernel_rfl) (fun γ=>by kernel_rfl) (by kernel_rfl) rfl (fun γ=>by kernel_rfl) (by kernel_rfl) (by kernel_rfl) Tryz.underlying31 rfl sizeE
  ·exact OV.call 39 #[.agg (K.v (kmul ((kadd p.y p.x)) ((kadd q.y q.x)))),.agg (K.v (kmul ((ksub p.y p.x)) ((ksub q.y q.x))))] (.agg (K.v (kadd ((kmul ((kadd p.y p.x)) ((kadd q.y q.x)))) ((kmul ((ksub p.y p.x)) ((ksub q.y q.x))))))) (by kernel_rfl) (fun γ=>by kernel_rfl) (by kernel_rfl) (fun γ w=>by kernel_rfl) (fun w _=>cadd ((kmul ((kadd p.y p.x)) ((kadd q.y q.x)))) ((kmul ((ksub p.y p.x)) ((ksub q.y q.x)))) w)
  ·exact OV.load h3_0 0 5 31 (K.v ((kmul ((kadd p.z p.z)) q.z))) B23 (by simp only[Option.map_some,ne_eq,Option.some.injEq];omega) ((K.v (kmul ((kadd p.z p.z)) q.z))) 31 (.tmp 7) _ (by kernel_rfl) (fun γ=>by kernel_rfl) (by kernel_rfl) rfl (fun γ=>by kernel_rfl) (by kernel_rfl) (by kernel_rfl) Tryz.underlying31 rfl sizeE
  ·exact OV.load h4_0 0 5 31 (K.v ((kmul ((kmul p.t k2)) q.t))) B24 (by simp only[Option.map_some,ne_eq,Option.some.injEq];omega) ((K.v (kmul ((kmul p.t k2)) q.t))) 31 (.tmp 8) _ (by kernel_rfl) (fun γ=>by kernel_rfl) (by kernel_rfl) rfl (fun γ=>by kernel_rfl) (by kernel_rfl) (by kernel_rfl) Tryz.underlying31 rfl sizeE
  ·exact OV.call 40 #[.agg (K.v (kmul ((kadd p.z p.z)) q.z)),.agg (K.v (kmul ((kmul p.t k2)) q.t))] (.agg (K.v (ksub ((kmul ((kadd p.z p.z)) q.z)) ((kmul ((kmul p.t k2)) q.t))))) (by kernel_rfl) (fun γ=>by kernel_rfl) (by kernel_rfl) (fun γ w=>by kernel_rfl) (fun w _=>csub ((kmul ((kadd p.z p.z)) q.z)) ((kmul ((kmul p.t k2)) q.t)) w)
  ·exact OV.call 41 #[.agg (K.v (ksub ((kmul ((kadd p.y p.x)) ((kadd q.y q.x)))) ((kmul ((ksub p.y p.x)) ((ksub q.y q.x)))))),.agg (K.v (kadd ((kmul ((kadd p.z p.z)) q.z)) ((kmul ((kmul p.t k2)) q.t)))),.agg (K.v (kadd ((kmul ((kadd p.y p.x)) ((kadd q.y q.x)))) ((kmul ((ksub p.y p.x)) ((ksub q.y q.x)))))),.agg (K.v (ksub ((kmul ((kadd p.z p.z)) q.z)) ((kmul ((kmul p.t k2)) q.t))))] (.agg (KP.v (kquo ((ksub ((kmul ((kadd p.y p.x)) ((kadd q.y q.x)))) ((kmul ((ksub p.y p.x)) ((ksub q.y q.x)))))) ((kadd ((kmul ((kadd p.z p.z)) q.z)) ((kmul ((kmul p.t k2)) q.t)))) ((kadd ((kmul ((kadd p.y p.x)) ((kadd q.y q.x)))) ((kmul ((ksub p.y p.x)) ((ksub q.y q.x)))))) ((ksub ((kmul ((kadd p.z p.z)) q.z)) ((kmul ((kmul p.t k2)) q.t))))))) (by kernel_rfl) (fun γ=>by kernel_rfl) (by kernel_rfl) (fun γ w=>by kernel_rfl) (fun w _=>quotients_any ((ksub ((kmul ((kadd p.y p.x)) ((kadd q.y q.x)))) ((kmul ((ksub p.y p.x)) ((ksub q.y q.x)))))) ((kadd ((kmul ((kadd p.z p.z)) q.z)) ((kmul ((kmul p.t k2)) q.t)))) ((kadd ((kmul ((kadd p.y p.x)) ((kadd q.y q.x)))) ((kmul ((ksub p.y p.x)) ((ksub q.y q.x)))))) ((ksub ((kmul ((kadd p.z p.z)) q.z)) ((kmul ((kmul p.t k2)) q.t)))) w)
  ·exact OV.res_ rfl (by kernel_rfl) (by kernel_rfl) (fun γ=>by kernel_rfl) 33 (.tmp 4) (.tmp 58) rfl (fun γ=>by kernel_rfl) (fun γ=>by kernel_rfl) (by kernel_rfl) sizeP (KP.ones _)
 intro γ w' hgr hx1 hx2 hres
 clear hx1 hx2
 have hb:=hres _ rfl
 rename_i hk0
 refine hk0 _ _ (wp_ret ?_)
 refine bodyPost_ret (v:=.agg (KP.addk k2 p q).v) (results_cell 4 33 _ _ _ Tryz.results14 (by kernel_rfl) hb Tryz.underlying33 rfl sizeP) rfl ⟨rfl,below_only (g:=w.heap.size+1+1) D4 hgr (by omega)⟩
theorem Add_any(p q:KP)(w:World)(tab:TabE w):Calls Tryz.prog 14 #[.agg p.v,.agg q.v] w fun e w'=>e=.returned (.agg (p.add q).v)∧Below w.heap.size w w' :=
 Add_walk p q kd2 w fun z hz=>c5_range kd2_v (tab.below hz).d2
set_option maxRecDepth 100000 in
set_option maxHeartbeats 4000000 in
theorem twice_any(p:KP)(w:World):Calls Tryz.prog 61 #[.agg p.v] w fun e w'=>e=.returned (.agg p.twice.v)∧Below w.heap.size w w':=by
 go_enter Tryz.func61,Tryz.ntmps61
 go_upto_region 1 with(fail)
 refine at_box2 _ _ _ _ _ ?_
 intro W0 B0 B1 D0 hs
 refine wp_region_o (sp:=[some (.pointer (some ⟨w.heap.size,0,none⟩)),some (.agg (K.v p.x)),some (.agg (K.v (kmul p.x p.x))),some (.pointer (some ⟨w.heap.size,5,none⟩)),some (.agg (K.v p.y)),some (.agg (K.v (kmul p.y p.y))),some (.pointer (some ⟨w.heap.size,10,none⟩)),some (.agg (K.v p.z)),some (.agg (K.v (kmul p.z p.z))),none,none,none,none,none,none]) (vs:=[⟨9,12,31,z5,(K.v (kmul p.x p.x))⟩,⟨10,13,31,z5,(K.v (kmul p.y p.y))⟩,⟨11,14,31,z5,(K.v (kmul p.z p.z))⟩]) (out:=none) (by kernel_rfl) (by kernel_rfl) (by kernel_rfl) (by kernel_rfl) (by kernel_rfl) (by simp) ?_ ?_
 ·refine Each.cons ?_<|Each.cons ?_<|Each.cons ?_<|Each.cons ?_<|Each.cons ?_<|Each.cons ?_<|Each.cons ?_<|Each.cons ?_<|Each.cons ?_<|Each.cons ?_<|Each.cons ?_<|Each.cons ?_<|Each.cons ?_<|Each.cons ?_<|Each.cons ?_<|Each.nil
  ·exact OV.val (.pointer (some ⟨w.heap.size,0,none⟩)) (by kernel_rfl) (fun γ=>by kernel_rfl) (by kernel_rfl) (fun γ w=>by kernel_rfl)
  ·exact OV.load w.heap.size 0 5 33 (KP.v p) B0 (by simp) ((K.v p.x)) 31 (.tmp 8) _ (by kernel_rfl) (fun γ=>by kernel_rfl) (by kernel_rfl) rfl (fun γ=>by kernel_rfl) (by kernel_rfl) (by kernel_rfl) Tryz.underlying31 rfl sizeE
  ·exact OV.call 58 #[.agg (K.v p.x)] (.agg (K.v (kmul p.x p.x))) (by kernel_rfl) (fun γ=>by kernel_rfl) (by kernel_rfl) (fun γ w=>by kernel_rfl) (fun w _=>csq p.x w)
  ·exact OV.val (.pointer (some ⟨w.heap.size,5,none⟩)) (by kernel_rfl) (fun γ=>by kernel_rfl) (by kernel_rfl) (fun γ w=>by kernel_rfl)
  ·exact OV.load w.heap.size 5 5 33 (KP.v p) B0 (by simp) ((K.v p.y)) 31 (.tmp 11) _ (by kernel_rfl) (fun γ=>by kernel_rfl) (by kernel_rfl) rfl (fun γ=>by kernel_rfl) (by kernel_rfl) (by kernel_rfl) Tryz.underlying31 rfl sizeE
  ·exact OV.call 58 #[.agg (K.v p.y)] (.agg (K.v (kmul p.y p.y))) (by kernel_rfl) (fun γ=>by kernel_rfl) (by kernel_rfl) (fun γ w=>by kernel_rfl) (fun w _=>csq p.y w)
  ·exact OV.val (.pointer (some ⟨w.heap.size,10,none⟩)) (by kernel_rfl) (fun γ=>by kernel_rfl) (by kernel_rfl) (fun γ w=>by kernel_rfl)
  ·exact OV.load w.heap.size 10 5 33 (KP.v p) B0 (by simp) ((K.v p.z)) 31 (.tmp 14) _ (by kernel_rfl) (fun γ=>by kernel_rfl) (by kernel_rfl) rfl (fun γ=>by kernel_rfl) (by kernel_rfl) (by kernel_rfl) Tryz.underlying31 rfl sizeE
  ·exact OV.call 58 #[.agg (K.v p.z)] (.agg (K.v (kmul p.z p.z))) (by kernel_rfl) (fun γ=>by kernel_rfl) (by kernel_rfl) (fun γ w=>by kernel_rfl) (fun w _=>csq p.z w)
  ·exact OV.new_ ⟨9,12,31,z5,(K.v (kmul p.x p.x))⟩ (List.Mem.head _) rfl (by kernel_rfl) (by simp) (by kernel_rfl) (fun γ=>by kernel_rfl) (fun γ w=>by kernel_rfl)
  ·exact OV.new_ ⟨10,13,31,z5,(K.v (kmul p.y p.y))⟩ (List.Mem.tail _ (List.Mem.head _)) rfl (by kernel_rfl) (by simp) (by kernel_rfl) (fun γ=>by kernel_rfl) (fun γ w=>by kernel_rfl)
  ·exact OV.new_ ⟨11,14,31,z5,(K.v (kmul p.z p.z))⟩ (List.Mem.tail _ (List.Mem.tail _ (List.Mem.head _))) rfl (by kernel_rfl) (by simp) (by kernel_rfl) (fun γ=>by kernel_rfl) (fun γ w=>by kernel_rfl)
  ·exact OV.put_ ⟨9,12,31,z5,(K.v (kmul p.x p.x))⟩ (List.Mem.head _) rfl (by kernel_rfl) (by simp) (by kernel_rfl) (fun γ=>by kernel_rfl) (by kernel_rfl) 31 (.tmp 3) (.tmp 10) rfl (fun γ=>by kernel_rfl) (fun γ=>by kernel_rfl) (by kernel_rfl) sizeE (K.ones _)
  ·exact OV.put_ ⟨10,13,31,z5,(K.v (kmul p.y p.y))⟩ (List.Mem.tail _ (List.Mem.head _)) rfl (by kernel_rfl) (by simp) (by kernel_rfl) (fun γ=>by kernel_rfl) (by kernel_rfl) 31 (.tmp 4) (.tmp 13) rfl (fun γ=>by kernel_rfl) (fun γ=>by kernel_rfl) (by kernel_rfl) sizeE (K.ones _)
  ·exact OV.put_ ⟨11,14,31,z5,(K.v (kmul p.z p.z))⟩ (List.Mem.tail _ (List.Mem.tail _ (List.Mem.head _))) rfl (by kernel_rfl) (by simp) (by kernel_rfl) (fun γ=>by kernel_rfl) (by kernel_rfl) 31 (.tmp 5) (.tmp 16) rfl (fun γ=>by kernel_rfl) (fun γ=>by kernel_rfl) (by kernel_rfl) sizeE (K.ones _)
 intro γ W1 hgr1 hat hx2 hres
 clear hx2
 have B2:=B0.grown hgr1 (by simp)
 have B3:=B1.grown hgr1 (by simp)
 obtain⟨h1_0,eh1_0,lh1_0,B4⟩:=hat _ (List.Mem.head _)
 obtain⟨h1_1,eh1_1,lh1_1,B5⟩:=hat _ (List.Mem.tail _ (List.Mem.head _))
 obtain⟨h1_2,eh1_2,lh1_2,B6⟩:=hat _ (List.Mem.tail _ (List.Mem.tail _ (List.Mem.head _)))
 have D1:=below_none D0 hgr1
 have z1:=hgr1.size
 dsimp only at eh1_0 eh1_1 eh1_2
 clear hat hres hgr1 D0 B0 B1
 simp only[fr,fill,exa,spx,List.map_cons,List.map_nil,List.getElem?_cons_zero,List.getElem?_cons_succ,List.setIfInBounds_toArray,List.set_cons_zero,List.set_cons_succ,eh1_0,eh1_1,eh1_2]
 go_upto_region 2 with(fail)
 refine wp_region_o (sp:=[some (.pointer (some ⟨w.heap.size,0,none⟩)),some (.agg (K.v p.x)),some (.pointer (some ⟨w.heap.size,5,none⟩)),some (.agg (K.v p.y)),some (.agg (K.v (kmul p.x p.y))),none,none]) (vs:=[⟨5,6,31,z5,(K.v (kmul p.x p.y))⟩]) (out:=none) (by kernel_rfl) (by kernel_rfl) (by kernel_rfl) (by kernel_rfl) (by kernel_rfl) (by simp) ?_ ?_
 ·refine Each.cons ?_<|Each.cons ?_<|Each.cons ?_<|Each.cons ?_<|Each.cons ?_<|Each.cons ?_<|Each.cons ?_<|Each.nil
  ·exact OV.val (.pointer (some ⟨w.heap.size,0,none⟩)) (by kernel_rfl) (fun γ=>by kernel_rfl) (by kernel_rfl) (fun γ w=>by kernel_rfl)
  ·exact OV.load w.heap.size 0 5 33 (KP.v p) B2 (by simp) ((K.v p.x)) 31 (.tmp 17) _ (by kernel_rfl) (fun γ=>by kernel_rfl) (by kernel_rfl) rfl (fun γ=>by kernel_rfl) (by kernel_rfl) (by kernel_rfl) Tryz.underlying31 rfl sizeE
  ·exact OV.val (.pointer (some ⟨w.heap.size,5,none⟩)) (by kernel_rfl) (fun γ=>by kernel_rfl) (by kernel_rfl) (fun γ w=>by kernel_rfl)
  ·exact OV.load w.heap.size 5 5 33 (KP.v p) B2 (by simp) ((K.v p.y)) 31 (.tmp 19) _ (by kernel_rfl) (fun γ=>by kernel_rfl) (by kernel_rfl) rfl (fun γ=>by kernel_rfl) (by kernel_rfl) (by kernel_rfl) Tryz.underlying31 rfl sizeE
  ·exact OV.call 38 #[.agg (K.v p.x),.agg (K.v p.y)] (.agg (K.v (kmul p.x p.y))) (by kernel_rfl) (fun γ=>by kernel_rfl) (by kernel_rfl) (fun γ w=>by kernel_rfl) (fun w _=>cmul p.x p.y w)
  ·exact OV.new_ ⟨5,6,31,z5,(K.v (kmul p.x p.y))⟩ (List.Mem.head _) rfl (by kernel_rfl) (by simp) (by kernel_rfl) (fun γ=>by kernel_rfl) (fun γ w=>by kernel_rfl)
  ·exact OV.put_ ⟨5,6,31,z5,(K.v (kmul p.x p.y))⟩ (List.Mem.head _) rfl (by kernel_rfl) (by simp) (by kernel_rfl) (fun γ=>by kernel_rfl) (by kernel_rfl) 31 (.tmp 6) (.tmp 21) rfl (fun γ=>by kernel_rfl) (fun γ=>by kernel_rfl) (by kernel_rfl) sizeE (K.ones _)
 intro γ W2 hgr2 hat hx2 hres
 clear hx2
 have B7:=B2.grown hgr2 (by simp)
 have B8:=B3.grown hgr2 (by simp)
 have B9:=B4.grown hgr2 (by simp)
 have B10:=B5.grown hgr2 (by simp)
 have B11:=B6.grown hgr2 (by simp)
 obtain⟨h2_0,eh2_0,lh2_0,B12⟩:=hat _ (List.Mem.head _)
 have D2:=below_none D1 hgr2
 have z2:=hgr2.size
 dsimp only at eh2_0
 clear hat hres hgr2 D1 B2 B3 B4 B5 B6
 simp only[fr,fill,exa,spx,List.map_cons,List.map_nil,List.getElem?_cons_zero,List.getElem?_cons_succ,List.setIfInBounds_toArray,List.set_cons_zero,List.set_cons_succ,eh2_0]
 go_upto_region 3 with(fail)
 refine wp_region_o (sp:=[some (.agg (K.v (kmul p.y p.y))),some (.agg (K.v (kmul p.x p.x))),some (.agg (K.v (ksub ((kmul p.y p.y)) ((kmul p.x p.x))))),none,none]) (vs:=[⟨3,4,31,z5,(K.v (ksub ((kmul p.y p.y)) ((kmul p.x p.x))))⟩]) (out:=none) (by kernel_rfl) (by kernel_rfl) (by kernel_rfl) (by kernel_rfl) (by kernel_rfl) (by simp) ?_ ?_
 ·refine Each.cons ?_<|Each.cons ?_<|Each.cons ?_<|Each.cons ?_<|Each.cons ?_<|Each.nil
  ·exact OV.load h1_1 0 5 31 (K.v ((kmul p.y p.y))) B10 (by simp) ((K.v (kmul p.y p.y))) 31 (.tmp 4) _ (by kernel_rfl) (fun γ=>by kernel_rfl) (by kernel_rfl) rfl (fun γ=>by kernel_rfl) (by kernel_rfl) (by kernel_rfl) Tryz.underlying31 rfl sizeE
  ·exact OV.load h1_0 0 5 31 (K.v ((kmul p.x p.x))) B9 (by simp) ((K.v (kmul p.x p.x))) 31 (.tmp 3) _ (by kernel_rfl) (fun γ=>by kernel_rfl) (by kernel_rfl) rfl (fun γ=>by kernel_rfl) (by kernel_rfl) (by kernel_rfl) Tryz.underlying31 rfl sizeE
  ·exact OV.call 40 #[.agg (K.v (kmul p.y p.y)),.agg (K.v (kmul p.x p.x))] (.agg (K.v (ksub ((kmul p.y p.y)) ((kmul p.x p.x))))) (by kernel_rfl) (fun γ=>by kernel_rfl) (by kernel_rfl) (fun γ w=>by kernel_rfl) (fun w _=>csub ((kmul p.y p.y)) ((kmul p.x p.x)) w)
  ·exact OV.new_ ⟨3,4,31,z5,(K.v (ksub ((kmul p.y p.y)) ((kmul p.x p.x))))⟩ (List.Mem.head _) rfl (by kernel_rfl) (by simp) (by kernel_rfl) (fun γ=>by kernel_rfl) (fun γ w=>by kernel_rfl)
  ·exact OV.put_ ⟨3,4,31,z5,(K.v (ksub ((kmul p.y p.y)) ((kmul p.x p.x))))⟩ (List.Mem.head _) rfl (by kernel_rfl) (by simp) (by kernel_rfl) (fun γ=>by kernel_rfl) (by kernel_rfl) 31 (.tmp 7) (.tmp 24) rfl (fun γ=>by kernel_rfl) (fun γ=>by kernel_rfl) (by kernel_rfl) sizeE (K.ones _)
 intro γ W3 hgr3 hat hx2 hres
 clear hx2
 have B13:=B7.grown hgr3 (by simp)
 have B14:=B8.grown hgr3 (by simp)
 have B15:=B9.grown hgr3 (by simp)
 have B16:=B10.grown hgr3 (by simp)
 have B17:=B11.grown hgr3 (by simp)
 have B18:=B12.grown hgr3 (by simp)
 obtain⟨h3_0,eh3_0,lh3_0,B19⟩:=hat _ (List.Mem.head _)
 have D3:=below_none D2 hgr3
 have z3:=hgr3.size
 dsimp only at eh3_0
 clear hat hres hgr3 D2 B7 B8 B9 B10 B11 B12
 simp only[fr,fill,exa,spx,List.map_cons,List.map_nil,List.getElem?_cons_zero,List.getElem?_cons_succ,List.setIfInBounds_toArray,List.set_cons_zero,List.set_cons_succ,eh3_0]
 go_upto_region 4 with(fail)
 refine wp_region_o (sp:=[some (.agg (K.v (kmul p.x p.y))),some (.agg (K.v (kmul p.x p.y))),some (.agg (K.v (kadd ((kmul p.x p.y)) ((kmul p.x p.y))))),some (.agg (K.v (ksub ((kmul p.y p.y)) ((kmul p.x p.x))))),some (.agg (K.v (kmul p.y p.y))),some (.agg (K.v (kmul p.x p.x))),some (.agg (K.v (kadd ((kmul p.y p.y)) ((kmul p.x p.x))))),some (.agg (K.v (kmul p.z p.z))),some (.agg (K.v (kmul p.z p.z))),some (.agg (K.v (kadd ((kmul p.z p.z)) ((kmul p.z p.z))))),some (.agg (K.v (ksub ((kmul p.y p.y)) ((kmul p.x p.x))))),some (.agg (K.v (ksub ((kadd ((kmul p.z p.z)) ((kmul p.z p.z)))) ((ksub ((kmul p.y p.y)) ((kmul p.x p.x))))))),some (.agg (KP.v (kquo ((kadd ((kmul p.x p.y)) ((kmul p.x p.y)))) ((ksub ((kmul p.y p.y)) ((kmul p.x p.x)))) ((kadd ((kmul p.y p.y)) ((kmul p.x p.x)))) ((ksub ((kadd ((kmul p.z p.z)) ((kmul p.z p.z)))) ((ksub ((kmul p.y p.y)) ((kmul p.x p.x))))))))),none]) (vs:=[]) (out:=(some ⟨13,w.heap.size+1,33,z20,(KP.v (kquo ((kadd ((kmul p.x p.y)) ((kmul p.x p.y)))) ((ksub ((kmul p.y p.y)) ((kmul p.x p.x)))) ((kadd ((kmul p.y p.y)) ((kmul p.x p.x)))) ((ksub ((kadd ((kmul p.z p.z)) ((kmul p.z p.z)))) ((ksub ((kmul p.y p.y)) ((kmul p.x p.x))))))))⟩)) (by kernel_rfl) (by kernel_rfl) (by kernel_rfl) (by kernel_rfl) (by kernel_rfl) (fun r hr=>by obtain rfl:_=r:=Option.some.inj hr;exact⟨show w.heap.size+1 < _ from by omega,B14,Nat.le_of_ble_eq_true (by kernel_rfl)⟩) ?_ ?_
 ·refine Each.cons ?_<|Each.cons ?_<|Each.cons ?_<|Each.cons ?_<|Each.cons ?_<|Each.cons ?_<|Each.cons ?_<|Each.cons ?_<|Each.cons ?_<|Each.cons ?_<|Each.cons ?_<|Each.cons ?_<|Each.cons ?_<|Each.cons ?_<|Each.nil
  ·exact OV.load h2_0 0 5 31 (K.v ((kmul p.x p.y))) B18 (by simp only[Option.map_some,ne_eq,Option.some.injEq];omega) ((K.v (kmul p.x p.y))) 31 (.tmp 6) _ (by kernel_rfl) (fun γ=>by kernel_rfl) (by kernel_rfl) rfl (fun γ=>by kernel_rfl) (by kernel_rfl) (by kernel_rfl) Tryz.underlying31 rfl sizeE
  ·exact OV.load h2_0 0 5 31 (K.v ((kmul p.x p.y))) B18 (by simp only[Option.map_some,ne_eq,Option.some.injEq];omega) ((K.v (kmul p.x p.y))) 31 (.tmp 6) _ (by kernel_rfl) (fun γ=>by kernel_rfl) (by kernel_rfl) rfl (fun γ=>by kernel_rfl) (by kernel_rfl) (by kernel_rfl) Tryz.underlying31 rfl sizeE
  ·exact OV.call 39 #[.agg (K.v (kmul p.x p.y)),.agg (K.v (kmul p.x p.y))] (.agg (K.v (kadd ((kmul p.x p.y)) ((kmul p.x p.y))))) (by kernel_rfl) (fun γ=>by kernel_rfl) (by kernel_rfl) (fun γ w=>by kernel_rfl) (fun w _=>cadd ((kmul p.x p.y)) ((kmul p.x p.y)) w)
  ·exact OV.load h3_0 0 5 31 (K.v ((ksub ((kmul p.y p.y)) ((kmul p.x p.x))))) B19 (by simp only[Option.map_some,ne_eq,Option.some.injEq];omega) ((K.v (ksub ((kmul p.y p.y)) ((kmul p.x p.x))))) 31 (.tmp 7) _ (by kernel_rfl) (fun γ=>by kernel_rfl) (by kernel_rfl) rfl (fun γ=>by kernel_rfl) (by kernel_rfl) (by kernel_rfl) Tryz.underlying31 rfl sizeE
  ·exact OV.load h1_1 0 5 31 (K.v ((kmul p.y p.y))) B16 (by simp only[Option.map_some,ne_eq,Option.some.injEq];omega) ((K.v (kmul p.y p.y))) 31 (.tmp 4) _ (by kernel_rfl) (fun γ=>by kernel_rfl) (by kernel_rfl) rfl (fun γ=>by kernel_rfl) (by kernel_rfl) (by kernel_rfl) Tryz.underlying31 rfl sizeE
  ·exact OV.load h1_0 0 5 31 (K.v ((kmul p.x p.x))) B15 (by simp only[Option.map_some,ne_eq,Option.some.injEq];omega) ((K.v (kmul p.x p.x))) 31 (.tmp 3) _ (by kernel_rfl) (fun γ=>by kernel_rfl) (by kernel_rfl) rfl (fun γ=>by kernel_rfl) (by kernel_rfl) (by kernel_rfl) Tryz.underlying31 rfl sizeE
  ·exact OV.call 39 #[.agg (K.v (kmul p.y p.y)),.agg (K.v (kmul p.x p.x))] (.agg (K.v (kadd ((kmul p.y p.y)) ((kmul p.x p.x))))) (by kernel_rfl) (fun γ=>by kernel_rfl) (by kernel_rfl) (fun γ w=>by kernel_rfl) (fun w _=>cadd ((kmul p.y p.y)) ((kmul p.x p.x)) w)
  ·exact OV.load h1_2 0 5 31 (K.v ((kmul p.z p.z))) B17 (by simp only[Option.map_some,ne_eq,Option.some.injEq];omega) ((K.v (kmul p.z p.z))) 31 (.tmp 5) _ (by kernel_rfl) (fun γ=>by kernel_rfl) (by kernel_rfl) rfl (fun γ=>by kernel_rfl) (by kernel_rfl) (by kernel_rfl) Tryz.underlying31 rfl sizeE
  ·exact OV.load h1_2 0 5 31 (K.v ((kmul p.z p.z))) B17 (by simp only[Option.map_some,ne_eq,Option.some.injEq];omega) ((K.v (kmul p.z p.z))) 31 (.tmp 5) _ (by kernel_rfl) (fun γ=>by kernel_rfl) (by kernel_rfl) rfl (fun γ=>by kernel_rfl) (by kernel_rfl) (by kernel_rfl) Tryz.underlying31 rfl sizeE
  ·exact OV.call 39 #[.agg (K.v (kmul p.z p.z)),.agg (K.v (kmul p.z p.z))] (.agg (K.v (kadd ((kmul p.z p.z)) ((kmul p.z p.z))))) (by kernel_rfl) (fun γ=>by kernel_rfl) (by kernel_rfl) (fun γ w=>by kernel_rfl) (fun w _=>cadd ((kmul p.z p.z)) ((kmul p.z p.z)) w)
  ·exact OV.load h3_0 0 5 31 (K.v ((ksub ((kmul p.y p.y)) ((kmul p.x p.x))))) B19 (by simp only[Option.map_some,ne_eq,Option.some.injEq];omega) ((K.v (ksub ((kmul p.y p.y)) ((kmul p.x p.x))))) 31 (.tmp 7) _ (by kernel_rfl) (fun γ=>by kernel_rfl) (by kernel_rfl) rfl (fun γ=>by kernel_rfl) (by kernel_rfl) (by kernel_rfl) Tryz.underlying31 rfl sizeE
  ·exact OV.call 40 #[.agg (K.v (kadd ((kmul p.z p.z)) ((kmul p.z p.z)))),.agg (K.v (ksub ((kmul p.y p.y)) ((kmul p.x p.x))))] (.agg (K.v (ksub ((kadd ((kmul p.z p.z)) ((kmul p.z p.z)))) ((ksub ((kmul p.y p.y)) ((kmul p.x p.x))))))) (by kernel_rfl) (fun γ=>by kernel_rfl) (by kernel_rfl) (fun γ w=>by kernel_rfl) (fun w _=>csub ((kadd ((kmul p.z p.z)) ((kmul p.z p.z)))) ((ksub ((kmul p.y p.y)) ((kmul p.x p.x)))) w)
  ·exact OV.call 41 #[.agg (K.v (kadd ((kmul p.x p.y)) ((kmul p.x p.y)))),.agg (K.v (ksub ((kmul p.y p.y)) ((kmul p.x p.x)))),.agg (K.v (kadd ((kmul p.y p.y)) ((kmul p.x p.x)))),.agg (K.v (ksub ((kadd ((kmul p.z p.z)) ((kmul p.z p.z)))) ((ksub ((kmul p.y p.y)) ((kmul p.x p.x))))))] (.agg (KP.v (kquo ((kadd ((kmul p.x p.y)) ((kmul p.x p.y)))) ((ksub ((kmul p.y p.y)) ((kmul p.x p.x)))) ((kadd ((kmul p.y p.y)) ((kmul p.x p.x)))) ((ksub ((kadd ((kmul p.z p.z)) ((kmul p.z p.z)))) ((ksub ((kmul p.y p.y)) ((kmul p.x p.x))))))))) (by kernel_rfl) (fun γ=>by kernel_rfl) (by kernel_rfl) (fun γ w=>by kernel_rfl) (fun w _=>quotients_any ((kadd ((kmul p.x p.y)) ((kmul p.x p.y)))) ((ksub ((kmul p.y p.y)) ((kmul p.x p.x)))) ((kadd ((kmul p.y p.y)) ((kmul p.x p.x)))) ((ksub ((kadd ((kmul p.z p.z)) ((kmul p.z p.z)))) ((ksub ((kmul p.y p.y)) ((kmul p.x p.x)))))) w)
  ·exact OV.res_ rfl (by kernel_rfl) (by kernel_rfl) (fun γ=>by kernel_rfl) 33 (.tmp 2) (.tmp 37) rfl (fun γ=>by kernel_rfl) (fun γ=>by kernel_rfl) (by kernel_rfl) sizeP (KP.ones _)
 intro γ w' hgr hx1 hx2 hres
 clear hx1 hx2
 have hb:=hres _ rfl
 rename_i hk0
 refine hk0 _ _ (wp_ret ?_)
 refine bodyPost_ret (v:=.agg p.twice.v) (results_cell 2 33 _ _ _ Tryz.results61 (by kernel_rfl) hb Tryz.underlying33 rfl sizeP) rfl ⟨rfl,below_only (g:=w.heap.size+1) D3 hgr (by omega)⟩
end Go.Proofs.YtoibhnpmemnlfaaGreatDoor.Ed
