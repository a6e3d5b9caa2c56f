/- Joined texts. -/
import Derived.Deep.DeepCutAuto
import Derived.Deep.Cut
import Derived.Test.YtoibhnpmemnlfaaGreatDoorQtEdC
set_option linter.unusedVariables false
namespace Go.Proofs.YtoibhnpmemnlfaaGreatDoor.Ed
open Go.RowKit Go.Proofs.YtoibhnpmemnlfaaGreatDoor.Gn Go.Proofs.YtoibhnpmemnlfaaGreatDoor.Fd Go.Deep
def kz4:KP:=⟨ke,ke,ke,ke⟩
def parr(f:Nat→KP):Array Value:=((List.range 16).flatMap fun j=>(f j).v.toList).toArray
def tarr(s:Value)(f:Nat→KP):Array Value:=(s :: (List.range 16).flatMap fun j=>(f j).v.toList).toArray
def upto(f:Nat→KP)(k:Nat):Nat→KP:=fun j=>if j < k then f j else kz4
theorem sizeT:(Tryz.prog.info? 65).map (·.size)=some 321:=by kernel_rfl
theorem tarr_ones(s:Value)(f:Nat→KP)(hs:s.oneCell'=true):∀v∈(tarr s f).toList,v.oneCell'=true:=by
 intro v hv
 unfold tarr at hv
 rcases List.mem_cons.1 hv with rfl|hv
 ·exact hs
 ·obtain⟨j,-, hj⟩:=List.mem_flatMap.1 hv
  exact KP.ones _ v hj
theorem upto_all(f:Nat→KP)(s:Value):tarr s (upto f 16)=tarr s f:=by
 have h:∀j,j∈List.range 16→upto f 16 j=f j:=fun j hj=>by unfold upto;rw[if_pos (List.mem_range.1 hj)]
 unfold tarr
 rw[show(List.range 16).flatMap (fun j=>(upto f 16 j).v.toList)=(List.range 16).flatMap (fun j=>(f j).v.toList) from by
  simp only[List.flatMap]
  rw[List.map_congr_left (fun j hj=>by rw[h j hj])]]
def TmRel(s:Value)(f:Nat→KP)(g0 g1 h:Nat)(W0:World)(z:Array Value)(i:Value)(wr:World):Prop :=
 ∃k:Nat,2≤k∧k≤16∧i=.int .i64 (k:Int)∧Bl wr h 65 (tarr s (upto f k))∧Bl wr g0 33 (f 1).v∧Bl wr g1 65 z∧Below W0.heap.size W0 wr
set_option maxRecDepth 100000 in
set_option maxHeartbeats 4000000 in
theorem termOf_walk(A:Option Addr)(n c:Nat)(f:Nat→KP)(w:World)(tab:TabE w)
  (ZC:∀w,Calls Tryz.prog 60 #[] w fun e w'=>e=.returned (.agg (f 0).v)∧Below w.heap.size w w')
  (AD:∀j,1≤j→∀w,TabE w→Calls Tryz.prog 14 #[.agg (f j).v,.agg (f 1).v] w fun e w'=>e=.returned (.agg (f (j+1)).v)∧Below w.heap.size w w') :
  Calls Tryz.prog 35 #[.slice A n c,.agg (f 1).v] w fun e w'=>e=.returned (.agg (tarr (.slice A n c) f))∧Below w.heap.size w w':=by
 have AD:=Lib.hid AD
 have ZC:=Lib.hid ZC
 have TB:=Lib.hid tab
 clear tab
 go_enter Tryz.func35,Tryz.ntmps35
 go_upto_region 1 with(fail)
 refine at_box2 _ _ _ _ _ ?_
 intro W0 B0 B1 D0 hs
 obtain⟨zt,hzt⟩:∃zt,zt=Tryz.zeroCells65:=⟨_,rfl⟩
 refine wp_region_o (sp:=[some (.slice A n c),some (.agg (f 0).v),some (.agg (f 1).v),some (.agg (parr (upto f 2))),some (.agg (tarr (.slice A n c) (upto f 2))),none,none]) (vs:=[⟨5,6,65,Tryz.zeroCells65,tarr (.slice A n c) (upto f 2)⟩]) (out:=none) (by kernel_rfl) (by kernel_rfl) (by kernel_rfl) (by kernel_rfl) (by kernel_rfl) (by simp) ?_ ?_
 ·refine Each.cons ?_<|Each.cons ?_<|Each.cons ?_<|Each.cons ?_<|Each.cons ?_<|Each.cons ?_<|Each.cons ?_<|Each.nil
  ·exact OV.val (.slice A n c) (by kernel_rfl) (fun γ=>by kernel_rfl) (by kernel_rfl) (fun γ w=>by kernel_rfl)
  ·exact OV.call 60 #[] (.agg (f 0).v) (by kernel_rfl) (fun γ=>by kernel_rfl) (by kernel_rfl) (fun γ w=>by kernel_rfl) (fun w _=>ZC.out w)
  ·exact OV.load w.heap.size 0 20 33 (f 1).v B0 (by simp) (f 1).v 33 (.tmp 3) _ (by kernel_rfl) (fun γ=>by kernel_rfl) (by kernel_rfl) rfl (fun γ=>by kernel_rfl) (by kernel_rfl) (by kernel_rfl) Tryz.underlying33 rfl sizeP
  ·exact OV.val (.agg (parr (upto f 2))) (by kernel_rfl) (fun γ=>by kernel_rfl) (by kernel_rfl) (fun γ w=>by kernel_rfl)
  ·exact OV.val (.agg (tarr (.slice A n c) (upto f 2))) (by kernel_rfl) (fun γ=>by kernel_rfl) (by kernel_rfl) (fun γ w=>by kernel_rfl)
  ·exact OV.new_ ⟨5,6,65,Tryz.zeroCells65,tarr (.slice A n c) (upto f 2)⟩ (List.Mem.head _) rfl (by kernel_rfl) (by simp) (by kernel_rfl) (fun γ=>by kernel_rfl) (fun γ w=>by kernel_rfl)
  ·exact OV.put_ ⟨5,6,65,Tryz.zeroCells65,tarr (.slice A n c) (upto f 2)⟩ (List.Mem.head _) rfl (by kernel_rfl) (by simp) (by kernel_rfl) (fun γ=>by kernel_rfl) (by kernel_rfl) 65 (.tmp 5) (.tmp 11) rfl (fun γ=>by kernel_rfl) (fun γ=>by kernel_rfl) (by kernel_rfl) sizeT (tarr_ones _ _ rfl)
 intro γ W1 hgr1 hat hx2 hres
 clear hx2
 have B2:=B0.grown hgr1 (by simp)
 have B3:=B1.grown hgr1 (by simp)
 obtain⟨h,eh,lh,B4⟩:=hat _ (List.Mem.head _)
 have D1:=below_none D0 hgr1
 have z1:=hgr1.size
 dsimp only at eh
 clear hat hres hgr1 D0 B0 B1
 simp only[fr,fill,exa,spx,List.map_cons,List.map_nil,List.getElem?_cons_zero,List.getElem?_cons_succ,List.setIfInBounds_toArray,List.set_cons_zero,List.set_cons_succ,eh]
 have DD:=Lib.hid D1
 have BB2:=Lib.hid B2
 have BB3:=Lib.hid B3
 have BB4:=Lib.hid B4
 have HH:=Lib.hid (show w.heap.size+2≤h∧w.heap.size+2≤W1.heap.size from⟨by omega,by omega⟩)
 clear D1 B2 B3 B4 lh z1 hs hzt zt
 go_upto_region 2 with(fail)
 go_wp2_with fail
 go_loopw [6] (fun i wr=>TmRel (.slice A n c) f w.heap.size (w.heap.size+1) h w _ i wr) (fun i _=>16 - (intOf i).toNat)
 case atStart=>exact⟨2,by omega,by omega,rfl,BB4.out,BB2.out,BB3.out,DD.out⟩
 case round =>
  obtain⟨k,k2,k16,rfl,C0,C1,C2,C3⟩:=hrel
  by_cases hlt:k < 16
  ·have E0:=Lib.hid C3
   have CC0:=Lib.hid C0
   have CC1:=Lib.hid C1
   have CC2:=Lib.hid C2
   clear C0 C1 C2 C3
   obtain hk:k=2∨k=3∨k=4∨k=5∨k=6∨k=7∨k=8∨k=9∨k=10∨k=11∨k=12∨k=13∨k=14∨k=15:=by omega
   clear hlt k2 k16
   rcases hk with rfl|rfl|rfl|rfl|rfl|rfl|rfl|rfl|rfl|rfl|rfl|rfl|rfl|rfl
   ·rw[show((2:Nat):Int)=2 from rfl]
    go_upto_region 5 with(fail)
    have HL:=HH.out
    refine wp_region_o (sp:=[some (.int .i64 2),some (.int .i64 2),some (.int .i64 1),some (.pointer (some ⟨h,1,none⟩)),some (.pointer (some ⟨h,21,none⟩)),some (.agg (f 1).v),some (.agg (f 1).v),some (.agg (f 2).v),some (.pointer (some ⟨h,1,none⟩)),some (.pointer (some ⟨h,41,none⟩)),none]) (vs:=[]) (out:=some ⟨10,h,65,tarr (.slice A n c) (upto f 2),tarr (.slice A n c) (upto f 3)⟩) (by kernel_rfl) (by kernel_rfl) (by kernel_rfl) (by kernel_rfl) (by kernel_rfl) (fun r hr=>by obtain rfl:_=r:=Option.some.inj hr;exact⟨CC0.out.lt,CC0.out,Nat.le_of_ble_eq_true (by kernel_rfl)⟩) ?_ ?_
    refine Each.cons ?_<|Each.cons ?_<|Each.cons ?_<|Each.cons ?_<|Each.cons ?_<|Each.cons ?_<|Each.cons ?_<|Each.cons ?_<|Each.cons ?_<|Each.cons ?_<|Each.cons ?_<|Each.nil
    ·exact OV.val (.int .i64 2) (by kernel_rfl) (fun γ=>by kernel_rfl) (by kernel_rfl) (fun γ w=>by kernel_rfl)
    ·exact OV.val (.int .i64 2) (by kernel_rfl) (fun γ=>by kernel_rfl) (by kernel_rfl) (fun γ w=>by kernel_rfl)
    ·exact OV.val (.int .i64 1) (by kernel_rfl) (fun γ=>by kernel_rfl) (by kernel_rfl) (fun γ w=>by kernel_rfl)
    ·exact OV.val (.pointer (some ⟨h,1,none⟩)) (by kernel_rfl) (fun γ=>by kernel_rfl) (by kernel_rfl) (fun γ w=>by kernel_rfl)
    ·exact OV.val (.pointer (some ⟨h,21,none⟩)) (by kernel_rfl) (fun γ=>by kernel_rfl) (by kernel_rfl) (fun γ w=>by kernel_rfl)
    ·exact OV.load_out (by kernel_rfl) 21 20 (f 1).v 33 (.tmp 20) _ (by kernel_rfl) (fun γ=>by kernel_rfl) (by kernel_rfl) rfl (fun γ=>by kernel_rfl) (by kernel_rfl) (by kernel_rfl) Tryz.underlying33 rfl sizeP
    ·exact OV.load w.heap.size 0 20 33 (f 1).v CC1.out (by simp only[Option.map_some,ne_eq,Option.some.injEq];omega) (f 1).v 33 (.tmp 3) _ (by kernel_rfl) (fun γ=>by kernel_rfl) (by kernel_rfl) rfl (fun γ=>by kernel_rfl) (by kernel_rfl) (by kernel_rfl) Tryz.underlying33 rfl sizeP
    ·exact OV.call 14 #[.agg (f 1).v,.agg (f 1).v] (.agg (f 2).v) (by kernel_rfl) (fun γ=>by kernel_rfl) (by kernel_rfl) (fun γ w=>by kernel_rfl) (fun w' hg=>AD.out 1 (by decide) w' (TB.out.below (below_only (g:=h) E0.out hg (by omega))))
    ·exact OV.val (.pointer (some ⟨h,1,none⟩)) (by kernel_rfl) (fun γ=>by kernel_rfl) (by kernel_rfl) (fun γ w=>by kernel_rfl)
    ·exact OV.val (.pointer (some ⟨h,41,none⟩)) (by kernel_rfl) (fun γ=>by kernel_rfl) (by kernel_rfl) (fun γ w=>by kernel_rfl)
    ·exact OV.res_mid rfl (by kernel_rfl) (by kernel_rfl) (fun γ=>by kernel_rfl) 33 (.tmp 25) (.tmp 23) rfl 41 (f 2).v (fun γ=>by kernel_rfl) (fun γ=>by kernel_rfl) (by kernel_rfl) (by kernel_rfl) sizeP (KP.ones _)
    ·intro γ W2 hgr2 hat hx2 hres
     clear hat hx2
     have R0:=Lib.hid (hres _ rfl)
     have R1:=Lib.hid (CC1.out.grown hgr2 (by simp only[Option.map_some,ne_eq,Option.some.injEq];omega))
     have R2:=Lib.hid (CC2.out.grown hgr2 (by simp only[Option.map_some,ne_eq,Option.some.injEq];omega))
     have R3:=Lib.hid (below_only (g:=h) E0.out hgr2 (by omega))
     clear hres hgr2 HL
     simp only[fr,fill,exa,spx,List.map_cons,List.map_nil,List.getElem?_cons_zero,List.getElem?_cons_succ,List.setIfInBounds_toArray,List.set_cons_zero,List.set_cons_succ]
     go_wp2_with fail
     go_roundw
     case rel=>exact⟨3,by omega,by omega,rfl,R0.out,R1.out,R2.out,R3.out⟩
     case measure=>simp[intOf]
   ·rw[show((3:Nat):Int)=3 from rfl]
    go_upto_region 5 with(fail)
    have HL:=HH.out
    refine wp_region_o (sp:=[some (.int .i64 3),some (.int .i64 3),some (.int .i64 2),some (.pointer (some ⟨h,1,none⟩)),some (.pointer (some ⟨h,41,none⟩)),some (.agg (f 2).v),some (.agg (f 1).v),some (.agg (f 3).v),some (.pointer (some ⟨h,1,none⟩)),some (.pointer (some ⟨h,61,none⟩)),none]) (vs:=[]) (out:=some ⟨10,h,65,tarr (.slice A n c) (upto f 3),tarr (.slice A n c) (upto f 4)⟩) (by kernel_rfl) (by kernel_rfl) (by kernel_rfl) (by kernel_rfl) (by kernel_rfl) (fun r hr=>by obtain rfl:_=r:=Option.some.inj hr;exact⟨CC0.out.lt,CC0.out,Nat.le_of_ble_eq_true (by kernel_rfl)⟩) ?_ ?_
    refine Each.cons ?_<|Each.cons ?_<|Each.cons ?_<|Each.cons ?_<|Each.cons ?_<|Each.cons ?_<|Each.cons ?_<|Each.cons ?_<|Each.cons ?_<|Each.cons ?_<|Each.cons ?_<|Each.nil
    ·exact OV.val (.int .i64 3) (by kernel_rfl) (fun γ=>by kernel_rfl) (by kernel_rfl) (fun γ w=>by kernel_rfl)
    ·exact OV.val (.int .i64 3) (by kernel_rfl) (fun γ=>by kernel_rfl) (by kernel_rfl) (fun γ w=>by kernel_rfl)
    ·exact OV.val (.int .i64 2) (by kernel_rfl) (fun γ=>by kernel_rfl) (by kernel_rfl) (fun γ w=>by kernel_rfl)
    ·exact OV.val (.pointer (some ⟨h,1,none⟩)) (by kernel_rfl) (fun γ=>by kernel_rfl) (by kernel_rfl) (fun γ w=>by kernel_rfl)
    ·exact OV.val (.pointer (some ⟨h,41,none⟩)) (by kernel_rfl) (fun γ=>by kernel_rfl) (by kernel_rfl) (fun γ w=>by kernel_rfl)
    ·exact OV.load_out (by kernel_rfl) 41 20 (f 2).v 33 (.tmp 20) _ (by kernel_rfl) (fun γ=>by kernel_rfl) (by kernel_rfl) rfl (fun γ=>by kernel_rfl) (by kernel_rfl) (by kernel_rfl) Tryz.underlying33 rfl sizeP
    ·exact OV.load w.heap.size 0 20 33 (f 1).v CC1.out (by simp only[Option.map_some,ne_eq,Option.some.injEq];omega) (f 1).v 33 (.tmp 3) _ (by kernel_rfl) (fun γ=>by kernel_rfl) (by kernel_rfl) rfl (fun γ=>by kernel_rfl) (by kernel_rfl) (by kernel_rfl) Tryz.underlying33 rfl sizeP
    ·exact OV.call 14 #[.agg (f 2).v,.agg (f 1).v] (.agg (f 3).v) (by kernel_rfl) (fun γ=>by kernel_rfl) (by kernel_rfl) (fun γ w=>by kernel_rfl) (fun w' hg=>AD.out 2 (by decide) w' (TB.out.below (below_only (g:=h) E0.out hg (by omega))))
    ·exact OV.val (.pointer (some ⟨h,1,none⟩)) (by kernel_rfl) (fun γ=>by kernel_rfl) (by kernel_rfl) (fun γ w=>by kernel_rfl)
    ·exact OV.val (.pointer (some ⟨h,61,none⟩)) (by kernel_rfl) (fun γ=>by kernel_rfl) (by kernel_rfl) (fun γ w=>by kernel_rfl)
    ·exact OV.res_mid rfl (by kernel_rfl) (by kernel_rfl) (fun γ=>by kernel_rfl) 33 (.tmp 25) (.tmp 23) rfl 61 (f 3).v (fun γ=>by kernel_rfl) (fun γ=>by kernel_rfl) (by kernel_rfl) (by kernel_rfl) sizeP (KP.ones _)
    ·intro γ W2 hgr2 hat hx2 hres
     clear hat hx2
     have R0:=Lib.hid (hres _ rfl)
     have R1:=Lib.hid (CC1.out.grown hgr2 (by simp only[Option.map_some,ne_eq,Option.some.injEq];omega))
     have R2:=Lib.hid (CC2.out.grown hgr2 (by simp only[Option.map_some,ne_eq,Option.some.injEq];omega))
     have R3:=Lib.hid (below_only (g:=h) E0.out hgr2 (by omega))
     clear hres hgr2 HL
     simp only[fr,fill,exa,spx,List.map_cons,List.map_nil,List.getElem?_cons_zero,List.getElem?_cons_succ,List.setIfInBounds_toArray,List.set_cons_zero,List.set_cons_succ]
     go_wp2_with fail
     go_roundw
     case rel=>exact⟨4,by omega,by omega,rfl,R0.out,R1.out,R2.out,R3.out⟩
     case measure=>simp[intOf]
   ·rw[show((4:Nat):Int)=4 from rfl]
    go_upto_region 5 with(fail)
    have HL:=HH.out
    refine wp_region_o (sp:=[some (.int .i64 4),some (.int .i64 4),some (.int .i64 3),some (.pointer (some ⟨h,1,none⟩)),some (.pointer (some ⟨h,61,none⟩)),some (.agg (f 3).v),some (.agg (f 1).v),some (.agg (f 4).v),some (.pointer (some ⟨h,1,none⟩)),some (.pointer (some ⟨h,81,none⟩)),none]) (vs:=[]) (out:=some ⟨10,h,65,tarr (.slice A n c) (upto f 4),tarr (.slice A n c) (upto f 5)⟩) (by kernel_rfl) (by kernel_rfl) (by kernel_rfl) (by kernel_rfl) (by kernel_rfl) (fun r hr=>by obtain rfl:_=r:=Option.some.inj hr;exact⟨CC0.out.lt,CC0.out,Nat.le_of_ble_eq_true (by kernel_rfl)⟩) ?_ ?_
    refine Each.cons ?_<|Each.cons ?_<|Each.cons ?_<|Each.cons ?_<|Each.cons ?_<|Each.cons ?_<|Each.cons ?_<|Each.cons ?_<|Each.cons ?_<|Each.cons ?_<|Each.cons ?_<|Each.nil
    ·exact OV.val (.int .i64 4) (by kernel_rfl) (fun γ=>by kernel_rfl) (by kernel_rfl) (fun γ w=>by kernel_rfl)
    ·exact OV.val (.int .i64 4) (by kernel_rfl) (fun γ=>by kernel_rfl) (by kernel_rfl) (fun γ w=>by kernel_rfl)
    ·exact OV.val (.int .i64 3) (by kernel_rfl) (fun γ=>by kernel_rfl) (by kernel_rfl) (fun γ w=>by kernel_rfl)
    ·exact OV.val (.pointer (some ⟨h,1,none⟩)) (by kernel_rfl) (fun γ=>by kernel_rfl) (by kernel_rfl) (fun γ w=>by kernel_rfl)
    ·exact OV.val (.pointer (some ⟨h,61,none⟩)) (by kernel_rfl) (fun γ=>by kernel_rfl) (by kernel_rfl) (fun γ w=>by kernel_rfl)
    ·exact OV.load_out (by kernel_rfl) 61 20 (f 3).v 33 (.tmp 20) _ (by kernel_rfl) (fun γ=>by kernel_rfl) (by kernel_rfl) rfl (fun γ=>by kernel_rfl) (by kernel_rfl) (by kernel_rfl) Tryz.underlying33 rfl sizeP
    ·exact OV.load w.heap.size 0 20 33 (f 1).v CC1.out (by simp only[Option.map_some,ne_eq,Option.some.injEq];omega) (f 1).v 33 (.tmp 3) _ (by kernel_rfl) (fun γ=>by kernel_rfl) (by kernel_rfl) rfl (fun γ=>by kernel_rfl) (by kernel_rfl) (by kernel_rfl) Tryz.underlying33 rfl sizeP
    ·exact OV.call 14 #[.agg (f 3).v,.agg (f 1).v] (.agg (f 4).v) (by kernel_rfl) (fun γ=>by kernel_rfl) (by kernel_rfl) (fun γ w=>by kernel_rfl) (fun w' hg=>AD.out 3 (by decide) w' (TB.out.below (below_only (g:=h) E0.out hg (by omega))))
    ·exact OV.val (.pointer (some ⟨h,1,none⟩)) (by kernel_rfl) (fun γ=>by kernel_rfl) (by kernel_rfl) (fun γ w=>by kernel_rfl)
    ·exact OV.val (.pointer (some ⟨h,81,none⟩)) (by kernel_rfl) (fun γ=>by kernel_rfl) (by kernel_rfl) (fun γ w=>by kernel_rfl)
    ·exact OV.res_mid rfl (by kernel_rfl) (by kernel_rfl) (fun γ=>by kernel_rfl) 33 (.tmp 25) (.tmp 23) rfl 81 (f 4).v (fun γ=>by kernel_rfl) (fun γ=>by kernel_rfl) (by kernel_rfl) (by kernel_rfl) sizeP (KP.ones _)
    ·intro γ W2 hgr2 hat hx2 hres
     clear hat hx2
     have R0:=Lib.hid (hres _ rfl)
     have R1:=Lib.hid (CC1.out.grown hgr2 (by simp only[Option.map_some,ne_eq,Option.some.injEq];omega))
     have R2:=Lib.hid (CC2.out.grown hgr2 (by simp only[Option.map_some,ne_eq,Option.some.injEq];omega))
     have R3:=Lib.hid (below_only (g:=h) E0.out hgr2 (by omega))
     clear hres hgr2 HL
     simp only[fr,fill,exa,spx,List.map_cons,List.map_nil,List.getElem?_cons_zero,List.getElem?_cons_succ,List.setIfInBounds_toArray,List.set_cons_zero,List.set_cons_succ]
     go_wp2_with fail
     go_roundw
     case rel=>exact⟨5,by omega,by omega,rfl,R0.out,R1.out,R2.out,R3.out⟩
     case measure=>simp[intOf]
   ·rw[show((5:Nat):Int)=5 from rfl]
    go_upto_region 5 with(fail)
    have HL:=HH.out
    refine wp_region_o (sp:=[some (.int .i64 5),some (.int .i64 5),some (.int .i64 4),some (.pointer (some ⟨h,1,none⟩)),some (.pointer (some ⟨h,81,none⟩)),some (.agg (f 4).v),some (.agg (f 1).v),some (.agg (f 5).v),some (.pointer (some ⟨h,1,none⟩)),some (.pointer (some ⟨h,101,none⟩)),none]) (vs:=[]) (out:=some ⟨10,h,65,tarr (.slice A n c) (upto f 5),tarr (.slice A n c) (upto f 6)⟩) (by kernel_rfl) (by kernel_rfl) (by kernel_rfl) (by kernel_rfl) (by kernel_rfl) (fun r hr=>by obtain rfl:_=r:=Option.some.inj hr;exact⟨CC0.out.lt,CC0.out,Nat.le_of_ble_eq_true (by kernel_rfl)⟩) ?_ ?_
    refine Each.cons ?_<|Each.cons ?_<|Each.cons ?_<|Each.cons ?_<|Each.cons ?_<|Each.cons ?_<|Each.cons ?_<|Each.cons ?_<|Each.cons ?_<|Each.cons ?_<|Each.cons ?_<|Each.nil
    ·exact OV.val (.int .i64 5) (by kernel_rfl) (fun γ=>by kernel_rfl) (by kernel_rfl) (fun γ w=>by kernel_rfl)
    ·exact OV.val (.int .i64 5) (by kernel_rfl) (fun γ=>by kernel_rfl) (by kernel_rfl) (fun γ w=>by kernel_rfl)
    ·exact OV.val (.int .i64 4) (by kernel_rfl) (fun γ=>by kernel_rfl) (by kernel_rfl) (fun γ w=>by kernel_rfl)
    ·exact OV.val (.pointer (some ⟨h,1,none⟩)) (by kernel_rfl) (fun γ=>by kernel_rfl) (by kernel_rfl) (fun γ w=>by kernel_rfl)
    ·exact OV.val (.pointer (some ⟨h,81,none⟩)) (by kernel_rfl) (fun γ=>by kernel_rfl) (by kernel_rfl) (fun γ w=>by kernel_rfl)
    ·exact OV.load_out (by kernel_rfl) 81 20 (f 4).v 33 (.tmp 20) _ (by kernel_rfl) (fun γ=>by kernel_rfl) (by kernel_rfl) rfl (fun γ=>by kernel_rfl) (by kernel_rfl) (by kernel_rfl) Tryz.underlying33 rfl sizeP
    ·exact OV.load w.heap.size 0 20 33 (f 1).v CC1.out (by simp only[Option.map_some,ne_eq,Option.some.injEq];omega) (f 1).v 33 (.tmp 3) _ (by kernel_rfl) (fun γ=>by kernel_rfl) (by kernel_rfl) rfl (fun γ=>by kernel_rfl) (by kernel_rfl) (by kernel_rfl) Tryz.underlying33 rfl sizeP
    ·exact OV.call 14 #[.agg (f 4).v,.agg (f 1).v] (.agg (f 5).v) (by kernel_rfl) (fun γ=>by kernel_rfl) (by kernel_rfl) (fun γ w=>by kernel_rfl) (fun w' hg=>AD.out 4 (by decide) w' (TB.out.below (below_only (g:=h) E0.out hg (by omega))))
    ·exact OV.val (.pointer (some ⟨h,1,none⟩)) (by kernel_rfl) (fun γ=>by kernel_rfl) (by kernel_rfl) (fun γ w=>by kernel_rfl)
    ·exact OV.val (.pointer (some ⟨h,101,none⟩)) (by kernel_rfl) (fun γ=>by kernel_rfl) (by kernel_rfl) (fun γ w=>by kernel_rfl)
    ·exact OV.res_mid rfl (by kernel_rfl) (by kernel_rfl) (fun γ=>by kernel_rfl) 33 (.tmp 25) (.tmp 23) rfl 101 (f 5).v (fun γ=>by kernel_rfl) (fun γ=>by kernel_rfl) (by kernel_rfl) (by kernel_rfl) sizeP (KP.ones _)
    ·intro γ W2 hgr2 hat hx2 hres
     clear hat hx2
     have R0:=Lib.hid (hres _ rfl)
     have R1:=Lib.hid (CC1.out.grown hgr2 (by simp only[Option.map_some,ne_eq,Option.some.injEq];omega))
     have R2:=Lib.hid (CC2.out.grown hgr2 (by simp only[Option.map_some,ne_eq,Option.some.injEq];omega))
     have R3:=Lib.hid (below_only (g:=h) E0.out hgr2 (by omega))
     clear hres hgr2 HL
     simp only[fr,fill,exa,spx,List.map_cons,List.map_nil,List.getElem?_cons_zero,List.getElem?_cons_succ,List.setIfInBounds_toArray,List.set_cons_zero,List.set_cons_succ]
     go_wp2_with fail
     go_roundw
     case rel=>exact⟨6,by omega,by omega,rfl,R0.out,R1.out,R2.out,R3.out⟩
     case measure=>simp[intOf]
   ·rw[show((6:Nat):Int)=6 from rfl]
    go_upto_region 5 with(fail)
    have HL:=HH.out
    refine wp_region_o (sp:=[some (.int .i64 6),some (.int .i64 6),some (.int .i64 5),some (.pointer (some ⟨h,1,none⟩)),some (.pointer (some ⟨h,101,none⟩)),some (.agg (f 5).v),some (.agg (f 1).v),some (.agg (f 6).v),some (.pointer (some ⟨h,1,none⟩)),some (.pointer (some ⟨h,121,none⟩)),none]) (vs:=[]) (out:=some ⟨10,h,65,tarr (.slice A n c) (upto f 6),tarr (.slice A n c) (upto f 7)⟩) (by kernel_rfl) (by kernel_rfl) (by kernel_rfl) (by kernel_rfl) (by kernel_rfl) (fun r hr=>by obtain rfl:_=r:=Option.some.inj hr;exact⟨CC0.out.lt,CC0.out,Nat.le_of_ble_eq_true (by kernel_rfl)⟩) ?_ ?_
    refine Each.cons ?_<|Each.cons ?_<|Each.cons ?_<|Each.cons ?_<|Each.cons ?_<|Each.cons ?_<|Each.cons ?_<|Each.cons ?_<|Each.cons ?_<|Each.cons ?_<|Each.cons ?_<|Each.nil
    ·exact OV.val (.int .i64 6) (by kernel_rfl) (fun γ=>by kernel_rfl) (by kernel_rfl) (fun γ w=>by kernel_rfl)
    ·exact OV.val (.int .i64 6) (by kernel_rfl) (fun γ=>by kernel_rfl) (by kernel_rfl) (fun γ w=>by kernel_rfl)
    ·exact OV.val (.int .i64 5) (by kernel_rfl) (fun γ=>by kernel_rfl) (by kernel_rfl) (fun γ w=>by kernel_rfl)
    ·exact OV.val (.pointer (some ⟨h,1,none⟩)) (by kernel_rfl) (fun γ=>by kernel_rfl) (by kernel_rfl) (fun γ w=>by kernel_rfl)
    ·exact OV.val (.pointer (some ⟨h,101,none⟩)) (by kernel_rfl) (fun γ=>by kernel_rfl) (by kernel_rfl) (fun γ w=>by kernel_rfl)
    ·exact OV.load_out (by kernel_rfl) 101 20 (f 5).v 33 (.tmp 20) _ (by kernel_rfl) (fun γ=>by kernel_rfl) (by kernel_rfl) rfl (fun γ=>by kernel_rfl) (by kernel_rfl) (by kernel_rfl) Tryz.underlying33 rfl sizeP
    ·exact OV.load w.heap.size 0 20 33 (f 1).v CC1.out (by simp only[Option.map_some,ne_eq,Option.some.injEq];omega) (f 1).v 33 (.tmp 3) _ (by kernel_rfl) (fun γ=>by kernel_rfl) (by kernel_rfl) rfl (fun γ=>by kernel_rfl) (by kernel_rfl) (by kernel_rfl) Tryz.underlying33 rfl sizeP
    ·exact OV.call 14 #[.agg (f 5).v,.agg (f 1).v] (.agg (f 6).v) (by kernel_rfl) (fun γ=>by kernel_rfl) (by kernel_rfl) (fun γ w=>by kernel_rfl) (fun w' hg=>AD.out 5 (by decide) w' (TB.out.below (below_only (g:=h) E0.out hg (by omega))))
    ·exact OV.val (.pointer (some ⟨h,1,none⟩)) (by kernel_rfl) (fun γ=>by kernel_rfl) (by kernel_rfl) (fun γ w=>by kernel_rfl)
    ·exact OV.val (.pointer (some ⟨h,121,none⟩)) (by kernel_rfl) (fun γ=>by kernel_rfl) (by kernel_rfl) (fun γ w=>by kernel_rfl)
    ·exact OV.res_mid rfl (by kernel_rfl) (by kernel_rfl) (fun γ=>by kernel_rfl) 33 (.tmp 25) (.tmp 23) rfl 121 (f 6).v (fun γ=>by kernel_rfl) (fun γ=>by kernel_rfl) (by kernel_rfl) (by kernel_rfl) sizeP (KP.ones _)
    ·intro γ W2 hgr2 hat hx2 hres
     clear hat hx2
     have R0:=Lib.hid (hres _ rfl)
     have R1:=Lib.hid (CC1.out.grown hgr2 (by simp only[Option.map_some,ne_eq,Option.some.injEq];omega))
     have R2:=Lib.hid (CC2.out.grown hgr2 (by simp only[Option.map_some,ne_eq,Option.some.injEq];omega))
     have R3:=Lib.hid (below_only (g:=h) E0.out hgr2 (by omega))
     clear hres hgr2 HL
     simp only[fr,fill,exa,spx,List.map_cons,List.map_nil,List.getElem?_cons_zero,List.getElem?_cons_succ,List.setIfInBounds_toArray,List.set_cons_zero,List.set_cons_succ]
     go_wp2_with fail
     go_roundw
     case rel=>exact⟨7,by omega,by omega,rfl,R0.out,R1.out,R2.out,R3.out⟩
     case measure=>simp[intOf]
   ·rw[show((7:Nat):Int)=7 from rfl]
    go_upto_region 5 with(fail)
    have HL:=HH.out
    refine wp_region_o (sp:=[some (.int .i64 7),some (.int .i64 7),some (.int .i64 6),some (.pointer (some ⟨h,1,none⟩)),some (.pointer (some ⟨h,121,none⟩)),some (.agg (f 6).v),some (.agg (f 1).v),some (.agg (f 7).v),some (.pointer (some ⟨h,1,none⟩)),some (.pointer (some ⟨h,141,none⟩)),none]) (vs:=[]) (out:=some ⟨10,h,65,tarr (.slice A n c) (upto f 7),tarr (.slice A n c) (upto f 8)⟩) (by kernel_rfl) (by kernel_rfl) (by kernel_rfl) (by kernel_rfl) (by kernel_rfl) (fun r hr=>by obtain rfl:_=r:=Option.some.inj hr;exact⟨CC0.out.lt,CC0.out,Nat.le_of_ble_eq_true (by kernel_rfl)⟩) ?_ ?_
    refine Each.cons ?_<|Each.cons ?_<|Each.cons ?_<|Each.cons ?_<|Each.cons ?_<|Each.cons ?_<|Each.cons ?_<|Each.cons ?_<|Each.cons ?_<|Each.cons ?_<|Each.cons ?_<|Each.nil
    ·exact OV.val (.int .i64 7) (by kernel_rfl) (fun γ=>by kernel_rfl) (by kernel_rfl) (fun γ w=>by kernel_rfl)
    ·exact OV.val (.int .i64 7) (by kernel_rfl) (fun γ=>by kernel_rfl) (by kernel_rfl) (fun γ w=>by kernel_rfl)
    ·exact OV.val (.int .i64 6) (by kernel_rfl) (fun γ=>by kernel_rfl) (by kernel_rfl) (fun γ w=>by kernel_rfl)
    ·exact OV.val (.pointer (some ⟨h,1,none⟩)) (by kernel_rfl) (fun γ=>by kernel_rfl) (by kernel_rfl) (fun γ w=>by kernel_rfl)
    ·exact OV.val (.pointer (some ⟨h,121,none⟩)) (by kernel_rfl) (fun γ=>by kernel_rfl) (by kernel_rfl) (fun γ w=>by kernel_rfl)
    ·exact OV.load_out (by kernel_rfl) 121 20 (f 6).v 33 (.tmp 20) _ (by kernel_rfl) (fun γ=>by kernel_rfl) (by kernel_rfl) rfl (fun γ=>by kernel_rfl) (by kernel_rfl) (by kernel_rfl) Tryz.underlying33 rfl sizeP
    ·exact OV.load w.heap.size 0 20 33 (f 1).v CC1.out (by simp only[Option.map_some,ne_eq,Option.some.injEq];omega) (f 1).v 33 (.tmp 3) _ (by kernel_rfl) (fun γ=>by kernel_rfl) (by kernel_rfl) rfl (fun γ=>by kernel_rfl) (by kernel_rfl) (by kernel_rfl) Tryz.underlying33 rfl sizeP
    ·exact OV.call 14 #[.agg (f 6).v,.agg (f 1).v] (.agg (f 7).v) (by kernel_rfl) (fun γ=>by kernel_rfl) (by kernel_rfl) (fun γ w=>by kernel_rfl) (fun w' hg=>AD.out 6 (by decide) w' (TB.out.below (below_only (g:=h) E0.out hg (by omega))))
    ·exact OV.val (.pointer (some ⟨h,1,none⟩)) (by kernel_rfl) (fun γ=>by kernel_rfl) (by kernel_rfl) (fun γ w=>by kernel_rfl)
    ·exact OV.val (.pointer (some ⟨h,141,none⟩)) (by kernel_rfl) (fun γ=>by kernel_rfl) (by kernel_rfl) (fun γ w=>by kernel_rfl)
    ·exact OV.res_mid rfl (by kernel_rfl) (by kernel_rfl) (fun γ=>by kernel_rfl) 33 (.tmp 25) (.tmp 23) rfl 141 (f 7).v (fun γ=>by kernel_rfl) (fun γ=>by kernel_rfl) (by kernel_rfl) (by kernel_rfl) sizeP (KP.ones _)
    ·intro γ W2 hgr2 hat hx2 hres
     clear hat hx2
     have R0:=Lib.hid (hres _ rfl)
     have R1:=Lib.hid (CC1.out.grown hgr2 (by simp only[Option.map_some,ne_eq,Option.some.injEq];omega))
     have R2:=Lib.hid (CC2.out.grown hgr2 (by simp only[Option.map_some,ne_eq,Option.some.injEq];omega))
     have R3:=Lib.hid (below_only (g:=h) E0.out hgr2 (by omega))
     clear hres hgr2 HL
     simp only[fr,fill,exa,spx,List.map_cons,List.map_nil,List.getElem?_cons_zero,List.getElem?_cons_succ,List.setIfInBounds_toArray,List.set_cons_zero,List.set_cons_succ]
     go_wp2_with fail
     go_roundw
     case rel=>exact⟨8,by omega,by omega,rfl,R0.out,R1.out,R2.out,R3.out⟩
     case measure=>simp[intOf]
   ·rw[show((8:Nat):Int)=8 from rfl]
    go_upto_region 5 with(fail)
    have HL:=HH.out
    refine wp_region_o (sp:=[some (.int .i64 8),some (.int .i64 8),some (.int .i64 7),some (.pointer (some ⟨h,1,none⟩)),some (.pointer (some ⟨h,141,none⟩)),some (.agg (f 7).v),some (.agg (f 1).v),some (.agg (f 8).v),some (.pointer (some ⟨h,1,none⟩)),some (.pointer (some ⟨h,161,none⟩)),none]) (vs:=[]) (out:=some ⟨10,h,65,tarr (.slice A n c) (upto f 8),tarr (.slice A n c) (upto f 9)⟩) (by kernel_rfl) (by kernel_rfl) (by kernel_rfl) (by kernel_rfl) (by kernel_rfl) (fun r hr=>by obtain rfl:_=r:=Option.some.inj hr;exact⟨CC0.out.lt,CC0.out,Nat.le_of_ble_eq_true (by kernel_rfl)⟩) ?_ ?_
    refine Each.cons ?_<|Each.cons ?_<|Each.cons ?_<|Each.cons ?_<|Each.cons ?_<|Each.cons ?_<|Each.cons ?_<|Each.cons ?_<|Each.cons ?_<|Each.cons ?_<|Each.cons ?_<|Each.nil
    ·exact OV.val (.int .i64 8) (by kernel_rfl) (fun γ=>by kernel_rfl) (by kernel_rfl) (fun γ w=>by kernel_rfl)
    ·exact OV.val (.int .i64 8) (by kernel_rfl) (fun γ=>by kernel_rfl) (by kernel_rfl) (fun γ w=>by kernel_rfl)
    ·exact OV.val (.int .i64 7) (by kernel_rfl) (fun γ=>by kernel_rfl) (by kernel_rfl) (fun γ w=>by kernel_rfl)
    ·exact OV.val (.pointer (some ⟨h,1,none⟩)) (by kernel_rfl) (fun γ=>by kernel_rfl) (by kernel_rfl) (fun γ w=>by kernel_rfl)
    ·exact OV.val (.pointer (some ⟨h,141,none⟩)) (by kernel_rfl) (fun γ=>by kernel_rfl) (by kernel_rfl) (fun γ w=>by kernel_rfl)
    ·exact OV.load_out (by kernel_rfl) 141 20 (f 7).v 33 (.tmp 20) _ (by kernel_rfl) (fun γ=>by kernel_rfl) (by kernel_rfl) rfl (fun γ=>by kernel_rfl) (by kernel_rfl) (by kernel_rfl) Tryz.underlying33 rfl sizeP
    ·exact OV.load w.heap.size 0 20 33 (f 1).v CC1.out (by simp only[Option.map_some,ne_eq,Option.some.injEq];omega) (f 1).v 33 (.tmp 3) _ (by kernel_rfl) (fun γ=>by kernel_rfl) (by kernel_rfl) rfl (fun γ=>by kernel_rfl) (by kernel_rfl) (by kernel_rfl) Tryz.underlying33 rfl sizeP
    ·exact OV.call 14 #[.agg (f 7).v,.agg (f 1).v] (.agg (f 8).v) (by kernel_rfl) (fun γ=>by kernel_rfl) (by kernel_rfl) (fun γ w=>by kernel_rfl) (fun w' hg=>AD.out 7 (by decide) w' (TB.out.below (below_only (g:=h) E0.out hg (by omega))))
    ·exact OV.val (.pointer (some ⟨h,1,none⟩)) (by kernel_rfl) (fun γ=>by kernel_rfl) (by kernel_rfl) (fun γ w=>by kernel_rfl)
    ·exact OV.val (.pointer (some ⟨h,161,none⟩)) (by kernel_rfl) (fun γ=>by kernel_rfl) (by kernel_rfl) (fun γ w=>by kernel_rfl)
    ·exact OV.res_mid rfl (by kernel_rfl) (by kernel_rfl) (fun γ=>by kernel_rfl) 33 (.tmp 25) (.tmp 23) rfl 161 (f 8).v (fun γ=>by kernel_rfl) (fun γ=>by kernel_rfl) (by kernel_rfl) (by kernel_rfl) sizeP (KP.ones _)
    ·intro γ W2 hgr2 hat hx2 hres
     clear hat hx2
     have R0:=Lib.hid (hres _ rfl)
     have R1:=Lib.hid (CC1.out.grown hgr2 (by simp only[Option.map_some,ne_eq,Option.some.injEq];omega))
     have R2:=Lib.hid (CC2.out.grown hgr2 (by simp only[Option.map_some,ne_eq,Option.some.injEq];omega))
     have R3:=Lib.hid (below_only (g:=h) E0.out hgr2 (by omega))
     clear hres hgr2 HL
     simp only[fr,fill,exa,spx,List.map_cons,List.map_nil,List.getElem?_cons_zero,List.getElem?_cons_succ,List.setIfInBounds_toArray,List.set_cons_zero,List.set_cons_succ]
     go_wp2_with fail
     go_roundw
     case rel=>exact⟨9,by omega,by omega,rfl,R0.out,R1.out,R2.out,R3.out⟩
     case measure=>simp[intOf]
   ·rw[show((9:Nat):Int)=9 from rfl]
    go_upto_region 5 with(fail)
    have HL:=HH.out
    refine wp_region_o (sp:=[some (.int .i64 9),some (.int .i64 9),some (.int .i64 8),some (.pointer (some ⟨h,1,none⟩)),some (.pointer (some ⟨h,161,none⟩)),some (.agg (f 8).v),some (.agg (f 1).v),some (.agg (f 9).v),some (.pointer (some ⟨h,1,none⟩)),some (.pointer (some ⟨h,181,none⟩)),none]) (vs:=[]) (out:=some ⟨10,h,65,tarr (.slice A n c) (upto f 9),tarr (.slice A n c) (upto f 10)⟩) (by kernel_rfl) (by kernel_rfl) (by kernel_rfl) (by kernel_rfl) (by kernel_rfl) (fun r hr=>by obtain rfl:_=r:=Option.some.inj hr;exact⟨CC0.out.lt,CC0.out,Nat.le_of_ble_eq_true (by kernel_rfl)⟩) ?_ ?_
    refine Each.cons ?_<|Each.cons ?_<|Each.cons ?_<|Each.cons ?_<|Each.cons ?_<|Each.cons ?_<|Each.cons ?_<|Each.cons ?_<|Each.cons ?_<|Each.cons ?_<|Each.cons ?_<|Each.nil
    ·exact OV.val (.int .i64 9) (by kernel_rfl) (fun γ=>by kernel_rfl) (by kernel_rfl) (fun γ w=>by kernel_rfl)
    ·exact OV.val (.int .i64 9) (by kernel_rfl) (fun γ=>by kernel_rfl) (by kernel_rfl) (fun γ w=>by kernel_rfl)
    ·exact OV.val (.int .i64 8) (by kernel_rfl) (fun γ=>by kernel_rfl) (by kernel_rfl) (fun γ w=>by kernel_rfl)
    ·exact OV.val (.pointer (some ⟨h,1,none⟩)) (by kernel_rfl) (fun γ=>by kernel_rfl) (by kernel_rfl) (fun γ w=>by kernel_rfl)
    ·exact OV.val (.pointer (some ⟨h,161,none⟩)) (by kernel_rfl) (fun γ=>by kernel_rfl) (by kernel_rfl) (fun γ w=>by kernel_rfl)
    ·exact OV.load_out (by kernel_rfl) 161 20 (f 8).v 33 (.tmp 20) _ (by kernel_rfl) (fun γ=>by kernel_rfl) (by kernel_rfl) rfl (fun γ=>by kernel_rfl) (by kernel_rfl) (by kernel_rfl) Tryz.underlying33 rfl sizeP
    ·exact OV.load w.heap.size 0 20 33 (f 1).v CC1.out (by simp only[Option.map_some,ne_eq,Option.some.injEq];omega) (f 1).v 33 (.tmp 3) _ (by kernel_rfl) (fun γ=>by kernel_rfl) (by kernel_rfl) rfl (fun γ=>by kernel_rfl) (by kernel_rfl) (by kernel_rfl) Tryz.underlying33 rfl sizeP
    ·exact OV.call 14 #[.agg (f 8).v,.agg (f 1).v] (.agg (f 9).v) (by kernel_rfl) (fun γ=>by kernel_rfl) (by kernel_rfl) (fun γ w=>by kernel_rfl) (fun w' hg=>AD.out 8 (by decide) w' (TB.out.below (below_only (g:=h) E0.out hg (by omega))))
    ·exact OV.val (.pointer (some ⟨h,1,none⟩)) (by kernel_rfl) (fun γ=>by kernel_rfl) (by kernel_rfl) (fun γ w=>by kernel_rfl)
    ·exact OV.val (.pointer (some ⟨h,181,none⟩)) (by kernel_rfl) (fun γ=>by kernel_rfl) (by kernel_rfl) (fun γ w=>by kernel_rfl)
    ·exact OV.res_mid rfl (by kernel_rfl) (by kernel_rfl) (fun γ=>by kernel_rfl) 33 (.tmp 25) (.tmp 23) rfl 181 (f 9).v (fun γ=>by kernel_rfl) (fun γ=>by kernel_rfl) (by kernel_rfl) (by kernel_rfl) sizeP (KP.ones _)
    ·intro γ W2 hgr2 hat hx2 hres
     clear hat hx2
     have R0:=Lib.hid (hres _ rfl)
     have R1:=Lib.hid (CC1.out.grown hgr2 (by simp only[Option.map_some,ne_eq,Option.some.injEq];omega))
     have R2:=Lib.hid (CC2.out.grown hgr2 (by simp only[Option.map_some,ne_eq,Option.some.injEq];omega))
     have R3:=Lib.hid (below_only (g:=h) E0.out hgr2 (by omega))
     clear hres hgr2 HL
     simp only[fr,fill,exa,spx,List.map_cons,List.map_nil,List.getElem?_cons_zero,List.getElem?_cons_succ,List.setIfInBounds_toArray,List.set_cons_zero,List.set_cons_succ]
     go_wp2_with fail
     go_roundw
     case rel=>exact⟨10,by omega,by omega,rfl,R0.out,R1.out,R2.out,R3.out⟩
     case measure=>simp[intOf]
   ·rw[show((10:Nat):Int)=10 from rfl]
    go_upto_region 5 with(fail)
    have HL:=HH.out
    refine wp_region_o (sp:=[some (.int .i64 10),some (.int .i64 10),some (.int .i64 9),some (.pointer (some ⟨h,1,none⟩)),some (.pointer (some ⟨h,181,none⟩)),some (.agg (f 9).v),some (.agg (f 1).v),some (.agg (f 10).v),some (.pointer (some ⟨h,1,none⟩)),some (.pointer (some ⟨h,201,none⟩)),none]) (vs:=[]) (out:=some ⟨10,h,65,tarr (.slice A n c) (upto f 10),tarr (.slice A n c) (upto f 11)⟩) (by kernel_rfl) (by kernel_rfl) (by kernel_rfl) (by kernel_rfl) (by kernel_rfl) (fun r hr=>by obtain rfl:_=r:=Option.some.inj hr;exact⟨CC0.out.lt,CC0.out,Nat.le_of_ble_eq_true (by kernel_rfl)⟩) ?_ ?_
    refine Each.cons ?_<|Each.cons ?_<|Each.cons ?_<|Each.cons ?_<|Each.cons ?_<|Each.cons ?_<|Each.cons ?_<|Each.cons ?_<|Each.cons ?_<|Each.cons ?_<|Each.cons ?_<|Each.nil
    ·exact OV.val (.int .i64 10) (by kernel_rfl) (fun γ=>by kernel_rfl) (by kernel_rfl) (fun γ w=>by kernel_rfl)
    ·exact OV.val (.int .i64 10) (by kernel_rfl) (fun γ=>by kernel_rfl) (by kernel_rfl) (fun γ w=>by kernel_rfl)
    ·exact OV.val (.int .i64 9) (by kernel_rfl) (fun γ=>by kernel_rfl) (by kernel_rfl) (fun γ w=>by kernel_rfl)
    ·exact OV.val (.pointer (some ⟨h,1,none⟩)) (by kernel_rfl) (fun γ=>by kernel_rfl) (by kernel_rfl) (fun γ w=>by kernel_rfl)
    ·exact OV.val (.pointer (some ⟨h,181,none⟩)) (by kernel_rfl) (fun γ=>by kernel_rfl) (by kernel_rfl) (fun γ w=>by kernel_rfl)
    ·exact OV.load_out (by kernel_rfl) 181 20 (f 9).v 33 (.tmp 20) _ (by kernel_rfl) (fun γ=>by kernel_rfl) (by kernel_rfl) rfl (fun γ=>by kernel_rfl) (by kernel_rfl) (by kernel_rfl) Tryz.underlying33 rfl sizeP
    ·exact OV.load w.heap.size 0 20 33 (f 1).v CC1.out (by simp only[Option.map_some,ne_eq,Option.some.injEq];omega) (f 1).v 33 (.tmp 3) _ (by kernel_rfl) (fun γ=>by kernel_rfl) (by kernel_rfl) rfl (fun γ=>by kernel_rfl) (by kernel_rfl) (by kernel_rfl) Tryz.underlying33 rfl sizeP
    ·exact OV.call 14 #[.agg (f 9).v,.agg (f 1).v] (.agg (f 10).v) (by kernel_rfl) (fun γ=>by kernel_rfl) (by kernel_rfl) (fun γ w=>by kernel_rfl) (fun w' hg=>AD.out 9 (by decide) w' (TB.out.below (below_only (g:=h) E0.out hg (by omega))))
    ·exact OV.val (.pointer (some ⟨h,1,none⟩)) (by kernel_rfl) (fun γ=>by kernel_rfl) (by kernel_rfl) (fun γ w=>by kernel_rfl)
    ·exact OV.val (.pointer (some ⟨h,201,none⟩)) (by kernel_rfl) (fun γ=>by kernel_rfl) (by kernel_rfl) (fun γ w=>by kernel_rfl)
    ·exact OV.res_mid rfl (by kernel_rfl) (by kernel_rfl) (fun γ=>by kernel_rfl) 33 (.tmp 25) (.tmp 23) rfl 201 (f 10).v (fun γ=>by kernel_rfl) (fun γ=>by kernel_rfl) (by kernel_rfl) (by kernel_rfl) sizeP (KP.ones _)
    ·intro γ W2 hgr2 hat hx2 hres
     clear hat hx2
     have R0:=Lib.hid (hres _ rfl)
     have R1:=Lib.hid (CC1.out.grown hgr2 (by simp only[Option.map_some,ne_eq,Option.some.injEq];omega))
     have R2:=Lib.hid (CC2.out.grown hgr2 (by simp only[Option.map_some,ne_eq,Option.some.injEq];omega))
     have R3:=Lib.hid (below_only (g:=h) E0.out hgr2 (by omega))
     clear hres hgr2 HL
     simp only[fr,fill,exa,spx,List.map_cons,List.map_nil,List.getElem?_cons_zero,List.getElem?_cons_succ,List.setIfInBounds_toArray,List.set_cons_zero,List.set_cons_succ]
     go_wp2_with fail
     go_roundw
     case rel=>exact⟨11,by omega,by omega,rfl,R0.out,R1.out,R2.out,R3.out⟩
     case measure=>simp[intOf]
   ·rw[show((11:Nat):Int)=11 from rfl]
    go_upto_region 5 with(fail)
    have HL:=HH.out
    refine wp_region_o (sp:=[some (.int .i64 11),some (.int .i64 11),some (.int .i64 10),some (.pointer (some ⟨h,1,none⟩)),some (.pointer (some ⟨h,201,none⟩)),some (.agg (f 10).v),some (.agg (f 1).v),some (.agg (f 11).v),some (.pointer (some ⟨h,1,none⟩)),some (.pointer (some ⟨h,221,none⟩)),none]) (vs:=[]) (out:=some ⟨10,h,65,tarr (.slice A n c) (upto f 11),tarr (.slice A n c) (upto f 12)⟩) (by kernel_rfl) (by kernel_rfl) (by kernel_rfl) (by kernel_rfl) (by kernel_rfl) (fun r hr=>by obtain rfl:_=r:=Option.some.inj hr;exact⟨CC0.out.lt,CC0.out,Nat.le_of_ble_eq_true (by kernel_rfl)⟩) ?_ ?_
    refine Each.cons ?_<|Each.cons ?_<|Each.cons ?_<|Each.cons ?_<|Each.cons ?_<|Each.cons ?_<|Each.cons ?_<|Each.cons ?_<|Each.cons ?_<|Each.cons ?_<|Each.cons ?_<|Each.nil
    ·exact OV.val (.int .i64 11) (by kernel_rfl) (fun γ=>by kernel_rfl) (by kernel_rfl) (fun γ w=>by kernel_rfl)
    ·exact OV.val (.int .i64 11) (by kernel_rfl) (fun γ=>by kernel_rfl) (by kernel_rfl) (fun γ w=>by kernel_rfl)
    ·exact OV.val (.int .i64 10) (by kernel_rfl) (fun γ=>by kernel_rfl) (by kernel_rfl) (fun γ w=>by kernel_rfl)
    ·exact OV.val (.pointer (some ⟨h,1,none⟩)) (by kernel_rfl) (fun γ=>by kernel_rfl) (by kernel_rfl) (fun γ w=>by kernel_rfl)
    ·exact OV.val (.pointer (some ⟨h,201,none⟩)) (by kernel_rfl) (fun γ=>by kernel_rfl) (by kernel_rfl) (fun γ w=>by kernel_rfl)
    ·exact OV.load_out (by kernel_rfl) 201 20 (f 10).v 33 (.tmp 20) _ (by kernel_rfl) (fun γ=>by kernel_rfl) (by kernel_rfl) rfl (fun γ=>by kernel_rfl) (by kernel_rfl) (by kernel_rfl) Tryz.underlying33 rfl sizeP
    ·exact OV.load w.heap.size 0 20 33 (f 1).v CC1.out (by simp only[Option.map_some,ne_eq,Option.some.injEq];omega) (f 1).v 33 (.tmp 3) _ (by kernel_rfl) (fun γ=>by kernel_rfl) (by kernel_rfl) rfl (fun γ=>by kernel_rfl) (by kernel_rfl) (by kernel_rfl) Tryz.underlying33 rfl sizeP
    ·exact OV.call 14 #[.agg (f 10).v,.agg (f 1).v] (.agg (f 11).v) (by kernel_rfl) (fun γ=>by kernel_rfl) (by kernel_rfl) (fun γ w=>by kernel_rfl) (fun w' hg=>AD.out 10 (by decide) w' (TB.out.below (below_only (g:=h) E0.out hg (by omega))))
    ·exact OV.val (.pointer (some ⟨h,1,none⟩)) (by kernel_rfl) (fun γ=>by kernel_rfl) (by kernel_rfl) (fun γ w=>by kernel_rfl)
    ·exact OV.val (.pointer (some ⟨h,221,none⟩)) (by kernel_rfl) (fun γ=>by kernel_rfl) (by kernel_rfl) (fun γ w=>by kernel_rfl)
    ·exact OV.res_mid rfl (by kernel_rfl) (by kernel_rfl) (fun γ=>by kernel_rfl) 33 (.tmp 25) (.tmp 23) rfl 221 (f 11).v (fun γ=>by kernel_rfl) (fun γ=>by kernel_rfl) (by kernel_rfl) (by kernel_rfl) sizeP (KP.ones _)
    ·intro γ W2 hgr2 hat hx2 hres
     clear hat hx2
     have R0:=Lib.hid (hres _ rfl)
     have R1:=Lib.hid (CC1.out.grown hgr2 (by simp only[Option.map_some,ne_eq,Option.some.injEq];omega))
     have R2:=Lib.hid (CC2.out.grown hgr2 (by simp only[Option.map_some,ne_eq,Option.some.injEq];omega))
     have R3:=Lib.hid (below_only (g:=h) E0.out hgr2 (by omega))
     clear hres hgr2 HL
     simp only[fr,fill,exa,spx,List.map_cons,List.map_nil,List.getElem?_cons_zero,List.getElem?_cons_succ,List.setIfInBounds_toArray,List.set_cons_zero,List.set_cons_succ]
     go_wp2_with fail
     go_roundw
     case rel=>exact⟨12,by omega,by omega,rfl,R0.out,R1.out,R2.out,R3.out⟩
     case measure=>simp[intOf]
   ·rw[show((12:Nat):Int)=12 from rfl]
    go_upto_region 5 with(fail)
    have HL:=HH.out
    refine wp_region_o (sp:=[some (.int .i64 12),some (.int .i64 12),some (.int .i64 11),some (.pointer (some ⟨h,1,none⟩)),some (.pointer (some ⟨h,221,none⟩)),some (.agg (f 11).v),some (.agg (f 1).v),some (.agg (f 12).v),some (.pointer (some ⟨h,1,none⟩)),some (.pointer (some ⟨h,241,none⟩)),none]) (vs:=[]) (out:=some ⟨10,h,65,tarr (.slice A n c) (upto f 12),tarr (.slice A n c) (upto f 13)⟩) (by kernel_rfl) (by kernel_rfl) (by kernel_rfl) (by kernel_rfl) (by kernel_rfl) (fun r hr=>by obtain rfl:_=r:=Option.some.inj hr;exact⟨CC0.out.lt,CC0.out,Nat.le_of_ble_eq_true (by kernel_rfl)⟩) ?_ ?_
    refine Each.cons ?_<|Each.cons ?_<|Each.cons ?_<|Each.cons ?_<|Each.cons ?_<|Each.cons ?_<|Each.cons ?_<|Each.cons ?_<|Each.cons ?_<|Each.cons ?_<|Each.cons ?_<|Each.nil
    ·exact OV.val (.int .i64 12) (by kernel_rfl) (fun γ=>by kernel_rfl) (by kernel_rfl) (fun γ w=>by kernel_rfl)
    ·exact OV.val (.int .i64 12) (by kernel_rfl) (fun γ=>by kernel_rfl) (by kernel_rfl) (fun γ w=>by kernel_rfl)
    ·exact OV.val (.int .i64 11) (by kernel_rfl) (fun γ=>by kernel_rfl) (by kernel_rfl) (fun γ w=>by kernel_rfl)
    ·exact OV.val (.pointer (some ⟨h,1,none⟩)) (by kernel_rfl) (fun γ=>by kernel_rfl) (by kernel_rfl) (fun γ w=>by kernel_rfl)
    ·exact OV.val (.pointer (some ⟨h,221,none⟩)) (by kernel_rfl) (fun γ=>by kernel_rfl) (by kernel_rfl) (fun γ w=>by kernel_rfl)
    ·exact OV.load_out (by kernel_rfl) 221 20 (f 11).v 33 (.tmp 20) _ (by kernel_rfl) (fun γ=>by kernel_rfl) (by kernel_rfl) rfl (fun γ=>by kernel_rfl) (by kernel_rfl) (by kernel_rfl) Tryz.underlying33 rfl sizeP
    ·exact OV.load w.heap.size 0 20 33 (f 1).v CC1.out (by simp only[Option.map_some,ne_eq,Option.some.injEq];omega) (f 1).v 33 (.tmp 3) _ (by kernel_rfl) (fun γ=>by kernel_rfl) (by kernel_rfl) rfl (fun γ=>by kernel_rfl) (by kernel_rfl) (by kernel_rfl) Tryz.underlying33 rfl sizeP
    ·exact OV.call 14 #[.agg (f 11).v,.agg (f 1).v] (.agg (f 12).v) (by kernel_rfl) (fun γ=>by kernel_rfl) (by kernel_rfl) (fun γ w=>by kernel_rfl) (fun w' hg=>AD.out 11 (by decide) w' (TB.out.below (below_only (g:=h) E0.out hg (by omega))))
    ·exact OV.val (.pointer (some ⟨h,1,none⟩)) (by kernel_rfl) (fun γ=>by kernel_rfl) (by kernel_rfl) (fun γ w=>by kernel_rfl)
    ·exact OV.val (.pointer (some ⟨h,241,none⟩)) (by kernel_rfl) (fun γ=>by kernel_rfl) (by kernel_rfl) (fun γ w=>by kernel_rfl)
    ·exact OV.res_mid rfl (by kernel_rfl) (by kernel_rfl) (fun γ=>by kernel_rfl) 33 (.tmp 25) (.tmp 23) rfl 241 (f 12).v (fun γ=>by kernel_rfl) (fun γ=>by kernel_rfl) (by kernel_rfl) (by kernel_rfl) sizeP (KP.ones _)
    ·intro γ W2 hgr2 hat hx2 hres
     clear hat hx2
     have R0:=Lib.hid (hres _ rfl)
     have R1:=Lib.hid (CC1.out.grown hgr2 (by simp only[Option.map_some,ne_eq,Option.some.injEq];omega))
     have R2:=Lib.hid (CC2.out.grown hgr2 (by simp only[Option.map_some,ne_eq,Option.some.injEq];omega))
     have R3:=Lib.hid (below_only (g:=h) E0.out hgr2 (by omega))
     clear hres hgr2 HL
     simp only[fr,fill,exa,spx,List.map_cons,List.map_nil,List.getElem?_cons_zero,List.getElem?_cons_succ,List.setIfInBounds_toArray,List.set_cons_zero,List.set_cons_succ]
     go_wp2_with fail
     go_roundw
     case rel=>exact⟨13,by omega,by omega,rfl,R0.out,R1.out,R2.out,R3.out⟩
     case measure=>simp[intOf]
   ·rw[show((13:Nat):Int)=13 from rfl]
    go_upto_region 5 with(fail)
    have HL:=HH.out
    refine wp_region_o (sp:=[some (.int .i64 13),some (.int .i64 13),some (.int .i64 12),some (.pointer (some ⟨h,1,none⟩)),some (.pointer (some ⟨h,241,none⟩)),some (.agg (f 12).v),some (.agg (f 1).v),some (.agg (f 13).v),some (.pointer (some ⟨h,1,none⟩)),some (.pointer (some ⟨h,261,none⟩)),none]) (vs:=[]) (out:=some ⟨10,h,65,tarr (.slice A n c) (upto f 13),tarr (.slice A n c) (upto f 14)⟩) (by kernel_rfl) (by kernel_rfl) (by kernel_rfl) (by kernel_rfl) (by kernel_rfl) (fun r hr=>by obtain rfl:_=r:=Option.some.inj hr;exact⟨CC0.out.lt,CC0.out,Nat.le_of_ble_eq_true (by kernel_rfl)⟩) ?_ ?_
    refine Each.cons ?_<|Each.cons ?_<|Each.cons ?_<|Each.cons ?_<|Each.cons ?_<|Each.cons ?_<|Each.cons ?_<|Each.cons ?_<|Each.cons ?_<|Each.cons ?_<|Each.cons ?_<|Each.nil
    ·exact OV.val (.int .i64 13) (by kernel_rfl) (fun γ=>by kernel_rfl) (by kernel_rfl) (fun γ w=>by kernel_rfl)
    ·exact OV.val (.int .i64 13) (by kernel_rfl) (fun γ=>by kernel_rfl) (by kernel_rfl) (fun γ w=>by kernel_rfl)
    ·exact OV.val (.int .i64 12) (by kernel_rfl) (fun γ=>by kernel_rfl) (by kernel_rfl) (fun γ w=>by kernel_rfl)
    ·exact OV.val (.pointer (some ⟨h,1,none⟩)) (by kernel_rfl) (fun γ=>by kernel_rfl) (by kernel_rfl) (fun γ w=>by kernel_rfl)
    ·exact OV.val (.pointer (some ⟨h,241,none⟩)) (by kernel_rfl) (fun γ=>by kernel_rfl) (by kernel_rfl) (fun γ w=>by kernel_rfl)
    ·exact OV.load_out (by kernel_rfl) 241 20 (f 12).v 33 (.tmp 20) _ (by kernel_rfl) (fun γ=>by kernel_rfl) (by kernel_rfl) rfl (fun γ=>by kernel_rfl) (by kernel_rfl) (by kernel_rfl) Tryz.underlying33 rfl sizeP
    ·exact OV.load w.heap.size 0 20 33 (f 1).v CC1.out (by simp only[Option.map_some,ne_eq,Option.some.injEq];omega) (f 1).v 33 (.tmp 3) _ (by kernel_rfl) (fun γ=>by kernel_rfl) (by kernel_rfl) rfl (fun γ=>by kernel_rfl) (by kernel_rfl) (by kernel_rfl) Tryz.underlying33 rfl sizeP
    ·exact OV.call 14 #[.agg (f 12).v,.agg (f 1).v] (.agg (f 13).v) (by kernel_rfl) (fun γ=>by kernel_rfl) (by kernel_rfl) (fun γ w=>by kernel_rfl) (fun w' hg=>AD.out 12 (by decide) w' (TB.out.below (below_only (g:=h) E0.out hg (by omega))))
    ·exact OV.val (.pointer (some ⟨h,1,none⟩)) (by kernel_rfl) (fun γ=>by kernel_rfl) (by kernel_rfl) (fun γ w=>by kernel_rfl)
    ·exact OV.val (.pointer (some ⟨h,261,none⟩)) (by kernel_rfl) (fun γ=>by kernel_rfl) (by kernel_rfl) (fun γ w=>by kernel_rfl)
    ·exact OV.res_mid rfl (by kernel_rfl) (by kernel_rfl) (fun γ=>by kernel_rfl) 33 (.tmp 25) (.tmp 23) rfl 261 (f 13).v (fun γ=>by kernel_rfl) (fun γ=>by kernel_rfl) (by kernel_rfl) (by kernel_rfl) sizeP (KP.ones _)
    ·intro γ W2 hgr2 hat hx2 hres
     clear hat hx2
     have R0:=Lib.hid (hres _ rfl)
     have R1:=Lib.hid (CC1.out.grown hgr2 (by simp only[Option.map_some,ne_eq,Option.some.injEq];omega))
     have R2:=Lib.hid (CC2.out.grown hgr2 (by simp only[Option.map_some,ne_eq,Option.some.injEq];omega))
     have R3:=Lib.hid (below_only (g:=h) E0.out hgr2 (by omega))
     clear hres hgr2 HL
     simp only[fr,fill,exa,spx,List.map_cons,List.map_nil,List.getElem?_cons_zero,List.getElem?_cons_succ,List.setIfInBounds_toArray,List.set_cons_zero,List.set_cons_succ]
     go_wp2_with fail
     go_roundw
     case rel=>exact⟨14,by omega,by omega,rfl,R0.out,R1.out,R2.out,R3.out⟩
     case measure=>simp[intOf]
   ·rw[show((14:Nat):Int)=14 from rfl]
    go_upto_region 5 with(fail)
    have HL:=HH.out
    refine wp_region_o (sp:=[some (.int .i64 14),some (.int .i64 14),some (.int .i64 13),some (.pointer (some ⟨h,1,none⟩)),some (.pointer (some ⟨h,261,none⟩)),some (.agg (f 13).v),some (.agg (f 1).v),some (.agg (f 14).v),some (.pointer (some ⟨h,1,none⟩)),some (.pointer (some ⟨h,281,none⟩)),none]) (vs:=[]) (out:=some ⟨10,h,65,tarr (.slice A n c) (upto f 14),tarr (.slice A n c) (upto f 15)⟩) (by kernel_rfl) (by kernel_rfl) (by kernel_rfl) (by kernel_rfl) (by kernel_rfl) (fun r hr=>by obtain rfl:_=r:=Option.some.inj hr;exact⟨CC0.out.lt,CC0.out,Nat.le_of_ble_eq_true (by kernel_rfl)⟩) ?_ ?_
    refine Each.cons ?_<|Each.cons ?_<|Each.cons ?_<|Each.cons ?_<|Each.cons ?_<|Each.cons ?_<|Each.cons ?_<|Each.cons ?_<|Each.cons ?_<|Each.cons ?_<|Each.cons ?_<|Each.nil
    ·exact OV.val (.int .i64 14) (by kernel_rfl) (fun γ=>by kernel_rfl) (by kernel_rfl) (fun γ w=>by kernel_rfl)
    ·exact OV.val (.int .i64 14) (by kernel_rfl) (fun γ=>by kernel_rfl) (by kernel_rfl) (fun γ w=>by kernel_rfl)
    ·exact OV.val (.int .i64 13) (by kernel_rfl) (fun γ=>by kernel_rfl) (by kernel_rfl) (fun γ w=>by kernel_rfl)
    ·exact OV.val (.pointer (some ⟨h,1,none⟩)) (by kernel_rfl) (fun γ=>by kernel_rfl) (by kernel_rfl) (fun γ w=>by kernel_rfl)
    ·exact OV.val (.pointer (some ⟨h,261,none⟩)) (by kernel_rfl) (fun γ=>by kernel_rfl) (by kernel_rfl) (fun γ w=>by kernel_rfl)
    ·exact OV.load_out (by kernel_rfl) 261 20 (f 13).v 33 (.tmp 20) _ (by kernel_rfl) (fun γ=>by kernel_rfl) (by kernel_rfl) rfl (fun γ=>by kernel_rfl) (by kernel_rfl) (by kernel_rfl) Tryz.underlying33 rfl sizeP
    ·exact OV.load w.heap.size 0 20 33 (f 1).v CC1.out (by simp only[Option.map_some,ne_eq,Option.some.injEq];omega) (f 1).v 33 (.tmp 3) _ (by kernel_rfl) (fun γ=>by kernel_rfl) (by kernel_rfl) rfl (fun γ=>by kernel_rfl) (by kernel_rfl) (by kernel_rfl) Tryz.underlying33 rfl sizeP
    ·exact OV.call 14 #[.agg (f 13).v,.agg (f 1).v] (.agg (f 14).v) (by kernel_rfl) (fun γ=>by kernel_rfl) (by kernel_rfl) (fun γ w=>by kernel_rfl) (fun w' hg=>AD.out 13 (by decide) w' (TB.out.below (below_only (g:=h) E0.out hg (by omega))))
    ·exact OV.val (.pointer (some ⟨h,1,none⟩)) (by kernel_rfl) (fun γ=>by kernel_rfl) (by kernel_rfl) (fun γ w=>by kernel_rfl)
    ·exact OV.val (.pointer (some ⟨h,281,none⟩)) (by kernel_rfl) (fun γ=>by kernel_rfl) (by kernel_rfl) (fun γ w=>by kernel_rfl)
    ·exact OV.res_mid rfl (by kernel_rfl) (by kernel_rfl) (fun γ=>by kernel_rfl) 33 (.tmp 25) (.tmp 23) rfl 281 (f 14).v (fun γ=>by kernel_rfl) (fun γ=>by kernel_rfl) (by kernel_rfl) (by kernel_rfl) sizeP (KP.ones _)
    ·intro γ W2 hgr2 hat hx2 hres
     clear hat hx2
     have R0:=Lib.hid (hres _ rfl)
     have R1:=Lib.hid (CC1.out.grown hgr2 (by simp only[Option.map_some,ne_eq,Option.some.injEq];omega))
     have R2:=Lib.hid (CC2.out.grown hgr2 (by simp only[Option.map_some,ne_eq,Option.some.injEq];omega))
     have R3:=Lib.hid (below_only (g:=h) E0.out hgr2 (by omega))
     clear hres hgr2 HL
     simp only[fr,fill,exa,spx,List.map_cons,List.map_nil,List.getElem?_cons_zero,List.getElem?_cons_succ,List.setIfInBounds_toArray,List.set_cons_zero,List.set_cons_succ]
     go_wp2_with fail
     go_roundw
     case rel=>exact⟨15,by omega,by omega,rfl,R0.out,R1.out,R2.out,R3.out⟩
     case measure=>simp[intOf]
   ·rw[show((15:Nat):Int)=15 from rfl]
    go_upto_region 5 with(fail)
    have HL:=HH.out
    refine wp_region_o (sp:=[some (.int .i64 15),some (.int .i64 15),some (.int .i64 14),some (.pointer (some ⟨h,1,none⟩)),some (.pointer (some ⟨h,281,none⟩)),some (.agg (f 14).v),some (.agg (f 1).v),some (.agg (f 15).v),some (.pointer (some ⟨h,1,none⟩)),some (.pointer (some ⟨h,301,none⟩)),none]) (vs:=[]) (out:=some ⟨10,h,65,tarr (.slice A n c) (upto f 15),tarr (.slice A n c) (upto f 16)⟩) (by kernel_rfl) (by kernel_rfl) (by kernel_rfl) (by kernel_rfl) (by kernel_rfl) (fun r hr=>by obtain rfl:_=r:=Option.some.inj hr;exact⟨CC0.out.lt,CC0.out,Nat.le_of_ble_eq_true (by kernel_rfl)⟩) ?_ ?_
    refine Each.cons ?_<|Each.cons ?_<|Each.cons ?_<|Each.cons ?_<|Each.cons ?_<|Each.cons ?_<|Each.cons ?_<|Each.cons ?_<|Each.cons ?_<|Each.cons ?_<|Each.cons ?_<|Each.nil
    ·exact OV.val (.int .i64 15) (by kernel_rfl) (fun γ=>by kernel_rfl) (by kernel_rfl) (fun γ w=>by kernel_rfl)
    ·exact OV.val (.int .i64 15) (by kernel_rfl) (fun γ=>by kernel_rfl) (by kernel_rfl) (fun γ w=>by kernel_rfl)
    ·exact OV.val (.int .i64 14) (by kernel_rfl) (fun γ=>by kernel_rfl) (by kernel_rfl) (fun γ w=>by kernel_rfl)
    ·exact OV.val (.pointer (some ⟨h,1,none⟩)) (by kernel_rfl) (fun γ=>by kernel_rfl) (by kernel_rfl) (fun γ w=>by kernel_rfl)
    ·exact OV.val (.pointer (some ⟨h,281,none⟩)) (by kernel_rfl) (fun γ=>by kernel_rfl) (by kernel_rfl) (fun γ w=>by kernel_rfl)
    ·exact OV.load_out (by kernel_rfl) 281 20 (f 14).v 33 (.tmp 20) _ (by kernel_rfl) (fun γ=>by kernel_rfl) (by kernel_rfl) rfl (fun γ=>by kernel_rfl) (by kernel_rfl) (by kernel_rfl) Tryz.underlying33 rfl sizeP
    ·exact OV.load w.heap.size 0 20 33 (f 1).v CC1.out (by simp only[Option.map_some,ne_eq,Option.some.injEq];omega) (f 1).v 33 (.tmp 3) _ (by kernel_rfl) (fun γ=>by kernel_rfl) (by kernel_rfl) rfl (fun γ=>by kernel_rfl) (by kernel_rfl) (by kernel_rfl) Tryz.underlying33 rfl sizeP
    ·exact OV.call 14 #[.agg (f 14).v,.agg (f 1).v] (.agg (f 15).v) (by kernel_rfl) (fun γ=>by kernel_rfl) (by kernel_rfl) (fun γ w=>by kernel_rfl) (fun w' hg=>AD.out 14 (by decide) w' (TB.out.below (below_only (g:=h) E0.out hg (by omega))))
    ·exact OV.val (.pointer (some ⟨h,1,none⟩)) (by kernel_rfl) (fun γ=>by kernel_rfl) (by kernel_rfl) (fun γ w=>by kernel_rfl)
    ·exact OV.val (.pointer (some ⟨h,301,none⟩)) (by kernel_rfl) (fun γ=>by kernel_rfl) (by kernel_rfl) (fun γ w=>by kernel_rfl)
    ·exact OV.res_mid rfl (by kernel_rfl) (by kernel_rfl) (fun γ=>by kernel_rfl) 33 (.tmp 25) (.tmp 23) rfl 301 (f 15).v (fun γ=>by kernel_rfl) (fun γ=>by kernel_rfl) (by kernel_rfl) (by kernel_rfl) sizeP (KP.ones _)
    ·intro γ W2 hgr2 hat hx2 hres
     clear hat hx2
     have R0:=Lib.hid (hres _ rfl)
     have R1:=Lib.hid (CC1.out.grown hgr2 (by simp only[Option.map_some,ne_eq,Option.some.injEq];omega))
     have R2:=Lib.hid (CC2.out.grown hgr2 (by simp only[Option.map_some,ne_eq,Option.some.injEq];omega))
     have R3:=Lib.hid (below_only (g:=h) E0.out hgr2 (by omega))
     clear hres hgr2 HL
     simp only[fr,fill,exa,spx,List.map_cons,List.map_nil,List.getElem?_cons_zero,List.getElem?_cons_succ,List.setIfInBounds_toArray,List.set_cons_zero,List.set_cons_succ]
     go_wp2_with fail
     go_roundw
     case rel=>exact⟨16,by omega,by omega,rfl,R0.out,R1.out,R2.out,R3.out⟩
     case measure=>simp[intOf]
  ·obtain rfl:k=16:=by omega
   rw[upto_all] at C0
   have CC0:=Lib.hid C0
   have CC2:=Lib.hid C2
   have E0:=Lib.hid C3
   clear C0 C1 C2 C3 hlt k2 k16
   rw[show((16:Nat):Int)=16 from rfl]
   go_upto_region 6 with(fail)
   have HL:=HH.out
   refine wp_region_o (sp:=[some (.agg (tarr (.slice A n c) f)),none]) (vs:=[]) (out:=some ⟨1,w.heap.size+1,65,Tryz.zeroCells65,tarr (.slice A n c) f⟩) (by kernel_rfl) (by kernel_rfl) (by kernel_rfl) (by kernel_rfl) (by kernel_rfl) (fun r hr=>by obtain rfl:_=r:=Option.some.inj hr;exact⟨CC2.out.lt,CC2.out,Nat.le_of_ble_eq_true (by kernel_rfl)⟩) ?_ ?_
   refine Each.cons ?_<|Each.cons ?_<|Each.nil
   ·exact OV.load h 0 321 65 (tarr (.slice A n c) f) CC0.out (by simp only[Option.map_some,ne_eq,Option.some.injEq];omega) (tarr (.slice A n c) f) 65 (.tmp 5) _ (by kernel_rfl) (fun γ=>by kernel_rfl) (by kernel_rfl) rfl (fun γ=>by kernel_rfl) (by kernel_rfl) (by kernel_rfl) Tryz.underlying65 rfl sizeT
   ·exact OV.res_ rfl (by kernel_rfl) (by kernel_rfl) (fun γ=>by kernel_rfl) 65 (.tmp 4) (.tmp 26) rfl (fun γ=>by kernel_rfl) (fun γ=>by kernel_rfl) (by kernel_rfl) sizeT (tarr_ones _ _ rfl)
   ·intro γ w' hgr hx1 hx2 hres
    clear hx1 hx2
    have hb:=hres _ rfl
    have hz:=below_only (g:=w.heap.size+1) E0.out hgr (by omega)
    go_wp2_with fail
    refine bodyPost_ret (v:=.agg (tarr (.slice A n c) f)) (results_cell 4 65 _ _ _ Tryz.results35 (by kernel_rfl) hb Tryz.underlying65 rfl sizeT) rfl ⟨rfl,hz⟩
def tbl(p:KP):Nat→KP
 |0=>kzero
 |1=>p
 |n+2=>(tbl p (n+1)).add p
theorem tbl_has{p:KP}{g:G}(h:Hp p g):∀n,Hp (tbl p n) (ti n g)
 |0=>kzero_has
 |1=>by rw[ti_one];exact h
 |n+2=>by
  have:=Hp.add (tbl_has h (n+1)) h
  rw[ti_table] at this
  exact this
theorem termOf_any(A:Option Addr)(n c:Nat)(p:KP)(w:World)(tab:TabE w) :
  Calls Tryz.prog 35 #[.slice A n c,.agg p.v] w fun e w'=>e=.returned (.agg (tarr (.slice A n c) (tbl p)))∧Below w.heap.size w w':=by
 refine termOf_walk A n c (tbl p) w tab Zero_any fun j hj w tab=>?_
 obtain⟨i,rfl⟩:∃i,j=i+1:=⟨j - 1,by omega⟩
 exact Add_any (tbl p (i+1)) p w tab
end Go.Proofs.YtoibhnpmemnlfaaGreatDoor.Ed
