/- Joined texts. -/
import Derived.IntWalk
import Derived.Test.YtjimhjfjfpeojaaGreatDoorQvEdL
set_option maxRecDepth 100000
set_option maxHeartbeats 8000000
set_option linter.unusedVariables false
namespace Go.Proofs.YtjimhjfjfpeojaaGreatDoor.Ed
open Go.RowKit Go.Proofs.YtjimhjfjfpeojaaGreatDoor.Gn Go.Proofs.YtjimhjfjfpeojaaGreatDoor.Fd Go.Deep
section
variable {P:Program} {ops:Array Oper} {Q:Exit→Act→World→Prop} {rest:List Oper} {o:Oper} {a:Act} {w w':World}
end
theorem Ziw:le (sec (List.replicate 32 0))=kz:=by decide +kernel
theorem Z4t{w:World}{g:Nat}{t:TypeId}{l:List Nat}(h:Bl w g t (bl l).toArray){i x:Nat}(hx:l[i]?=some x):w.cell? ⟨g,i,none⟩=some (.int .u8 (x:Int)):=by
 refine h.cell_ ?_
 simp[Z1f,hx]
theorem take_at{l:List Nat}{k:List Nat}{n i x:Nat}(h:l.take n=k)(hi:i < n)(hx:k[i]?=some x):l[i]?=some x:=by
 rw[←h,List.getElem?_take,if_pos hi] at hx;exact hx
theorem Zd8(kb kz0:KP)(LB LZ LK:List Nat)(w:World)(tab:TabE w)(ts:Sh.Tab w)
  (BC:∀w,TabE w→Calls Tryz.prog 41 #[] w fun e w'=>e=.returned (.agg kb.v)∧Below w.heap.size w w')
  (ZC:∀w,Calls Tryz.prog 38 #[] w fun e w'=>e=.returned (.agg kz0.v)∧Below w.heap.size w w')
  (EB:∀w,Calls Tryz.prog 16 #[.agg kb.v] w (RetB LB w))
  (EZ:∀w,Calls Tryz.prog 16 #[.agg kz0.v] w (RetB LZ w))
  (KC:∀(w:World) (q:Nat),TabE w→Sh.Tab w→q < w.heap.size→Sl w (some ⟨q,0,none⟩) 32 (bl (List.replicate 32 0))→Calls Tryz.prog 32 #[.slice (some ⟨q,0,none⟩) 32 32] w fun e w'=>∃g,e=.returned (.tuple #[.slice (some ⟨g,0,none⟩) 32 32,.int .i64 0])∧w.heap.size≤g∧Bl w' g 5 (bl LK).toArray∧Below w.heap.size w w')
  (lb:LB.length=32) (lz:LZ.length=32) (b0:LB[0]?=some 88) (b1:LB[1]?=some 102) (b31:LB[31]?=some 102) (z0:LZ[0]?=some 1) (z31:LZ[31]?=some 0) (k0:LK[0]?=some 59) (k1:LK[1]?=some 106) (k2:LK[2]?=some 39) (k3:LK[3]?=some 188) :
  Calls Tryz.prog 11 #[] w fun e w'=>e=.returned (.bool true)∧Below w.heap.size w w':=by
 have TB:=Lib.hid tab
 have TS:=Lib.hid ts
 replace BC:=Lib.hid BC
 replace ZC:=Lib.hid ZC
 replace EB:=Lib.hid EB
 replace EZ:=Lib.hid EZ
 replace KC:=Lib.hid KC
 have b0:=Lib.hid b0
 have b1:=Lib.hid b1
 have b31:=Lib.hid b31
 have z0:=Lib.hid z0
 have z31:=Lib.hid z31
 have k0:=Lib.hid k0
 have k1:=Lib.hid k1
 have k2:=Lib.hid k2
 have k3:=Lib.hid k3
 have HLB:=Lib.hid lb
 have HLZ:=Lib.hid lz
 clear tab ts lb lz
 go_enter Tryz.func11,Tryz.ntmps11
 go_upto_region 1 with(fail)
 refine wp_region_lit ?_
 refine Z06 41 #[] rfl (by kernel_rfl) ((BC.out _ TB.out).mono ?_)
 rintro e W1 ⟨rfl,D1⟩
 refine⟨_,rfl,?_⟩
 refine Z06 16 #[.agg kb.v] rfl (by kernel_rfl) ((EB.out _).mono ?_)
 rintro e W2 ⟨gb_,rfl,hgb,B2,E2⟩
 refine⟨_,rfl,?_⟩
 rw[HLB.out]
 have D2:=Z07 D1 (Nat.le_refl _) E2
 refine Z06 38 #[] rfl (by kernel_rfl) ((ZC.out _).mono ?_)
 rintro e W3 ⟨rfl,E3⟩
 refine⟨_,rfl,?_⟩
 have D3:=Z07 D2 (Nat.le_refl _) E3
 have B3:=B2.below' E3
 refine Z06 16 #[.agg kz0.v] rfl (by kernel_rfl) ((EZ.out _).mono ?_)
 rintro e W4 ⟨gz_,rfl,hgz,Z4,E4⟩
 refine⟨_,rfl,?_⟩
 rw[HLZ.out]
 have D4:=Z07 D3 (Nat.le_refl _) E4
 have B4:=B3.below' E4
 clear D1 D2 D3 B2 B3 E2 E3 E4 hgb hgz
 refine Z00 (.slice (some ⟨gb_,0,none⟩) 32 32) rfl (by kernel_rfl) ?_
 refine Z00 (.slice (some ⟨gz_,0,none⟩) 32 32) rfl (by kernel_rfl) ?_
 refine Z03 ?_
 simp only[Act.put,List.setIfInBounds_toArray,List.set_cons_zero,List.set_cons_succ]
 go_upto_region 2 with(fail)
 refine wp_region_lit ?_
 refine Z1o (W4.alloc (.cells (bl (List.replicate 32 0)).toArray 5)) (.slice (some ⟨W4.heap.size,0,none⟩) 32 32) rfl (by kernel_rfl) ?_
 have D5:=D4.alloc D4.size (.cells (bl (List.replicate 32 0)).toArray 5)
 have B5:=B4.alloc (.cells (bl (List.replicate 32 0)).toArray 5)
 have Z5:=Z4.alloc (.cells (bl (List.replicate 32 0)).toArray 5)
 have N5:=Sl.of_bl (Bl.new_ W4 5 (bl (List.replicate 32 0)).toArray) 0 32 (bl (List.replicate 32 0)) rfl (fun k v hv=>by rw[Nat.zero_add];simpa using hv)
 refine Z06 32 #[.slice (some ⟨W4.heap.size,0,none⟩) 32 32] rfl (by kernel_rfl) ((KC.out _ _ (TB.out.below D5) (TS.out.below D5) (by simp) N5).mono ?_)
 rintro e W6 ⟨gk,rfl,hgk,K6,E6⟩
 refine⟨_,rfl,?_⟩
 have D6:=Z07 D5 (Nat.le_refl _) E6
 have B6:=B5.below' E6
 have Z6:=Z5.below' E6
 clear D4 D5 B4 B5 Z4 Z5 N5 E6 hgk
 refine Z00 (.tuple #[.slice (some ⟨gk,0,none⟩) 32 32,.int .i64 0]) rfl (by kernel_rfl) ?_
 refine Z00 (.slice (some ⟨gk,0,none⟩) 32 32) rfl (by kernel_rfl) ?_
 refine Z00 (.int .i64 0) rfl (by kernel_rfl) ?_
 refine Z00 (.slice (some ⟨gk,0,none⟩) 32 32) rfl (by kernel_rfl) ?_
 refine Z00 (.int .i64 0) rfl (by kernel_rfl) ?_
 refine Z03 ?_
 simp only[Act.put,List.setIfInBounds_toArray,List.set_cons_zero,List.set_cons_succ]
 rename_i hk0
 refine hk0 _ _ ?_
 refine wp_seq ?_
 refine Z02 (sp:=[some (.slice (some ⟨gb_,0,none⟩) 32 32),some (.int .i64 32),some (.bool true),some (.bool true),some (.slice (some ⟨gb_,0,none⟩) 32 32),some (.pointer (some ⟨gb_,0,none⟩)),some (.int .u8 (88:Nat)),some (.bool true),some (.bool true),some (.bool true),some (.slice (some ⟨gb_,0,none⟩) 32 32),some (.pointer (some ⟨gb_,1,none⟩)),some (.int .u8 (102:Nat)),some (.bool true),some (.bool true),some (.bool true),some (.slice (some ⟨gb_,0,none⟩) 32 32),some (.pointer (some ⟨gb_,31,none⟩)),some (.int .u8 (102:Nat)),some (.bool true),some (.bool true),some (.bool true),some (.slice (some ⟨gz_,0,none⟩) 32 32),some (.int .i64 32),some (.bool true),some (.bool true),some (.bool true),some (.slice (some ⟨gz_,0,none⟩) 32 32),some (.pointer (some ⟨gz_,0,none⟩)),some (.int .u8 (1:Nat)),some (.bool true),some (.bool true),some (.bool true),some (.slice (some ⟨gz_,0,none⟩) 32 32),some (.pointer (some ⟨gz_,31,none⟩)),some (.int .u8 (0:Nat)),some (.bool true),some (.bool true),some (.bool true),some (.int .i64 0),some (.bool true),some (.bool true),some (.bool true),some (.slice (some ⟨gk,0,none⟩) 32 32),some (.int .i64 32),some (.bool true),some (.bool true),some (.bool true),some (.slice (some ⟨gk,0,none⟩) 32 32),some (.pointer (some ⟨gk,0,none⟩)),some (.int .u8 (59:Nat)),some (.bool true),some (.bool true),some (.bool true),some (.slice (some ⟨gk,0,none⟩) 32 32),some (.pointer (some ⟨gk,1,none⟩)),some (.int .u8 (106:Nat)),some (.bool true),some (.bool true),some (.bool true),some (.slice (some ⟨gk,0,none⟩) 32 32),some (.pointer (some ⟨gk,2,none⟩)),some (.int .u8 (39:Nat)),some (.bool true),some (.bool true),some (.bool true),some (.slice (some ⟨gk,0,none⟩) 32 32),some (.pointer (some ⟨gk,3,none⟩)),some (.int .u8 (188:Nat)),some (.bool true),some (.bool true),some (.bool true)]) (vs:=[]) (out:=none) (by kernel_rfl) (by kernel_rfl) (by kernel_rfl) (by kernel_rfl) (by kernel_rfl) (by simp) ?_ ?_
 ·refine Each.cons ?_<|Each.cons ?_<|Each.cons ?_<|Each.cons ?_<|Each.cons ?_<|Each.cons ?_<|Each.cons ?_<|Each.cons ?_<|Each.cons ?_<|Each.cons ?_<|Each.cons ?_<|Each.cons ?_<|Each.cons ?_<|Each.cons ?_<|Each.cons ?_<|Each.cons ?_<|Each.cons ?_<|Each.cons ?_<|Each.cons ?_<|Each.cons ?_<|Each.cons ?_<|Each.cons ?_<|Each.cons ?_<|Each.cons ?_<|Each.cons ?_<|Each.cons ?_<|Each.cons ?_<|Each.cons ?_<|Each.cons ?_<|Each.cons ?_<|Each.cons ?_<|Each.cons ?_<|Each.cons ?_<|Each.cons ?_<|Each.cons ?_<|Each.cons ?_<|Each.cons ?_<|Each.cons ?_<|Each.cons ?_<|Each.cons ?_<|Each.cons ?_<|Each.cons ?_<|Each.cons ?_<|Each.cons ?_<|Each.cons ?_<|Each.cons ?_<|Each.cons ?_<|Each.cons ?_<|Each.cons ?_<|Each.cons ?_<|Each.cons ?_<|Each.cons ?_<|Each.cons ?_<|Each.cons ?_<|Each.cons ?_<|Each.cons ?_<|Each.cons ?_<|Each.cons ?_<|Each.cons ?_<|Each.cons ?_<|Each.cons ?_<|Each.cons ?_<|Each.cons ?_<|Each.cons ?_<|Each.cons ?_<|Each.cons ?_<|Each.cons ?_<|Each.cons ?_<|Each.cons ?_<|Each.cons ?_<|Each.cons ?_<|Each.cons ?_<|Each.nil
  ·exact OV.val (.slice (some ⟨gb_,0,none⟩) 32 32) (by as_aux_lemma=>kernel_rfl) (fun γ=>by as_aux_lemma=>kernel_rfl) (by as_aux_lemma=>kernel_rfl) (fun γ w=>by as_aux_lemma=>kernel_rfl)
  ·exact OV.val (.int .i64 32) (by as_aux_lemma=>kernel_rfl) (fun γ=>by as_aux_lemma=>kernel_rfl) (by as_aux_lemma=>kernel_rfl) (fun γ w=>by as_aux_lemma=>kernel_rfl)
  ·exact OV.val (.bool true) (by as_aux_lemma=>kernel_rfl) (fun γ=>by as_aux_lemma=>kernel_rfl) (by as_aux_lemma=>kernel_rfl) (fun γ w=>by as_aux_lemma=>kernel_rfl)
  ·exact OV.val (.bool true) (by as_aux_lemma=>kernel_rfl) (fun γ=>by as_aux_lemma=>kernel_rfl) (by as_aux_lemma=>kernel_rfl) (fun γ w=>by as_aux_lemma=>kernel_rfl)
  ·exact OV.val (.slice (some ⟨gb_,0,none⟩) 32 32) (by as_aux_lemma=>kernel_rfl) (fun γ=>by as_aux_lemma=>kernel_rfl) (by as_aux_lemma=>kernel_rfl) (fun γ w=>by as_aux_lemma=>kernel_rfl)
  ·exact OV.val (.pointer (some ⟨gb_,0,none⟩)) (by as_aux_lemma=>kernel_rfl) (fun γ=>by as_aux_lemma=>kernel_rfl) (by as_aux_lemma=>kernel_rfl) (fun γ w=>by as_aux_lemma=>kernel_rfl)
  ·exact OV.cell ⟨gb_,0,none⟩ (.int .u8 (88:Nat)) (Z4t B6 b0.out) (by simp) 5 (.tmp 19) _ (by as_aux_lemma=>kernel_rfl) (fun γ=>by as_aux_lemma=>kernel_rfl) (by as_aux_lemma=>kernel_rfl) rfl (fun γ=>by as_aux_lemma=>kernel_rfl) Tryz.underlying5 rfl
  ·exact OV.val (.bool true) (by as_aux_lemma=>kernel_rfl) (fun γ=>by as_aux_lemma=>kernel_rfl) (by as_aux_lemma=>kernel_rfl) (fun γ w=>by as_aux_lemma=>kernel_rfl)
  ·exact OV.val (.bool true) (by as_aux_lemma=>kernel_rfl) (fun γ=>by as_aux_lemma=>kernel_rfl) (by as_aux_lemma=>kernel_rfl) (fun γ w=>by as_aux_lemma=>kernel_rfl)
  ·exact OV.val (.bool true) (by as_aux_lemma=>kernel_rfl) (fun γ=>by as_aux_lemma=>kernel_rfl) (by as_aux_lemma=>kernel_rfl) (fun γ w=>by as_aux_lemma=>kernel_rfl)
  ·exact OV.val (.slice (some ⟨gb_,0,none⟩) 32 32) (by as_aux_lemma=>kernel_rfl) (fun γ=>by as_aux_lemma=>kernel_rfl) (by as_aux_lemma=>kernel_rfl) (fun γ w=>by as_aux_lemma=>kernel_rfl)
  ·exact OV.val (.pointer (some ⟨gb_,1,none⟩)) (by as_aux_lemma=>kernel_rfl) (fun γ=>by as_aux_lemma=>kernel_rfl) (by as_aux_lemma=>kernel_rfl) (fun γ w=>by as_aux_lemma=>kernel_rfl)
  ·exact OV.cell ⟨gb_,1,none⟩ (.int .u8 (102:Nat)) (Z4t B6 b1.out) (by simp) 5 (.tmp 25) _ (by as_aux_lemma=>kernel_rfl) (fun γ=>by as_aux_lemma=>kernel_rfl) (by as_aux_lemma=>kernel_rfl) rfl (fun γ=>by as_aux_lemma=>kernel_rfl) Tryz.underlying5 rfl
  ·exact OV.val (.bool true) (by as_aux_lemma=>kernel_rfl) (fun γ=>by as_aux_lemma=>kernel_rfl) (by as_aux_lemma=>kernel_rfl) (fun γ w=>by as_aux_lemma=>kernel_rfl)
  ·exact OV.val (.bool true) (by as_aux_lemma=>kernel_rfl) (fun γ=>by as_aux_lemma=>kernel_rfl) (by as_aux_lemma=>kernel_rfl) (fun γ w=>by as_aux_lemma=>kernel_rfl)
  ·exact OV.val (.bool true) (by as_aux_lemma=>kernel_rfl) (fun γ=>by as_aux_lemma=>kernel_rfl) (by as_aux_lemma=>kernel_rfl) (fun γ w=>by as_aux_lemma=>kernel_rfl)
  ·exact OV.val (.slice (some ⟨gb_,0,none⟩) 32 32) (by as_aux_lemma=>kernel_rfl) (fun γ=>by as_aux_lemma=>kernel_rfl) (by as_aux_lemma=>kernel_rfl) (fun γ w=>by as_aux_lemma=>kernel_rfl)
  ·exact OV.val (.pointer (some ⟨gb_,31,none⟩)) (by as_aux_lemma=>kernel_rfl) (fun γ=>by as_aux_lemma=>kernel_rfl) (by as_aux_lemma=>kernel_rfl) (fun γ w=>by as_aux_lemma=>kernel_rfl)
  ·exact OV.cell ⟨gb_,31,none⟩ (.int .u8 (102:Nat)) (Z4t B6 b31.out) (by simp) 5 (.tmp 31) _ (by as_aux_lemma=>kernel_rfl) (fun γ=>by as_aux_lemma=>kernel_rfl) (by as_aux_lemma=>kernel_rfl) rfl (fun γ=>by as_aux_lemma=>kernel_rfl) Tryz.underlying5 rfl
  ·exact OV.val (.bool true) (by as_aux_lemma=>kernel_rfl) (fun γ=>by as_aux_lemma=>kernel_rfl) (by as_aux_lemma=>kernel_rfl) (fun γ w=>by as_aux_lemma=>kernel_rfl)
  ·exact OV.val (.bool true) (by as_aux_lemma=>kernel_rfl) (fun γ=>by as_aux_lemma=>kernel_rfl) (by as_aux_lemma=>kernel_rfl) (fun γ w=>by as_aux_lemma=>kernel_rfl)
  ·exact OV.val (.bool true) (by as_aux_lemma=>kernel_rfl) (fun γ=>by as_aux_lemma=>kernel_rfl) (by as_aux_lemma=>kernel_rfl) (fun γ w=>by as_aux_lemma=>kernel_rfl)
  ·exact OV.val (.slice (some ⟨gz_,0,none⟩) 32 32) (by as_aux_lemma=>kernel_rfl) (fun γ=>by as_aux_lemma=>kernel_rfl) (by as_aux_lemma=>kernel_rfl) (fun γ w=>by as_aux_lemma=>kernel_rfl)
  ·exact OV.val (.int .i64 32) (by as_aux_lemma=>kernel_rfl) (fun γ=>by as_aux_lemma=>kernel_rfl) (by as_aux_lemma=>kernel_rfl) (fun γ w=>by as_aux_lemma=>kernel_rfl)
  ·exact OV.val (.bool true) (by as_aux_lemma=>kernel_rfl) (fun γ=>by as_aux_lemma=>kernel_rfl) (by as_aux_lemma=>kernel_rfl) (fun γ w=>by as_aux_lemma=>kernel_rfl)
  ·exact OV.val (.bool true) (by as_aux_lemma=>kernel_rfl) (fun γ=>by as_aux_lemma=>kernel_rfl) (by as_aux_lemma=>kernel_rfl) (fun γ w=>by as_aux_lemma=>kernel_rfl)
  ·exact OV.val (.bool true) (by as_aux_lemma=>kernel_rfl) (fun γ=>by as_aux_lemma=>kernel_rfl) (by as_aux_lemma=>kernel_rfl) (fun γ w=>by as_aux_lemma=>kernel_rfl)
  ·exact OV.val (.slice (some ⟨gz_,0,none⟩) 32 32) (by as_aux_lemma=>kernel_rfl) (fun γ=>by as_aux_lemma=>kernel_rfl) (by as_aux_lemma=>kernel_rfl) (fun γ w=>by as_aux_lemma=>kernel_rfl)
  ·exact OV.val (.pointer (some ⟨gz_,0,none⟩)) (by as_aux_lemma=>kernel_rfl) (fun γ=>by as_aux_lemma=>kernel_rfl) (by as_aux_lemma=>kernel_rfl) (fun γ w=>by as_aux_lemma=>kernel_rfl)
  ·exact OV.cell ⟨gz_,0,none⟩ (.int .u8 (1:Nat)) (Z4t Z6 z0.out) (by simp) 5 (.tmp 42) _ (by as_aux_lemma=>kernel_rfl) (fun γ=>by as_aux_lemma=>kernel_rfl) (by as_aux_lemma=>kernel_rfl) rfl (fun γ=>by as_aux_lemma=>kernel_rfl) Tryz.underlying5 rfl
  ·exact OV.val (.bool true) (by as_aux_lemma=>kernel_rfl) (fun γ=>by as_aux_lemma=>kernel_rfl) (by as_aux_lemma=>kernel_rfl) (fun γ w=>by as_aux_lemma=>kernel_rfl)
  ·exact OV.val (.bool true) (by as_aux_lemma=>kernel_rfl) (fun γ=>by as_aux_lemma=>kernel_rfl) (by as_aux_lemma=>kernel_rfl) (fun γ w=>by as_aux_lemma=>kernel_rfl)
  ·exact OV.val (.bool true) (by as_aux_lemma=>kernel_rfl) (fun γ=>by as_aux_lemma=>kernel_rfl) (by as_aux_lemma=>kernel_rfl) (fun γ w=>by as_aux_lemma=>kernel_rfl)
  ·exact OV.val (.slice (some ⟨gz_,0,none⟩) 32 32) (by as_aux_lemma=>kernel_rfl) (fun γ=>by as_aux_lemma=>kernel_rfl) (by as_aux_lemma=>kernel_rfl) (fun γ w=>by as_aux_lemma=>kernel_rfl)
  ·exact OV.val (.pointer (some ⟨gz_,31,none⟩)) (by as_aux_lemma=>kernel_rfl) (fun γ=>by as_aux_lemma=>kernel_rfl) (by as_aux_lemma=>kernel_rfl) (fun γ w=>by as_aux_lemma=>kernel_rfl)
  ·exact OV.cell ⟨gz_,31,none⟩ (.int .u8 (0:Nat)) (Z4t Z6 z31.out) (by simp) 5 (.tmp 48) _ (by as_aux_lemma=>kernel_rfl) (fun γ=>by as_aux_lemma=>kernel_rfl) (by as_aux_lemma=>kernel_rfl) rfl (fun γ=>by as_aux_lemma=>kernel_rfl) Tryz.underlying5 rfl
  ·exact OV.val (.bool true) (by as_aux_lemma=>kernel_rfl) (fun γ=>by as_aux_lemma=>kernel_rfl) (by as_aux_lemma=>kernel_rfl) (fun γ w=>by as_aux_lemma=>kernel_rfl)
  ·exact OV.val (.bool true) (by as_aux_lemma=>kernel_rfl) (fun γ=>by as_aux_lemma=>kernel_rfl) (by as_aux_lemma=>kernel_rfl) (fun γ w=>by as_aux_lemma=>kernel_rfl)
  ·exact OV.val (.bool true) (by as_aux_lemma=>kernel_rfl) (fun γ=>by as_aux_lemma=>kernel_rfl) (by as_aux_lemma=>kernel_rfl) (fun γ w=>by as_aux_lemma=>kernel_rfl)
  ·exact OV.val (.int .i64 0) (by as_aux_lemma=>kernel_rfl) (fun γ=>by as_aux_lemma=>kernel_rfl) (by as_aux_lemma=>kernel_rfl) (fun γ w=>by as_aux_lemma=>kernel_rfl)
  ·exact OV.val (.bool true) (by as_aux_lemma=>kernel_rfl) (fun γ=>by as_aux_lemma=>kernel_rfl) (by as_aux_lemma=>kernel_rfl) (fun γ w=>by as_aux_lemma=>kernel_rfl)
  ·exact OV.val (.bool true) (by as_aux_lemma=>kernel_rfl) (fun γ=>by as_aux_lemma=>kernel_rfl) (by as_aux_lemma=>kernel_rfl) (fun γ w=>by as_aux_lemma=>kernel_rfl)
  ·exact OV.val (.bool true) (by as_aux_lemma=>kernel_rfl) (fun γ=>by as_aux_lemma=>kernel_rfl) (by as_aux_lemma=>kernel_rfl) (fun γ w=>by as_aux_lemma=>kernel_rfl)
  ·exact OV.val (.slice (some ⟨gk,0,none⟩) 32 32) (by as_aux_lemma=>kernel_rfl) (fun γ=>by as_aux_lemma=>kernel_rfl) (by as_aux_lemma=>kernel_rfl) (fun γ w=>by as_aux_lemma=>kernel_rfl)
  ·exact OV.val (.int .i64 32) (by as_aux_lemma=>kernel_rfl) (fun γ=>by as_aux_lemma=>kernel_rfl) (by as_aux_lemma=>kernel_rfl) (fun γ w=>by as_aux_lemma=>kernel_rfl)
  ·exact OV.val (.bool true) (by as_aux_lemma=>kernel_rfl) (fun γ=>by as_aux_lemma=>kernel_rfl) (by as_aux_lemma=>kernel_rfl) (fun γ w=>by as_aux_lemma=>kernel_rfl)
  ·exact OV.val (.bool true) (by as_aux_lemma=>kernel_rfl) (fun γ=>by as_aux_lemma=>kernel_rfl) (by as_aux_lemma=>kernel_rfl) (fun γ w=>by as_aux_lemma=>kernel_rfl)
  ·exact OV.val (.bool true) (by as_aux_lemma=>kernel_rfl) (fun γ=>by as_aux_lemma=>kernel_rfl) (by as_aux_lemma=>kernel_rfl) (fun γ w=>by as_aux_lemma=>kernel_rfl)
  ·exact OV.val (.slice (some ⟨gk,0,none⟩) 32 32) (by as_aux_lemma=>kernel_rfl) (fun γ=>by as_aux_lemma=>kernel_rfl) (by as_aux_lemma=>kernel_rfl) (fun γ w=>by as_aux_lemma=>kernel_rfl)
  ·exact OV.val (.pointer (some ⟨gk,0,none⟩)) (by as_aux_lemma=>kernel_rfl) (fun γ=>by as_aux_lemma=>kernel_rfl) (by as_aux_lemma=>kernel_rfl) (fun γ w=>by as_aux_lemma=>kernel_rfl)
  ·exact OV.cell ⟨gk,0,none⟩ (.int .u8 (59:Nat)) (Z4t K6 k0.out) (by simp) 5 (.tmp 63) _ (by as_aux_lemma=>kernel_rfl) (fun γ=>by as_aux_lemma=>kernel_rfl) (by as_aux_lemma=>kernel_rfl) rfl (fun γ=>by as_aux_lemma=>kernel_rfl) Tryz.underlying5 rfl
  ·exact OV.val (.bool true) (by as_aux_lemma=>kernel_rfl) (fun γ=>by as_aux_lemma=>kernel_rfl) (by as_aux_lemma=>kernel_rfl) (fun γ w=>by as_aux_lemma=>kernel_rfl)
  ·exact OV.val (.bool true) (by as_aux_lemma=>kernel_rfl) (fun γ=>by as_aux_lemma=>kernel_rfl) (by as_aux_lemma=>kernel_rfl) (fun γ w=>by as_aux_lemma=>kernel_rfl)
  ·exact OV.val (.bool true) (by as_aux_lemma=>kernel_rfl) (fun γ=>by as_aux_lemma=>kernel_rfl) (by as_aux_lemma=>kernel_rfl) (fun γ w=>by as_aux_lemma=>kernel_rfl)
  ·exact OV.val (.slice (some ⟨gk,0,none⟩) 32 32) (by as_aux_lemma=>kernel_rfl) (fun γ=>by as_aux_lemma=>kernel_rfl) (by as_aux_lemma=>kernel_rfl) (fun γ w=>by as_aux_lemma=>kernel_rfl)
  ·exact OV.val (.pointer (some ⟨gk,1,none⟩)) (by as_aux_lemma=>kernel_rfl) (fun γ=>by as_aux_lemma=>kernel_rfl) (by as_aux_lemma=>kernel_rfl) (fun γ w=>by as_aux_lemma=>kernel_rfl)
  ·exact OV.cell ⟨gk,1,none⟩ (.int .u8 (106:Nat)) (Z4t K6 k1.out) (by simp) 5 (.tmp 69) _ (by as_aux_lemma=>kernel_rfl) (fun γ=>by as_aux_lemma=>kernel_rfl) (by as_aux_lemma=>kernel_rfl) rfl (fun γ=>by as_aux_lemma=>kernel_rfl) Tryz.underlying5 rfl
  ·exact OV.val (.bool true) (by as_aux_lemma=>kernel_rfl) (fun γ=>by as_aux_lemma=>kernel_rfl) (by as_aux_lemma=>kernel_rfl) (fun γ w=>by as_aux_lemma=>kernel_rfl)
  ·exact OV.val (.bool true) (by as_aux_lemma=>kernel_rfl) (fun γ=>by as_aux_lemma=>kernel_rfl) (by as_aux_lemma=>kernel_rfl) (fun γ w=>by as_aux_lemma=>kernel_rfl)
  ·exact OV.val (.bool true) (by as_aux_lemma=>kernel_rfl) (fun γ=>by as_aux_lemma=>kernel_rfl) (by as_aux_lemma=>kernel_rfl) (fun γ w=>by as_aux_lemma=>kernel_rfl)
  ·exact OV.val (.slice (some ⟨gk,0,none⟩) 32 32) (by as_aux_lemma=>kernel_rfl) (fun γ=>by as_aux_lemma=>kernel_rfl) (by as_aux_lemma=>kernel_rfl) (fun γ w=>by as_aux_lemma=>kernel_rfl)
  ·exact OV.val (.pointer (some ⟨gk,2,none⟩)) (by as_aux_lemma=>kernel_rfl) (fun γ=>by as_aux_lemma=>kernel_rfl) (by as_aux_lemma=>kernel_rfl) (fun γ w=>by as_aux_lemma=>kernel_rfl)
  ·exact OV.cell ⟨gk,2,none⟩ (.int .u8 (39:Nat)) (Z4t K6 k2.out) (by simp) 5 (.tmp 75) _ (by as_aux_lemma=>kernel_rfl) (fun γ=>by as_aux_lemma=>kernel_rfl) (by as_aux_lemma=>kernel_rfl) rfl (fun γ=>by as_aux_lemma=>kernel_rfl) Tryz.underlying5 rfl
  ·exact OV.val (.bool true) (by as_aux_lemma=>kernel_rfl) (fun γ=>by as_aux_lemma=>kernel_rfl) (by as_aux_lemma=>kernel_rfl) (fun γ w=>by as_aux_lemma=>kernel_rfl)
  ·exact OV.val (.bool true) (by as_aux_lemma=>kernel_rfl) (fun γ=>by as_aux_lemma=>kernel_rfl) (by as_aux_lemma=>kernel_rfl) (fun γ w=>by as_aux_lemma=>kernel_rfl)
  ·exact OV.val (.bool true) (by as_aux_lemma=>kernel_rfl) (fun γ=>by as_aux_lemma=>kernel_rfl) (by as_aux_lemma=>kernel_rfl) (fun γ w=>by as_aux_lemma=>kernel_rfl)
  ·exact OV.val (.slice (some ⟨gk,0,none⟩) 32 32) (by as_aux_lemma=>kernel_rfl) (fun γ=>by as_aux_lemma=>kernel_rfl) (by as_aux_lemma=>kernel_rfl) (fun γ w=>by as_aux_lemma=>kernel_rfl)
  ·exact OV.val (.pointer (some ⟨gk,3,none⟩)) (by as_aux_lemma=>kernel_rfl) (fun γ=>by as_aux_lemma=>kernel_rfl) (by as_aux_lemma=>kernel_rfl) (fun γ w=>by as_aux_lemma=>kernel_rfl)
  ·exact OV.cell ⟨gk,3,none⟩ (.int .u8 (188:Nat)) (Z4t K6 k3.out) (by simp) 5 (.tmp 81) _ (by as_aux_lemma=>kernel_rfl) (fun γ=>by as_aux_lemma=>kernel_rfl) (by as_aux_lemma=>kernel_rfl) rfl (fun γ=>by as_aux_lemma=>kernel_rfl) Tryz.underlying5 rfl
  ·exact OV.val (.bool true) (by as_aux_lemma=>kernel_rfl) (fun γ=>by as_aux_lemma=>kernel_rfl) (by as_aux_lemma=>kernel_rfl) (fun γ w=>by as_aux_lemma=>kernel_rfl)
  ·exact OV.val (.bool true) (by as_aux_lemma=>kernel_rfl) (fun γ=>by as_aux_lemma=>kernel_rfl) (by as_aux_lemma=>kernel_rfl) (fun γ w=>by as_aux_lemma=>kernel_rfl)
  ·exact OV.val (.bool true) (by as_aux_lemma=>kernel_rfl) (fun γ=>by as_aux_lemma=>kernel_rfl) (by as_aux_lemma=>kernel_rfl) (fun γ w=>by as_aux_lemma=>kernel_rfl)
 intro γ W7 hgr hx1 hx2 hx3
 clear hx1 hx2 hx3
 have D7:=Z0j D6 hgr
 refine wp_ret ?_
 refine bodyPost_ret (v:=.bool true) (Gn.results_tmp 0 (.bool true) Tryz.results11 (by kernel_rfl)) rfl ⟨rfl,D7⟩
theorem Z9j:∃b,Hp Z40 b:=by
 obtain⟨g,hg⟩:=Zq2
 exact⟨g,by unfold Hp;rw[Zc5];exact hg⟩
theorem Ztf{b:G}(h:Hp Z40 b):Has qb.pt b:=by unfold Hp at h;rwa [Zc5] at h
theorem Zgf(w:World)(tab:TabE w)(ts:Sh.Tab w):Calls Tryz.prog 11 #[] w fun e w'=>e=.returned (.bool true)∧Below w.heap.size w w':=by
 obtain⟨b,hb⟩:=Z9j
 have hq:=Ztf hb
 have e1:=Zmg hq
 have e3:=Zq4 hq
 refine Zd8 Z40 Z34 (by_ (gb b) 32) (by_ (gb gz) 32) (by_ (gb (ti kz b)) 32) w tab ts Z88 Z5q (fun w=>Z35 w hb) (fun w=>Z35 w Z4m) (fun w q t1 t2 hq2 hs=>?_) (by_length _ _) (by_length _ _) (by rw[e1];rfl) (by rw[e1];rfl) (by rw[e1];rfl) (by rw[Zfi];rfl) (by rw[Zfi];rfl) (take_at e3 (by decide) rfl) (take_at e3 (by decide) rfl) (take_at e3 (by decide) rfl) (take_at e3 (by decide) rfl)
 have:=Znb (some ⟨q,0,none⟩) 32 (List.replicate 32 0) b w t1 t2 (by decide) (by decide) hs (fun ad h=>by cases h;exact hq2) (Nat.le_refl _) hb
 rw[Ziw] at this
 exact this
end Go.Proofs.YtjimhjfjfpeojaaGreatDoor.Ed
