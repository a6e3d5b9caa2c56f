/- Joined texts. -/
import Derived.IntWalk
import Derived.Test.YtjimhjfjfpeojaaGreatDoorQaEdF
import Derived.Test.YtjimhjfjfpeojaaGreatDoorQaGnSeq
set_option linter.unusedVariables false
namespace Go.Proofs.YtjimhjfjfpeojaaGreatDoor.Ed
open Go.RowKit Go.Proofs.YtjimhjfjfpeojaaGreatDoor.Gn Go.Proofs.YtjimhjfjfpeojaaGreatDoor.Fd Go.Deep
theorem o_gtr (w : World) (a n : Nat) (b : Bool) (hb : decide (n < a) = b) : (binOp .gtr 3 (.int .i64 (a : Int)) (.int .i64 (n : Int))).run Tryz.prog w = .ok (.bool b) w := by
 subst hb
 go_simp
def RetPE (g : G) (w : World) (e : Ending) (w' : World) : Prop := ∃ r : KP, e = .returned (.tuple #[.agg r.v, .int .i64 0]) ∧ Hp r g ∧ Below w.heap.size w w'
set_option maxRecDepth 100000 in
set_option maxHeartbeats 4000000 in
theorem Mul_long (A : Option Addr) (n c : Nat) (l : List Nat) (p : KP) (w : World) (hn : 32 < n) : Calls Tryz.prog 27 #[.slice A n c, .agg p.v] w (NoP 1 w) := by
 go_enter Tryz.func27, Tryz.ntmps27
 go_upto_region 1 with (fail)
 refine at_box2 _ _ _ _ _ ?_
 intro W0 B0 B1 D0 hs0
 have HN := Lib.hid hn
 refine wp_region_lit ?_
 refine sq_run (.slice A n c) rfl (by kernel_rfl) ?_
 refine sq_run (.int .i64 (n : Int)) rfl (by kernel_rfl) ?_
 refine sq_run (.bool true) rfl (run_bin_op .gtr 3 (.tmp 7) (.const (.int .i64 32)) _ rfl (.int .i64 (n : Int)) (.int .i64 32) (.bool true) (by kernel_rfl) (by kernel_rfl) (by kernel_rfl) (o_gtr _ n 32 true (by simp; have := HN.out; omega))) ?_
 refine sq_done ?_
 simp only [Act.put, List.setIfInBounds_toArray, List.set_cons_zero, List.set_cons_succ]
 go_upto_region 2 with (fail)
 refine wp_region_lit ?_
 refine sq_run (.agg z20) rfl (by kernel_rfl) ?_
 refine sq_store (w.heap.size + 1) 28 _ z20 B1 28 (.tmp 4) (.tmp 9) rfl rfl (by kernel_rfl) (by kernel_rfl) (by kernel_rfl) sizeP z20_ones fun W1 C1 G1 => ?_
 refine sq_run (.int .i64 1) rfl (by kernel_rfl) ?_
 refine sq_done ?_
 simp only [Act.put, List.setIfInBounds_toArray, List.set_cons_zero, List.set_cons_succ]
 have HF := Lib.hid C1
 have hz := below_only (g := w.heap.size + 1) D0 G1 (by omega)
 go_wp2_with fail
 refine bodyPost_ret (v := .tuple #[.agg z20, .int .i64 1]) (Gn.results_cell_tmp 4 28 5 (.int .i64 1) (w.heap.size + 1) 28 z20 Tryz.results27 (by kernel_rfl) (by kernel_rfl) HF.out Tryz.underlying28 rfl sizeP) rfl ⟨rfl, hz⟩
set_option maxRecDepth 100000 in
set_option maxHeartbeats 4000000 in
theorem Mul_any (A : Option Addr) (n c : Nat) (l : List Nat) (p : KP) (w : World) (g : G) (tab : TabE w) (hn : n ≤ 32) (hl : ∀ x ∈ l, x < 256) (hs : Sl w A n (bl l)) (hp : Hp p g) : Calls Tryz.prog 27 #[.slice A n c, .agg p.v] w (RetPE (ti (le l) g) w) := by
 have TB := Lib.hid tab
 have HS := Lib.hid hs
 have HPP := Lib.hid hp
 have HL := Lib.hid hl
 clear tab hs hp hl
 go_enter Tryz.func27, Tryz.ntmps27
 go_upto_region 1 with (fail)
 refine at_box2 _ _ _ _ _ ?_
 intro W0 B0 B1 D0 hs0
 have HN := Lib.hid hn
 refine wp_region_lit ?_
 refine sq_run (.slice A n c) rfl (by kernel_rfl) ?_
 refine sq_run (.int .i64 (n : Int)) rfl (by kernel_rfl) ?_
 refine sq_run (.bool false) rfl (run_bin_op .gtr 3 (.tmp 7) (.const (.int .i64 32)) _ rfl (.int .i64 (n : Int)) (.int .i64 32) (.bool false) (by kernel_rfl) (by kernel_rfl) (by kernel_rfl) (o_gtr _ n 32 false (by simp; have := HN.out; omega))) ?_
 refine sq_done ?_
 simp only [Act.put, List.setIfInBounds_toArray, List.set_cons_zero, List.set_cons_succ]
 go_upto_region 3 with (fail)
 refine wp_region_lit ?_
 refine sq_run (.slice A n c) rfl (by kernel_rfl) ?_
 refine sq_load w.heap.size 0 20 28 p.v B0 p.v 28 (.tmp 3) rfl rfl (by kernel_rfl) (by kernel_rfl) (by kernel_rfl) Tryz.underlying28 rfl sizeP ?_
 refine sq_enter 67 #[.slice A n c, .agg p.v] rfl (by kernel_rfl) ((termOf_any A n c p _ (TB.out.below D0)).mono ?_)
 rintro e W1 ⟨rfl, E1⟩
 refine ⟨_, rfl, ?_⟩
 have D1 := below_nx D0 (Nat.le_refl _) E1
 have B2 := B1.below' E1
 clear E1 B0 D0 B1
 refine sq_new (W1.alloc (.cells (tarr (.slice A n c) (tbl p)) 87)) (.slice (some ⟨W1.heap.size, 0, none⟩) 1 1) rfl (by kernel_rfl) ?_
 have DA := D1.alloc D1.size (.cells (tarr (.slice A n c) (tbl p)) 87)
 have BA := B2.alloc (.cells (tarr (.slice A n c) (tbl p)) 87)
 have BN := Bl.new_ W1 87 (tarr (.slice A n c) (tbl p))
 clear D1 B2
 refine sq_enter 66 #[.slice (some ⟨W1.heap.size, 0, none⟩) 1 1] rfl (by kernel_rfl) ((sum1_any A n c l (tbl p) g _ _ (TB.out.below DA) BN (by have := HN.out; omega) HL.out (HS.out.below DA) (tbl_has HPP.out)).mono ?_)
 rintro e W5 ⟨r, rfl, hr, E5⟩
 refine ⟨_, rfl, ?_⟩
 have D5 := below_nx DA (Nat.le_refl _) E5
 have B5 := BA.below' E5
 have HR := Lib.hid hr
 clear E5 DA BA BN hr
 refine sq_store (w.heap.size + 1) 28 _ r.v B5 28 (.tmp 4) (.tmp 14) rfl rfl (by kernel_rfl) (by kernel_rfl) (by kernel_rfl) sizeP (KP.ones _) fun W6 C6 G6 => ?_
 refine sq_run (.int .i64 0) rfl (by kernel_rfl) ?_
 refine sq_done ?_
 simp only [Act.put, List.setIfInBounds_toArray, List.set_cons_zero, List.set_cons_succ]
 have HF := Lib.hid C6
 have hz := below_only (g := w.heap.size + 1) D5 G6 (by omega)
 go_wp2_with fail
 refine bodyPost_ret (v := .tuple #[.agg r.v, .int .i64 0]) (Gn.results_cell_tmp 4 28 5 (.int .i64 0) (w.heap.size + 1) 28 r.v Tryz.results27 (by kernel_rfl) (by kernel_rfl) HF.out Tryz.underlying28 rfl sizeP) rfl ⟨r, rfl, HR.out, hz⟩
end Go.Proofs.YtjimhjfjfpeojaaGreatDoor.Ed
