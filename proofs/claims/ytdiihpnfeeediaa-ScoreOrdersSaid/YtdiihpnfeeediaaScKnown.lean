/-
  What comes of the fixed calls.
-/
import Derived.Test.YtdiihpnfeeediaaScTotal
import Derived.Deep.RegionWith
namespace Go.Proofs.Ytdiihpnfeeediaa.Sc
open Go.RowKit
set_option linter.unusedVariables false

theorem drewN_eq (w : World) (n : Nat) : w.drewN n = { w with drawn := w.drawn + n } := rfl
theorem Below.drewN {B : Nat} {a w : World} (h : Below B a w) (n : Nat) : Below B a (w.drewN n) := ⟨h.os, h.tape, h.output, h.size, h.block⟩
theorem add_at (g k : Nat) : (⟨g, 0, none⟩ : Addr).add k = ⟨g, k, none⟩ := by unfold Addr.add; split <;> simp_all
theorem Sl.new_ (w : World) (T : TypeId) (xs : List Value) : Sl (w.alloc (.cells xs.toArray T)) (some ⟨w.heap.size, 0, none⟩) xs.length xs := by
  refine ⟨rfl, fun k v hv => ⟨_, rfl, ?_⟩⟩
  rw [add_at]
  have hb : (w.alloc (.cells xs.toArray T)).heap[w.heap.size]? = some (.cells xs.toArray T (0, 0)) := by
    show (w.heap.push _)[w.heap.size]? = _
    simp
  unfold World.cell?
  rw [hb]
  simpa using hv

theorem tot3 : totX [4607182418800017408, 4611686018427387904, 4616189618054758400] = 4619567317775286272 ∧ totE [4607182418800017408, 4611686018427387904, 4616189618054758400] = 0 := by decide +kernel
theorem tot2 : totX [9214871658872686752, 9214871658872686752] = 0 ∧ totE [9214871658872686752, 9214871658872686752] = 10 := by decide +kernel
theorem ord7 : (FloatKind.f64.format.order 4619567317775286272 4619567317775286272 == some .eq) = true := by decide +kernel
theorem code0 : code 0 = 9223372036854775808 := by unfold code cls; simp
theorem code1 : code 9223372036854775808 = 9223372036854775807 := by unfold code cls; simp
theorem cmp01 : cmp 0 9223372036854775808 = 1 := by unfold cmp; rw [code0, code1]; simp

theorem total3 (w : World) : Calls Try.prog 11 #[.slice (some ⟨w.heap.size, 0, none⟩) 3 3]
    (w.alloc (.cells #[.float .f64 4607182418800017408, .float .f64 4611686018427387904, .float .f64 4616189618054758400] 29))
    fun e w' => e = .returned (.tuple #[.float .f64 4619567317775286272, .int .i64 0]) ∧ Below w.heap.size w w' := by
  refine (total_any _ 3 3 [4607182418800017408, 4611686018427387904, 4616189618054758400] _ (by decide) (by intro x hx; simp at hx; omega) (Sl.new_ w _ _)).mono ?_
  rintro e w' ⟨rfl, m, rfl⟩
  exact ⟨ret_back tot3.1 tot3.2, Below.drewN ((Below.refl _ _).alloc (Nat.le_refl _) _) m⟩
theorem total2 (w : World) : Calls Try.prog 11 #[.slice (some ⟨w.heap.size, 0, none⟩) 2 2]
    (w.alloc (.cells #[.float .f64 9214871658872686752, .float .f64 9214871658872686752] 29))
    fun e w' => e = .returned (.tuple #[.float .f64 0, .int .i64 10]) ∧ Below w.heap.size w w' := by
  refine (total_any _ 2 2 [9214871658872686752, 9214871658872686752] _ (by decide) (by intro x hx; simp at hx; omega) (Sl.new_ w _ _)).mono ?_
  rintro e w' ⟨rfl, m, rfl⟩
  exact ⟨ret_back tot2.1 tot2.2, Below.drewN ((Below.refl _ _).alloc (Nat.le_refl _) _) m⟩
theorem code_zero (w : World) : Calls Try.prog 12 #[.float .f64 0] w fun e w' => e = .returned (.int .u64 9223372036854775808) ∧ w = w' :=
  (code_any 0 w (by decide)).mono fun e w' ⟨h, k⟩ => ⟨h.trans (ret_int (by rw [code0]; omega)), k⟩
theorem code_below (w : World) : Calls Try.prog 12 #[.float .f64 9223372036854775808] w fun e w' => e = .returned (.int .u64 9223372036854775807) ∧ w = w' :=
  (code_any 9223372036854775808 w (by decide)).mono fun e w' ⟨h, k⟩ => ⟨h.trans (ret_int (by rw [code1]; omega)), k⟩
theorem cmp_zero (w : World) : Calls Try.prog 14 #[.float .f64 0, .float .f64 9223372036854775808] w fun e w' => e = .returned (.int .i64 1) ∧ w = w' :=
  (compare_any 0 9223372036854775808 w (by decide) (by decide)).mono fun e w' ⟨h, k⟩ => ⟨h.trans (ret_int cmp01), k⟩
theorem of_zero (w : World) : Calls Try.prog 13 #[.bool true, .int .u64 0, .int .u64 0] w fun e w' => e = .returned (.float .f64 9223372036854775808) ∧ w = w' :=
  (of_any true 0 0 w (by decide) (by decide) (by decide) (by decide)).mono fun e w' ⟨h, k⟩ => ⟨h.trans (ret_float (by unfold ofN; simp)), k⟩

set_option maxHeartbeats 800000 in
theorem known_any (w : World) : Calls Try.prog 5 #[] w fun e w' => e = .returned (.bool true) ∧ Below w.heap.size w w' := by
  have ho := ord7
  go_enter Try.func5, Try.ntmps5
  go_wp2_with fail
  refine (total3 w).mono ?_
  rintro e w1 ⟨rfl, hb1⟩
  go_wp2_with fail
  refine (total2 w1).mono ?_
  rintro e w2 ⟨rfl, hb2⟩
  go_wp2_with (first | (go_at_call_of 12 (Value.float .f64 0); refine (code_zero _).mono ?_; rintro e w' ⟨rfl, rfl⟩) | (go_at_call_of 12 (Value.float .f64 9223372036854775808); refine (code_below _).mono ?_; rintro e w' ⟨rfl, rfl⟩) | (go_at_call 14; refine (cmp_zero _).mono ?_; rintro e w' ⟨rfl, rfl⟩) | (go_at_call 13; refine (of_zero _).mono ?_; rintro e w' ⟨rfl, rfl⟩))
  go_ret
  exact ⟨rfl, hb1.trans (hb2.mono hb1.size)⟩
end Go.Proofs.Ytdiihpnfeeediaa.Sc
