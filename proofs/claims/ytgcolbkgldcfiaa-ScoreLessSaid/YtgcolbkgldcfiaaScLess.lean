/-
  The walk of the law that codes order numbers.
-/
import Derived.Test.YtgcolbkgldcfiaaScMid
import Derived.Test.YtgcolbkgldcfiaaScOrder
namespace Go.Proofs.Ytgcolbkgldcfiaa.Sc
open Go.RowKit
set_option linter.unusedVariables false

theorem num_code {b : Nat} (hb : b < 18446744073709551616) (h5 : cls b ≠ 5) : num (code b) = b := by
  have := cls_lt h5
  unfold code; rw [if_neg h5]; unfold num
  repeat' split
  all_goals omega
theorem back_code {b : Nat} (hb : b < 18446744073709551616) : backE (code b) = 0 ∧ (cls b ≠ 5 → backX (code b) = b) := by
  have hr := code_range b hb
  have : backE (code b) = 0 := by
    rcases hr with h | h
    · rw [h]; exact backE_nan
    · exact backE_ok (by omega) (by omega)
  exact ⟨this, fun h5 => by rw [backX_ok this, num_code hb h5]⟩

set_option maxHeartbeats 1000000 in
theorem less_core (a b : Nat) (w : World) (HA : Hid (a < 18446744073709551616)) (HB : Hid (b < 18446744073709551616)) (HC : Hid (code a < 18446744073709551616))
    (t1 : (FloatKind.f64.format.order a b == some .lt) = true → decide (code b ≤ code a) = false)
    (t2 : (FloatKind.f64.format.order a b == some .gt) = true → decide (code a ≤ code b) = false)
    (t3 : (FloatKind.f64.format.order a b != some .eq) = false → ((FloatKind.f64.format.order a 0 == some .eq) || ((code a : Int) == (code b : Int))) = true)
    (t4 : (backE (code a) != 0) = false) (t5 : (cls a != 5) = true → ((a : Int) == (backX (code a) : Int)) = true) :
    Calls Try.prog 10 #[.float .f64 a, .float .f64 b] w fun e w' => e = .returned (.bool true) ∧ Below w.heap.size w w' := by
  cases o1 : FloatKind.f64.format.order a b == some .lt
  all_goals cases o2 : FloatKind.f64.format.order a b == some .gt
  all_goals cases o3 : FloatKind.f64.format.order a b != some .eq
  all_goals cases o4 : FloatKind.f64.format.order a 0 == some .eq
  all_goals cases o5 : cls a != 5
  all_goals simp only [o1, o2, o3, o4, o5, forall_const, Bool.false_eq_true, false_imp_iff, Bool.true_or, Bool.false_or, reduceCtorEq] at t1 t2 t3 t5
  all_goals
    go_enter Try.func10, Try.ntmps10
    go_wp2_with (first | (go_at_call 17; refine (code_any _ _ (by first | exact HA.out | exact HB.out)).mono ?_; rintro e w' ⟨rfl, rfl⟩) | (go_at_call 22; refine (back_any _ _ HC.out).mono ?_; rintro e w' ⟨rfl, rfl⟩) | (go_at_call 16; refine (rclass_any _ _ HA.out).mono ?_; rintro e w' ⟨rfl, rfl⟩) | (go_at_call 24; refine (rsame_any _ _ _).mono ?_; rintro e w' ⟨rfl, rfl⟩) | (go_at_call 21; refine (known_any _).mono ?_; rintro e w' ⟨rfl, hb⟩))
    go_ret
    exact ⟨rfl, hb⟩

theorem walk_scoreLess (a : Nat) (wa : (Lit.float .f64 a).wf = true) (b : Nat) (wb : (Lit.float .f64 b).wf = true) (w : World) :
    Calls Try.prog 10 #[.float .f64 a, .float .f64 b] w fun e w' => e = .returned (.bool true) ∧ Below w.heap.size w w' := by
  have ha := wf_f64 wa
  have hb := wf_f64 wb
  obtain ⟨o1, o2, o3⟩ := order_code ha hb
  obtain ⟨b1, b2⟩ := back_code ha
  refine less_core a b w (Lib.hid ha) (Lib.hid hb) (Lib.hid (code_lt a ha)) ?_ ?_ ?_ ?_ ?_
  · intro h; have := o1 (eq_of_beq h); simp; omega
  · intro h; have := o2 (eq_of_beq h); simp; omega
  · intro h
    have := o3 (by have := bne_eq_false_iff_eq.1 h; exact this)
    rcases this with h | h
    · simp [h]
    · have h' : FloatKind.f64.format.order a 0 = some .eq := h
      simp [h']
  · rw [b1]; rfl
  · intro h; rw [b2 (by simpa using h)]; simp
end Go.Proofs.Ytgcolbkgldcfiaa.Sc
