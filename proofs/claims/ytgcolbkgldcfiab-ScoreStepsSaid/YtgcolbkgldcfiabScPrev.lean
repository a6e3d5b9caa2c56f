/-
  The contracts of Prev of both sides.
-/
import Derived.Test.YtgcolbkgldcfiabScMid
import Derived.BigQuiet
import Derived.Deep.QuietTactic
namespace Go.Proofs.Ytgcolbkgldcfiab.Sc
open Go.RowKit
set_option linter.unusedVariables false

theorem prev_nan {b : Nat} (h : cls b = 5) : prev b = 9218868437227405312 := by
  unfold prev code; rw [if_pos h]; simp [num]
theorem prev_low {b : Nat} (h : cls b = 4) (hs : 9223372036854775808 ≤ b) (hb : b < 18446744073709551616) : prev b = b := by
  have := cls_4 h
  have c5 : cls b ≠ 5 := by rw [h]; decide
  unfold prev code num; rw [if_neg c5]
  repeat' split
  all_goals omega
theorem prev_zero {b : Nat} (h : b = 0) : prev b = 9223372036854775808 := by
  subst h
  have c5 : cls 0 ≠ 5 := by unfold cls; simp
  unfold prev code num; rw [if_neg c5]; simp
theorem prev_down {b : Nat} (h5 : cls b ≠ 5) (h0 : b ≠ 0) (hs : b < 9223372036854775808) : prev b = b - 1 := by
  have := cls_lt h5
  unfold prev code num; rw [if_neg h5]
  repeat' split
  all_goals omega
theorem prev_up {b : Nat} (h5 : cls b ≠ 5) (h4 : cls b ≠ 4) (hs : 9223372036854775808 ≤ b) (hb : b < 18446744073709551616) : prev b = b + 1 := by
  have := cls_not4 h5 h4
  unfold prev code num; rw [if_neg h5]
  repeat' split
  all_goals omega

set_option maxHeartbeats 400000 in
theorem prev_any (b : Nat) (w : World) (hb : b < 18446744073709551616) :
    Calls Try.prog 8 #[.float .f64 b] w fun e w' => e = .returned (.float .f64 (prev b)) ∧ w = w' := by
  have HB := Lib.hid hb
  clear hb
  by_cases h1 : code b = 18446744073709551615
  · have ht : (((code b : Nat) : Int) == 18446744073709551615) = true := by rw [beq_iff_eq]; omega
    have H := Lib.hid (show prev b = num 18442240474082181120 by unfold prev; rw [if_pos h1])
    clear h1
    go_enter Try.func8, Try.ntmps8
    go_wp2_with (first | (go_at_call 21; refine (code_any _ _ HB.out).mono ?_; rintro e w' ⟨rfl, rfl⟩) | (go_at_call 16; refine (number_at _ _ (by omega) (by omega)).mono ?_; rintro e w' ⟨rfl, rfl⟩))
    go_ret
    exact ⟨ret_float (by rw [H.out]), rfl⟩
  have ht : (((code b : Nat) : Int) == 18446744073709551615) = false := by rw [beq_eq_false_iff_ne]; omega
  by_cases h2 : code b = 4503599627370495
  · have hu : (((code b : Nat) : Int) == 4503599627370495) = true := by rw [beq_iff_eq]; omega
    have H := Lib.hid (show prev b = num 4503599627370495 by unfold prev; rw [if_neg h1, if_pos h2])
    clear h1 h2
    go_enter Try.func8, Try.ntmps8
    go_wp2_with (first | (go_at_call 21; refine (code_any _ _ HB.out).mono ?_; rintro e w' ⟨rfl, rfl⟩) | (go_at_call 16; refine (number_at _ _ (by omega) (by omega)).mono ?_; rintro e w' ⟨rfl, rfl⟩))
    go_ret
    exact ⟨ret_float (by rw [H.out]), rfl⟩
  · have hu : (((code b : Nat) : Int) == 4503599627370495) = false := by rw [beq_eq_false_iff_ne]; omega
    have H := Lib.hid (show prev b = num (code b - 1) by unfold prev; rw [if_neg h1, if_neg h2])
    have HR := Lib.hid (code_range b HB.out)
    have HL := Lib.hid (code_lt b HB.out)
    clear h1 h2
    go_enter Try.func8, Try.ntmps8
    go_wp2_with (first | (go_at_call 21; refine (code_any _ _ HB.out).mono ?_; rintro e w' ⟨rfl, rfl⟩) | (go_at_call 16; refine (number_w _ _).mono ?_; rintro e w' ⟨rfl, rfl⟩))
    go_ret
    refine ⟨ret_float ?_, rfl⟩
    rw [H.out]; congr 1
    have := HR.out; have := HL.out
    omega

set_option maxHeartbeats 400000 in
theorem rprev_5 (b : Nat) (w : World) (HB : Hid (b < 18446744073709551616)) (h5 : (cls b == 5) = true) :
    Calls Try.prog 9 #[.float .f64 b] w fun e w' => e = .returned (.float .f64 (prev b)) ∧ w = w' := by
  have H := Lib.hid (prev_nan (b := b) (by simpa using h5))
  go_enter Try.func9, Try.ntmps9
  go_wp2_with (first | (go_at_call 22; refine (parts_any _ _ HB.out).mono ?_; rintro e w' ⟨rfl, rfl⟩) | (go_at_call 11; refine (rclass_any _ _ HB.out).mono ?_; rintro e w' ⟨rfl, rfl⟩) | (go_at_call 23; refine (of_any _ _ _ _ (by omega) (by omega) (by omega) (by omega)).mono ?_; rintro e w' ⟨rfl, rfl⟩))
  go_ret
  exact ⟨ret_float (by rw [H.out]; unfold ofN; simp), rfl⟩
set_option maxHeartbeats 400000 in
theorem rprev_zero (b : Nat) (w : World) (HB : Hid (b < 18446744073709551616)) (p1 : ((pe b : Nat) : Int) < 2048) (p2 : ((pf b : Nat) : Int) < 4503599627370496) (q : Hid (pe b * 4503599627370496 + pf b = b % 9223372036854775808)) (h5 : (cls b == 5) = false) (h4 : (cls b == 4) = false) (hp : pb b = false) (h0 : Hid (b = 0)) :
    Calls Try.prog 9 #[.float .f64 b] w fun e w' => e = .returned (.float .f64 (prev b)) ∧ w = w' := by
  have hz : (((pe b : Nat) : Int) * 4503599627370496 + ((pf b : Nat) : Int) == 0) = true := by rw [beq_iff_eq]; have := q.out; have := h0.out; omega
  go_enter Try.func9, Try.ntmps9
  go_wp2_with (first | (go_at_call 22; refine (parts_any _ _ HB.out).mono ?_; rintro e w' ⟨rfl, rfl⟩) | (go_at_call 11; refine (rclass_any _ _ HB.out).mono ?_; rintro e w' ⟨rfl, rfl⟩) | (go_at_call 23; refine (of_any _ _ _ _ (by omega) (by omega) (by omega) (by omega)).mono ?_; rintro e w' ⟨rfl, rfl⟩))
  go_ret
  exact ⟨ret_float (by rw [prev_zero h0.out]; unfold ofN; simp), rfl⟩
set_option maxHeartbeats 400000 in
theorem rprev_down (b : Nat) (w : World) (HB : Hid (b < 18446744073709551616)) (p1 : ((pe b : Nat) : Int) < 2048) (p2 : ((pf b : Nat) : Int) < 4503599627370496) (q : Hid (pe b * 4503599627370496 + pf b = b % 9223372036854775808)) (h5 : (cls b == 5) = false) (hp : pb b = false) (h0 : Hid (b ≠ 0)) (p4 : 1 ≤ ((pe b : Nat) : Int) * 4503599627370496 + ((pf b : Nat) : Int)) :
    Calls Try.prog 9 #[.float .f64 b] w fun e w' => e = .returned (.float .f64 (prev b)) ∧ w = w' := by
  have hz : (((pe b : Nat) : Int) * 4503599627370496 + ((pf b : Nat) : Int) == 0) = false := by rw [beq_eq_false_iff_ne]; omega
  have HS := Lib.hid (pb_false hp)
  cases h4 : cls b == 4
  all_goals
    go_enter Try.func9, Try.ntmps9
    go_wp2_with (first | (go_at_call 22; refine (parts_any _ _ HB.out).mono ?_; rintro e w' ⟨rfl, rfl⟩) | (go_at_call 11; refine (rclass_any _ _ HB.out).mono ?_; rintro e w' ⟨rfl, rfl⟩) | (go_at_call 23; refine (of_any _ _ _ _ (by omega) (by omega) (by omega) (by omega)).mono ?_; rintro e w' ⟨rfl, rfl⟩))
    go_ret
    have hs := HS.out
    have qq := q.out
    refine ⟨ret_float ?_, rfl⟩
    rw [prev_down (by simpa using h5) h0.out hs, ofN_size _ _ (by omega) (by omega)]
    simp only [Bool.false_eq_true, if_false]
    clear hz p4 p1 p2
    omega
set_option maxHeartbeats 400000 in
theorem rprev_up (b : Nat) (w : World) (HB : Hid (b < 18446744073709551616)) (p1 : ((pe b : Nat) : Int) < 2048) (p2 : ((pf b : Nat) : Int) < 4503599627370496) (q : Hid (pe b * 4503599627370496 + pf b = b % 9223372036854775808)) (h5 : (cls b == 5) = false) (h4 : (cls b == 4) = false) (hp : pb b = true) (p3 : ((pe b : Nat) : Int) * 4503599627370496 + ((pf b : Nat) : Int) < 9218868437227405312) :
    Calls Try.prog 9 #[.float .f64 b] w fun e w' => e = .returned (.float .f64 (prev b)) ∧ w = w' := by
  go_enter Try.func9, Try.ntmps9
  go_wp2_with (first | (go_at_call 22; refine (parts_any _ _ HB.out).mono ?_; rintro e w' ⟨rfl, rfl⟩) | (go_at_call 11; refine (rclass_any _ _ HB.out).mono ?_; rintro e w' ⟨rfl, rfl⟩) | (go_at_call 23; refine (of_any _ _ _ _ (by omega) (by omega) (by omega) (by omega)).mono ?_; rintro e w' ⟨rfl, rfl⟩))
  go_ret
  have hs := pb_true hp
  have qq := q.out
  have hb := HB.out
  refine ⟨ret_float ?_, rfl⟩
  rw [prev_up (by simpa using h5) (by simpa using h4) hs hb, ofN_size _ _ (by omega) (by omega)]
  simp; omega
set_option maxHeartbeats 400000 in
theorem rprev_low (b : Nat) (w : World) (HB : Hid (b < 18446744073709551616)) (h5 : (cls b == 5) = false) (h4 : (cls b == 4) = true) (hp : pb b = true) :
    Calls Try.prog 9 #[.float .f64 b] w fun e w' => e = .returned (.float .f64 (prev b)) ∧ w = w' := by
  go_enter Try.func9, Try.ntmps9
  go_wp2_with (first | (go_at_call 22; refine (parts_any _ _ HB.out).mono ?_; rintro e w' ⟨rfl, rfl⟩) | (go_at_call 11; refine (rclass_any _ _ HB.out).mono ?_; rintro e w' ⟨rfl, rfl⟩) | (go_at_call 23; refine (of_any _ _ _ _ (by omega) (by omega) (by omega) (by omega)).mono ?_; rintro e w' ⟨rfl, rfl⟩))
  go_ret
  exact ⟨ret_float (prev_low (by simpa using h4) (pb_true hp) HB.out).symm, rfl⟩
theorem rprev_any (b : Nat) (w : World) (hb : b < 18446744073709551616) :
    Calls Try.prog 9 #[.float .f64 b] w fun e w' => e = .returned (.float .f64 (prev b)) ∧ w = w' := by
  have p1 : ((pe b : Nat) : Int) < 2048 := by have := pe_lt b; omega
  have p2 : ((pf b : Nat) : Int) < 4503599627370496 := by have := pf_lt b; omega
  have q := parts_eq b hb
  cases h5 : cls b == 5
  · cases hp : pb b
    · by_cases h0 : b = 0
      · have h4 : (cls b == 4) = false := by rw [h0]; unfold cls; simp
        exact rprev_zero b w (Lib.hid hb) p1 p2 (Lib.hid q) h5 h4 hp (Lib.hid h0)
      · exact rprev_down b w (Lib.hid hb) p1 p2 (Lib.hid q) h5 hp (Lib.hid h0) (by have := pb_false hp; omega)
    · cases h4 : cls b == 4
      · exact rprev_up b w (Lib.hid hb) p1 p2 (Lib.hid q) h5 h4 hp (by
          have := cls_not4 (b := b) (by simpa using h5) (by simpa using h4); omega)
      · exact rprev_low b w (Lib.hid hb) h5 h4 hp
  · exact rprev_5 b w (Lib.hid hb) h5
end Go.Proofs.Ytgcolbkgldcfiab.Sc
