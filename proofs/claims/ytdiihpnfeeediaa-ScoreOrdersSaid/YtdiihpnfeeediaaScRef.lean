/-
  The contracts of the functions of the document's answers for layer 1 that only compute with numbers.
-/
import Derived.Test.YtdiihpnfeeediaaScPure
namespace Go.Proofs.Ytdiihpnfeeediaa.Sc
open Go.RowKit
set_option linter.unusedVariables false

set_option maxHeartbeats 400000 in
theorem parts_any (b : Nat) (w : World) (hb : b < 18446744073709551616) :
    Calls Try.prog 23 #[.float .f64 b] w fun e w' => e = .returned (.tuple #[.bool (pb b), .int .u64 ((pe b : Nat) : Int), .int .u64 ((pf b : Nat) : Int)]) ∧ w = w' := by
  have hfb := run_f64bits
  have HB := Lib.hid hb
  clear hb
  go_enter Try.func23, Try.ntmps23
  go_wp2
  go_ret3
  have hb := HB.out
  have e1 : (IntKind.u64.wrap ((b : Int) / 9223372036854775808) == 1) = pb b := by
    rw [IntKind.wrap_u64, Bool.eq_iff_iff, beq_iff_eq]; unfold pb; rw [decide_eq_true_eq]; omega
  have e2 : (IntKind.u64.wrap ((b : Int) / 4503599627370496)).tmod 2048 = ((pe b : Nat) : Int) := by
    rw [IntKind.wrap_u64, Int.tmod_eq_emod_of_nonneg (by omega)]; unfold pe; omega
  have e3 : (b : Int) % 4503599627370496 = ((pf b : Nat) : Int) := by unfold pf; omega
  rw [e1, e2, e3]
  exact ⟨rfl, rfl⟩

set_option maxHeartbeats 400000 in
theorem of_any (below : Bool) (x y : Int) (w : World) (h0 : 0 ≤ x) (h1 : x < 2048) (h2 : 0 ≤ y) (h3 : y < 4503599627370496) :
    Calls Try.prog 13 #[.bool below, .int .u64 x, .int .u64 y] w fun e w' => e = .returned (.float .f64 (ofN below x y)) ∧ w = w' := by
  have hfb := run_f64from
  cases below
  all_goals
    go_enter Try.func13, Try.ntmps13
    go_wp2
    go_ret
  all_goals exact ⟨ret_float (by unfold ofN; simp; try omega), rfl⟩

set_option maxHeartbeats 400000 in
theorem rclass_any (b : Nat) (w : World) (hb : b < 18446744073709551616) :
    Calls Try.prog 24 #[.float .f64 b] w fun e w' => e = .returned (.int .i64 (cls b)) ∧ w = w' := by
  have HB := Lib.hid hb
  clear hb
  go_enter Try.func24, Try.ntmps24
  go_wp2_with (go_at_call 23; refine (parts_any _ _ HB.out).mono ?_; rintro e w' ⟨rfl, rfl⟩)
  all_goals (go_ret; refine ⟨ret_int ?_, rfl⟩; rw [cls_ref b HB.out])
  all_goals repeat' split
  all_goals first | rfl | omega | (exfalso; simp_all)

set_option maxHeartbeats 400000 in
theorem rcode_any (b : Nat) (w : World) (hb : b < 18446744073709551616) :
    Calls Try.prog 17 #[.float .f64 b] w fun e w' => e = .returned (.int .u64 ((code b : Nat) : Int)) ∧ w = w' := by
  have HB := Lib.hid hb
  clear hb
  have p1 : ((pe b : Nat) : Int) < 2048 := by have := pe_lt b; omega
  have p2 : ((pf b : Nat) : Int) < 4503599627370496 := by have := pf_lt b; omega
  cases h5 : cls b == 5
  all_goals cases hp : pb b
  all_goals
    go_enter Try.func17, Try.ntmps17
    go_wp2_with (first | (go_at_call 23; refine (parts_any _ _ HB.out).mono ?_; rintro e w' ⟨rfl, rfl⟩) | (go_at_call 24; refine (rclass_any _ _ HB.out).mono ?_; rintro e w' ⟨rfl, rfl⟩))
    go_ret
    have q := parts_eq b HB.out
    refine ⟨ret_int ?_, rfl⟩
  · have h := code_ref b HB.out (by simpa using h5)
    rw [hp] at h
    rw [h]; simp; omega
  · have h := code_ref b HB.out (by simpa using h5)
    rw [hp] at h
    rw [h]; simp; omega
  · have h : cls b = 5 := by simpa using h5
    unfold code; rw [if_pos h]; rfl
  · have h : cls b = 5 := by simpa using h5
    unfold code; rw [if_pos h]; rfl

theorem num_low {c : Nat} (h : c < 9223372036854775808) : num c = 18446744073709551615 - c := by
  unfold num; rw [if_neg (by omega), if_pos h]
theorem num_high {c : Nat} (h : ¬c < 9223372036854775808) (h1 : ¬c = 18446744073709551615) : num c = c - 9223372036854775808 := by
  unfold num; rw [if_neg h1, if_neg h]

end Go.Proofs.Ytdiihpnfeeediaa.Sc
