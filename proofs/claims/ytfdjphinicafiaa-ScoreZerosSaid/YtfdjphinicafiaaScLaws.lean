/-
  The walks of the laws of layer 1 that only take numbers.
-/
import Derived.Test.YtfdjphinicafiaaScKnown
namespace Go.Proofs.Ytfdjphinicafiaa.Sc
open Go.RowKit
set_option linter.unusedVariables false

theorem wf_f64 {b : Nat} (h : (Lit.float .f64 b).wf = true) : b < 18446744073709551616 := by
  simpa [Lit.wf] using h
theorem wf_u64 {b : Int} (h : (Lit.int .u64 b).wf = true) : 0 ≤ b ∧ b < 18446744073709551616 := by
  have : 0 ≤ b ∧ b ≤ 18446744073709551615 := by simpa [Lit.wf, IntKind.min, IntKind.max, IntKind.signed, IntKind.bits] using h
  omega
theorem beq_int (a : Int) : (a == a) = true := by simp

set_option maxHeartbeats 400000 in
theorem walk_scoreCodes (a : Nat) (wa : (Lit.float .f64 a).wf = true) (b : Nat) (wb : (Lit.float .f64 b).wf = true) (w : World) :
    Calls Try.prog 3 #[.float .f64 a, .float .f64 b] w fun e w' => e = .returned (.bool true) ∧ Below w.heap.size w w' := by
  have HA := Lib.hid (wf_f64 wa)
  have HB := Lib.hid (wf_f64 wb)
  clear wa wb
  go_enter Try.func3, Try.ntmps3
  go_wp2_with (first | (go_at_call 15; refine (class_any _ _ HA.out).mono ?_; rintro e w' ⟨rfl, rfl⟩) | (go_at_call 16; refine (rclass_any _ _ HA.out).mono ?_; rintro e w' ⟨rfl, rfl⟩) | (go_at_call 17; refine (code_any _ _ HA.out).mono ?_; rintro e w' ⟨rfl, rfl⟩) | (go_at_call 18; refine (rcode_any _ _ HA.out).mono ?_; rintro e w' ⟨rfl, rfl⟩) | (go_at_call 19; refine (compare_any _ _ _ HA.out HB.out).mono ?_; rintro e w' ⟨rfl, rfl⟩) | (go_at_call 20; refine (rcompare_any _ _ _ HA.out HB.out).mono ?_; rintro e w' ⟨rfl, rfl⟩) | (go_at_call 21; refine (known_any _).mono ?_; rintro e w' ⟨rfl, hb⟩))
  go_ret
  exact ⟨rfl, hb⟩
set_option maxHeartbeats 400000 in
theorem walk_scoreBacks (c : Int) (wc : (Lit.int .u64 c).wf = true) (w : World) :
    Calls Try.prog 4 #[.int .u64 c] w fun e w' => e = .returned (.bool true) ∧ Below w.heap.size w w' := by
  obtain ⟨h0, h1⟩ := wf_u64 wc
  obtain ⟨c, rfl⟩ := Int.eq_ofNat_of_zero_le h0
  have HC := Lib.hid (show c < 18446744073709551616 by omega)
  clear wc h0 h1
  go_enter Try.func4, Try.ntmps4
  go_wp2_with (first | (go_at_call 22; refine (back_any _ _ HC.out).mono ?_; rintro e w' ⟨rfl, rfl⟩) | (go_at_call 23; refine (rback_any _ _ HC.out).mono ?_; rintro e w' ⟨rfl, rfl⟩) | (go_at_call 24; refine (rsame_any _ _ _).mono ?_; rintro e w' ⟨rfl, rfl⟩) | (go_at_call 21; refine (known_any _).mono ?_; rintro e w' ⟨rfl, hb⟩))
  go_ret
  exact ⟨rfl, hb⟩
set_option maxHeartbeats 400000 in
theorem walk_scoreNexts (a : Nat) (wa : (Lit.float .f64 a).wf = true) (w : World) :
    Calls Try.prog 6 #[.float .f64 a] w fun e w' => e = .returned (.bool true) ∧ Below w.heap.size w w' := by
  have HA := Lib.hid (wf_f64 wa)
  clear wa
  go_enter Try.func6, Try.ntmps6
  go_wp2_with (first | (go_at_call 32; refine (next_any _ _ HA.out).mono ?_; rintro e w' ⟨rfl, rfl⟩) | (go_at_call 33; refine (rnext_any _ _ HA.out).mono ?_; rintro e w' ⟨rfl, rfl⟩) | (go_at_call 24; refine (rsame_any _ _ _).mono ?_; rintro e w' ⟨rfl, rfl⟩) | (go_at_call 21; refine (known_any _).mono ?_; rintro e w' ⟨rfl, hb⟩))
  go_ret
  exact ⟨rfl, hb⟩
end Go.Proofs.Ytfdjphinicafiaa.Sc
