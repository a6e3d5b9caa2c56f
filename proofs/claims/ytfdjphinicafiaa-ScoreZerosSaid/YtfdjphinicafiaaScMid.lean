/-
  The contract of the document's Mid, and the walks of the laws of middles, of codes and of gaps.
-/
import Derived.Test.YtfdjphinicafiaaScLaws
namespace Go.Proofs.Ytfdjphinicafiaa.Sc
open Go.RowKit
set_option linter.unusedVariables false

theorem rback_at (x : Int) (w : World) (h0 : 0 ≤ x) (h1 : x < 18446744073709551616) :
    Calls Try.prog 23 #[.int .u64 x] w fun e w' => e = .returned (.tuple #[.float .f64 (backX x.toNat), .int .i64 (backE x.toNat)]) ∧ w = w' := by
  obtain ⟨c, rfl⟩ := Int.eq_ofNat_of_zero_le h0
  exact rback_any c w (by omega)
theorem rback_w (x : Int) (w : World) :
    Calls Try.prog 23 #[.int .u64 (IntKind.u64.wrap x)] w fun e w' => e = .returned (.tuple #[.float .f64 (backX (x % 18446744073709551616).toNat), .int .i64 (backE (x % 18446744073709551616).toNat)]) ∧ w = w' := by
  rw [IntKind.wrap_u64]
  exact rback_at _ w (by omega) (by omega)
theorem cls_valid {b : Nat} (h : valid b = true) : cls b ≠ 5 ∧ cls b ≠ 4 ∧ cls b ≠ 1 := by rw [valid_iff] at h; omega
theorem code_valid {b : Nat} (hb : b < 18446744073709551616) (h : valid b = true) : 4503599627370496 ≤ code b ∧ code b < 18442240474082181120 := by
  obtain ⟨h5, h4, -⟩ := cls_valid h
  have := cls_not4 h5 h4
  unfold code; rw [if_neg h5]; split <;> omega
theorem mid_ok {a b : Nat} (ha : a < 18446744073709551616) (hb : b < 18446744073709551616) (va : valid a = true) (vb : valid b = true) :
    midX a b = backX ((code a + code b) / 2) ∧ midE a b = backE ((code a + code b) / 2) := by
  have h1 := code_valid ha va
  have h2 := code_valid hb vb
  have h3 : backE ((code a + code b) / 2) = 0 := backE_ok (by omega) (by omega)
  have h4 : lo a b + (hi a b - lo a b) / 2 = (code a + code b) / 2 := by unfold lo hi; omega
  unfold midX midE
  rw [va, vb, backX_ok h3, h3, h4]; exact ⟨rfl, rfl⟩
theorem mid_bad {a b : Nat} (h : valid a = false ∨ valid b = false) : midX a b = 0 ∧ midE a b = 10 := by
  unfold midX midE
  rcases h with h | h <;> rw [h] <;> simp
theorem half (x y : Nat) (hx : x < 18446744073709551616) (hy : y < 18446744073709551616) :
    ((IntKind.u64.wrap (IntKind.u64.wrap ((x : Int) / 2) + IntKind.u64.wrap ((y : Int) / 2)) + ((x : Int) % 2 + (y : Int) % 2) / 2) % 18446744073709551616).toNat = (x + y) / 2 := by
  simp only [IntKind.wrap_u64]
  omega

set_option maxHeartbeats 400000 in
theorem rmid_le (a b : Nat) (w : World) (ha : a < 18446744073709551616) (hb : b < 18446744073709551616) (hle : code a ≤ code b) :
    Calls Try.prog 37 #[.float .f64 a, .float .f64 b] w fun e w' => e = .returned (.tuple #[.float .f64 (midX a b), .int .i64 (midE a b)]) ∧ w = w' := by
  have HA := Lib.hid ha
  have HB := Lib.hid hb
  have ht : decide (((code b : Nat) : Int) < ((code a : Nat) : Int)) = false := by simp; omega
  have ht' : decide (code b < code a) = false := by simp; omega
  clear ha hb hle
  cases hva : valid a
  · go_enter Try.func37, Try.ntmps37
    go_wp2_with (go_at_call 30; refine (rvalid_any _ _ (by first | exact HA.out | exact HB.out)).mono ?_; rintro e w' ⟨rfl, rfl⟩)
    go_ret2
    obtain ⟨e1, e2⟩ := mid_bad (a := a) (b := b) (.inl hva)
    exact ⟨ret_back e1.symm e2.symm, rfl⟩
  cases hvb : valid b
  · go_enter Try.func37, Try.ntmps37
    go_wp2_with (go_at_call 30; refine (rvalid_any _ _ (by first | exact HA.out | exact HB.out)).mono ?_; rintro e w' ⟨rfl, rfl⟩)
    go_ret2
    obtain ⟨e1, e2⟩ := mid_bad (a := a) (b := b) (.inr hvb)
    exact ⟨ret_back e1.symm e2.symm, rfl⟩
  · go_enter Try.func37, Try.ntmps37
    go_wp2_with (first | (go_at_call 30; refine (rvalid_any _ _ (by first | exact HA.out | exact HB.out)).mono ?_; rintro e w' ⟨rfl, rfl⟩) | (go_at_call 18; refine (rcode_any _ _ (by first | exact HA.out | exact HB.out)).mono ?_; rintro e w' ⟨rfl, rfl⟩) | (go_at_call 23; refine (rback_w _ _).mono ?_; rintro e w' ⟨rfl, rfl⟩))
    go_ret2
    rw [half _ _ (code_lt _ HA.out) (code_lt _ HB.out)]
    obtain ⟨e1, e2⟩ := mid_ok HA.out HB.out hva hvb
    exact ⟨ret_back e1.symm e2.symm, rfl⟩
theorem mid_comm (a b : Nat) (ha : a < 18446744073709551616) (hb : b < 18446744073709551616) : midX b a = midX a b ∧ midE b a = midE a b := by
  cases hva : valid a
  · obtain ⟨e1, e2⟩ := mid_bad (a := a) (b := b) (.inl hva)
    obtain ⟨e3, e4⟩ := mid_bad (a := b) (b := a) (.inr hva)
    rw [e1, e2, e3, e4]; exact ⟨rfl, rfl⟩
  cases hvb : valid b
  · obtain ⟨e1, e2⟩ := mid_bad (a := a) (b := b) (.inr hvb)
    obtain ⟨e3, e4⟩ := mid_bad (a := b) (b := a) (.inl hvb)
    rw [e1, e2, e3, e4]; exact ⟨rfl, rfl⟩
  · obtain ⟨e1, e2⟩ := mid_ok ha hb hva hvb
    obtain ⟨e3, e4⟩ := mid_ok hb ha hvb hva
    rw [e1, e2, e3, e4, Nat.add_comm]; exact ⟨rfl, rfl⟩

set_option maxHeartbeats 400000 in
theorem rmid_any (a b : Nat) (w : World) (ha : a < 18446744073709551616) (hb : b < 18446744073709551616) :
    Calls Try.prog 37 #[.float .f64 a, .float .f64 b] w fun e w' => e = .returned (.tuple #[.float .f64 (midX a b), .int .i64 (midE a b)]) ∧ w = w' := by
  by_cases hle : code a ≤ code b
  · exact rmid_le a b w ha hb hle
  have HA := Lib.hid ha
  have HB := Lib.hid hb
  have HL := Lib.hid hle
  have ht : decide (((code b : Nat) : Int) < ((code a : Nat) : Int)) = true := by simp; omega
  have ht' : decide (code b < code a) = true := by simp; omega
  have ht2 : code b < code a := by omega
  clear ha hb hle
  cases hva : valid a
  · go_enter Try.func37, Try.ntmps37
    go_wp2_with (go_at_call 30; refine (rvalid_any _ _ (by first | exact HA.out | exact HB.out)).mono ?_; rintro e w' ⟨rfl, rfl⟩)
    go_ret2
    obtain ⟨e1, e2⟩ := mid_bad (a := a) (b := b) (.inl hva)
    exact ⟨ret_back e1.symm e2.symm, rfl⟩
  cases hvb : valid b
  · go_enter Try.func37, Try.ntmps37
    go_wp2_with (go_at_call 30; refine (rvalid_any _ _ (by first | exact HA.out | exact HB.out)).mono ?_; rintro e w' ⟨rfl, rfl⟩)
    go_ret2
    obtain ⟨e1, e2⟩ := mid_bad (a := a) (b := b) (.inr hvb)
    exact ⟨ret_back e1.symm e2.symm, rfl⟩
  · go_enter Try.func37, Try.ntmps37
    go_wp2_with (first | (go_at_call 30; refine (rvalid_any _ _ (by first | exact HA.out | exact HB.out)).mono ?_; rintro e w' ⟨rfl, rfl⟩) | (go_at_call 18; refine (rcode_any _ _ (by first | exact HA.out | exact HB.out)).mono ?_; rintro e w' ⟨rfl, rfl⟩) | (go_at_call 37; refine (rmid_le _ _ _ HB.out HA.out (Nat.le_of_lt ht2)).mono ?_; rintro e w' ⟨rfl, rfl⟩))
    go_ret2
    obtain ⟨e1, e2⟩ := mid_comm a b HA.out HB.out
    exact ⟨ret_back e1 e2, rfl⟩

set_option maxHeartbeats 400000 in
theorem walk_scoreMids (a : Nat) (wa : (Lit.float .f64 a).wf = true) (b : Nat) (wb : (Lit.float .f64 b).wf = true) (w : World) :
    Calls Try.prog 8 #[.float .f64 a, .float .f64 b] w fun e w' => e = .returned (.bool true) ∧ Below w.heap.size w w' := by
  have HA := Lib.hid (wf_f64 wa)
  have HB := Lib.hid (wf_f64 wb)
  clear wa wb
  go_enter Try.func8, Try.ntmps8
  go_wp2_with (first | (go_at_call 36; refine (mid_any _ _ _ HA.out HB.out).mono ?_; rintro e w' ⟨rfl, rfl⟩) | (go_at_call 37; refine (rmid_any _ _ _ HA.out HB.out).mono ?_; rintro e w' ⟨rfl, rfl⟩) | (go_at_call 24; refine (rsame_any _ _ _).mono ?_; rintro e w' ⟨rfl, rfl⟩) | (go_at_call 21; refine (known_any _).mono ?_; rintro e w' ⟨rfl, hb⟩))
  go_ret
  exact ⟨rfl, hb⟩

theorem code_range (b : Nat) (hb : b < 18446744073709551616) : code b = 18446744073709551615 ∨ (4503599627370495 ≤ code b ∧ code b ≤ 18442240474082181120) := by
  by_cases h5 : cls b = 5
  · left; unfold code; rw [if_pos h5]
  · right
    have := cls_lt h5
    unfold code; rw [if_neg h5]; split <;> omega
theorem code_num (c : Nat) (hc : c = 18446744073709551615 ∨ (4503599627370495 ≤ c ∧ c ≤ 18442240474082181120)) : code (num c) = c := by
  rcases hc with rfl | ⟨h1, h2⟩
  · have : num 18446744073709551615 = 9221120237041090561 := by simp [num]
    rw [this]; unfold code cls; simp
  · have h5 : cls (num c) ≠ 5 := by
      unfold num cls; repeat' split
      all_goals first | omega | simp
    unfold code; rw [if_neg h5]
    unfold num; repeat' split
    all_goals omega
theorem code_next (b : Nat) (hb : b < 18446744073709551616) : (code b = 18446744073709551615 → code (next b) = 18446744073709551615) ∧ (code b ≠ 18446744073709551615 → code b < code (next b) ∧ ∀ z, z < 18446744073709551616 → ¬ (code b < code z ∧ code z < code (next b))) := by
  have hr := code_range b hb
  refine ⟨fun h => ?_, fun h => ?_⟩
  · unfold next; rw [if_pos (by omega), code_num _ (.inl rfl)]
  · unfold next
    split
    · rw [code_num _ (.inl rfl)]
      refine ⟨by omega, fun z hz => ?_⟩
      have := code_range z hz
      omega
    · rw [code_num _ (by omega)]
      exact ⟨by omega, fun z hz => by omega⟩
theorem code_nan (b : Nat) (hb : b < 18446744073709551616) : code b = 18446744073709551615 ↔ cls b = 5 := by
  constructor
  · intro h
    by_cases h5 : cls b = 5
    · exact h5
    · have := cls_lt h5
      unfold code at h; rw [if_neg h5] at h
      split at h <;> omega
  · intro h; unfold code; rw [if_pos h]
theorem next_lt (b : Nat) (hb : b < 18446744073709551616) : next b < 18446744073709551616 := by
  have := code_range b hb
  unfold next
  split
  · exact num_lt _ (by omega)
  · exact num_lt _ (by omega)
theorem cmp_one (a b : Nat) : (cmp a b == 1) = decide (code b < code a) := by
  unfold cmp; repeat' split
  all_goals simp_all

set_option maxHeartbeats 400000 in
theorem walk_scoreGap (a : Nat) (wa : (Lit.float .f64 a).wf = true) (b : Nat) (wb : (Lit.float .f64 b).wf = true) (w : World) :
    Calls Try.prog 12 #[.float .f64 a, .float .f64 b] w fun e w' => e = .returned (.bool true) ∧ Below w.heap.size w w' := by
  have HA := Lib.hid (wf_f64 wa)
  have HB := Lib.hid (wf_f64 wb)
  have HN := Lib.hid (next_lt a HA.out)
  clear wa wb
  obtain ⟨c1, c2⟩ := code_next a HA.out
  by_cases h5 : cls a = 5
  · have h5' : (cls a == 5) = true := by simpa using h5
    have h6 : (cls (next a) == 5) = true := by
      rw [beq_iff_eq, ← code_nan _ HN.out]; exact c1 ((code_nan a HA.out).2 h5)
    clear c1 c2 h5
    go_enter Try.func12, Try.ntmps12
    go_wp2_with (first | (go_at_call 32; refine (next_any _ _ HA.out).mono ?_; rintro e w' ⟨rfl, rfl⟩) | (go_at_call 16; refine (rclass_any _ _ (by first | exact HA.out | exact HN.out)).mono ?_; rintro e w' ⟨rfl, rfl⟩) | (go_at_call 21; refine (known_any _).mono ?_; rintro e w' ⟨rfl, hb⟩))
    go_ret
    exact ⟨rfl, hb⟩
  · have h5' : (cls a == 5) = false := by simpa using h5
    obtain ⟨c3, c4⟩ := c2 (fun h => h5 ((code_nan a HA.out).1 h))
    have q1 : (cmp (next a) a == 1) = true := by rw [cmp_one]; simpa using c3
    have q2 : ((cmp b a == 1) && (cmp (next a) b == 1)) = false := by
      rw [cmp_one, cmp_one]
      have := c4 b HB.out
      simp only [← Bool.decide_and, decide_eq_false_iff_not]; exact this
    clear c1 c2 c3 c4 h5
    cases q3 : cmp b a == 1
    · rw [q3] at q2
      go_enter Try.func12, Try.ntmps12
      go_wp2_with (first | (go_at_call 32; refine (next_any _ _ HA.out).mono ?_; rintro e w' ⟨rfl, rfl⟩) | (go_at_call 16; refine (rclass_any _ _ (by first | exact HA.out | exact HN.out)).mono ?_; rintro e w' ⟨rfl, rfl⟩) | (go_at_call 19; refine (compare_any _ _ _ (by first | exact HA.out | exact HN.out | exact HB.out) (by first | exact HA.out | exact HN.out | exact HB.out)).mono ?_; rintro e w' ⟨rfl, rfl⟩) | (go_at_call 21; refine (known_any _).mono ?_; rintro e w' ⟨rfl, hb⟩))
      go_ret
      exact ⟨rfl, hb⟩
    · rw [q3, Bool.true_and] at q2
      go_enter Try.func12, Try.ntmps12
      go_wp2_with (first | (go_at_call 32; refine (next_any _ _ HA.out).mono ?_; rintro e w' ⟨rfl, rfl⟩) | (go_at_call 16; refine (rclass_any _ _ (by first | exact HA.out | exact HN.out)).mono ?_; rintro e w' ⟨rfl, rfl⟩) | (go_at_call 19; refine (compare_any _ _ _ (by first | exact HA.out | exact HN.out | exact HB.out) (by first | exact HA.out | exact HN.out | exact HB.out)).mono ?_; rintro e w' ⟨rfl, rfl⟩) | (go_at_call 21; refine (known_any _).mono ?_; rintro e w' ⟨rfl, hb⟩))
      go_ret
      exact ⟨rfl, hb⟩
end Go.Proofs.Ytfdjphinicafiaa.Sc
