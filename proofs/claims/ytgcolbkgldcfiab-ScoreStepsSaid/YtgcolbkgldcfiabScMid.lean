/-
  The contract of the document's Mid, and the walks of the laws of middles, of codes and of gaps.
-/
import Derived.Test.YtgcolbkgldcfiabScLaws
namespace Go.Proofs.Ytgcolbkgldcfiab.Sc
open Go.RowKit
set_option linter.unusedVariables false

theorem rback_at (x : Int) (w : World) (h0 : 0 ≤ x) (h1 : x < 18446744073709551616) :
    Calls Try.prog 19 #[.int .u64 x] w fun e w' => e = .returned (.tuple #[.float .f64 (backX x.toNat), .int .i64 (backE x.toNat)]) ∧ w = w' := by
  obtain ⟨c, rfl⟩ := Int.eq_ofNat_of_zero_le h0
  exact rback_any c w (by omega)
theorem rback_w (x : Int) (w : World) :
    Calls Try.prog 19 #[.int .u64 (IntKind.u64.wrap x)] w fun e w' => e = .returned (.tuple #[.float .f64 (backX (x % 18446744073709551616).toNat), .int .i64 (backE (x % 18446744073709551616).toNat)]) ∧ w = w' := by
  rw [IntKind.wrap_u64]
  exact rback_at _ w (by omega) (by omega)
theorem cls_valid {b : Nat} (h : valid b = true) : cls b ≠ 5 ∧ cls b ≠ 4 ∧ cls b ≠ 1 := by rw [valid_iff] at h; omega
theorem code_valid {b : Nat} (hb : b < 18446744073709551616) (h : valid b = true) : 4503599627370496 ≤ code b ∧ code b < 18442240474082181120 := by
  obtain ⟨h5, h4, -⟩ := cls_valid h
  have := cls_not4 h5 h4
  unfold code; rw [if_neg h5]; split <;> omega
theorem mid_ok {a b : Nat} (ha : a < 18446744073709551616) (hb : b < 18446744073709551616) (va : valid a = true) (vb : valid b = true) :
    midX a b = backX ((code a + code b) / 2) ∧ midE a b = backE ((code a + code b) / 2) := by
  have h1 := code_valid ha va
  have h2 := code_valid hb vb
  have h3 : backE ((code a + code b) / 2) = 0 := backE_ok (by omega) (by omega)
  have h4 : lo a b + (hi a b - lo a b) / 2 = (code a + code b) / 2 := by unfold lo hi; omega
  unfold midX midE
  rw [va, vb, backX_ok h3, h3, h4]; exact ⟨rfl, rfl⟩
theorem mid_bad {a b : Nat} (h : valid a = false ∨ valid b = false) : midX a b = 0 ∧ midE a b = 10 := by
  unfold midX midE
  rcases h with h | h <;> rw [h] <;> simp
theorem half (x y : Nat) (hx : x < 18446744073709551616) (hy : y < 18446744073709551616) :
    ((IntKind.u64.wrap (IntKind.u64.wrap ((x : Int) / 2) + IntKind.u64.wrap ((y : Int) / 2)) + ((x : Int) % 2 + (y : Int) % 2) / 2) % 18446744073709551616).toNat = (x + y) / 2 := by
  simp only [IntKind.wrap_u64]
  omega

theorem mid_comm (a b : Nat) (ha : a < 18446744073709551616) (hb : b < 18446744073709551616) : midX b a = midX a b ∧ midE b a = midE a b := by
  cases hva : valid a
  · obtain ⟨e1, e2⟩ := mid_bad (a := a) (b := b) (.inl hva)
    obtain ⟨e3, e4⟩ := mid_bad (a := b) (b := a) (.inr hva)
    rw [e1, e2, e3, e4]; exact ⟨rfl, rfl⟩
  cases hvb : valid b
  · obtain ⟨e1, e2⟩ := mid_bad (a := a) (b := b) (.inr hvb)
    obtain ⟨e3, e4⟩ := mid_bad (a := b) (b := a) (.inl hvb)
    rw [e1, e2, e3, e4]; exact ⟨rfl, rfl⟩
  · obtain ⟨e1, e2⟩ := mid_ok ha hb hva hvb
    obtain ⟨e3, e4⟩ := mid_ok hb ha hvb hva
    rw [e1, e2, e3, e4, Nat.add_comm]; exact ⟨rfl, rfl⟩

theorem code_range (b : Nat) (hb : b < 18446744073709551616) : code b = 18446744073709551615 ∨ (4503599627370495 ≤ code b ∧ code b ≤ 18442240474082181120) := by
  by_cases h5 : cls b = 5
  · left; unfold code; rw [if_pos h5]
  · right
    have := cls_lt h5
    unfold code; rw [if_neg h5]; split <;> omega
theorem code_num (c : Nat) (hc : c = 18446744073709551615 ∨ (4503599627370495 ≤ c ∧ c ≤ 18442240474082181120)) : code (num c) = c := by
  rcases hc with rfl | ⟨h1, h2⟩
  · have : num 18446744073709551615 = 9221120237041090561 := by simp [num]
    rw [this]; unfold code cls; simp
  · have h5 : cls (num c) ≠ 5 := by
      unfold num cls; repeat' split
      all_goals first | omega | simp
    unfold code; rw [if_neg h5]
    unfold num; repeat' split
    all_goals omega
theorem code_next (b : Nat) (hb : b < 18446744073709551616) : (code b = 18446744073709551615 → code (next b) = 18446744073709551615) ∧ (code b ≠ 18446744073709551615 → code b < code (next b) ∧ ∀ z, z < 18446744073709551616 → ¬ (code b < code z ∧ code z < code (next b))) := by
  have hr := code_range b hb
  refine ⟨fun h => ?_, fun h => ?_⟩
  · unfold next; rw [if_pos (by omega), code_num _ (.inl rfl)]
  · unfold next
    split
    · rw [code_num _ (.inl rfl)]
      refine ⟨by omega, fun z hz => ?_⟩
      have := code_range z hz
      omega
    · rw [code_num _ (by omega)]
      exact ⟨by omega, fun z hz => by omega⟩
theorem code_nan (b : Nat) (hb : b < 18446744073709551616) : code b = 18446744073709551615 ↔ cls b = 5 := by
  constructor
  · intro h
    by_cases h5 : cls b = 5
    · exact h5
    · have := cls_lt h5
      unfold code at h; rw [if_neg h5] at h
      split at h <;> omega
  · intro h; unfold code; rw [if_pos h]
theorem next_lt (b : Nat) (hb : b < 18446744073709551616) : next b < 18446744073709551616 := by
  have := code_range b hb
  unfold next
  split
  · exact num_lt _ (by omega)
  · exact num_lt _ (by omega)
theorem cmp_one (a b : Nat) : (cmp a b == 1) = decide (code b < code a) := by
  unfold cmp; repeat' split
  all_goals simp_all

end Go.Proofs.Ytgcolbkgldcfiab.Sc
