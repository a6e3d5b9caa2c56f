/-
  How two numbers stand to each other by IEEE 754, and by their codes.
-/
import Derived.Test.YtgcolbkgldcfiabScFloat
namespace Go.Proofs.Ytgcolbkgldcfiab.Sc
open Go
set_option linter.unusedVariables false

/-- The size of a number, counted in the least one's. -/
def mag (r : Nat) : Nat := if r < 4503599627370496 then r else (4503599627370496 + r % 4503599627370496) * 2 ^ (r / 4503599627370496 - 1)
theorem mag_lt {r s : Nat} (h : r < s) : mag r < mag s := by
  unfold mag
  by_cases h1 : r < 4503599627370496
  · rw [if_pos h1]
    by_cases h2 : s < 4503599627370496
    · rw [if_pos h2]; exact h
    · rw [if_neg h2]
      have : 4503599627370496 * 1 ≤ (4503599627370496 + s % 4503599627370496) * 2 ^ (s / 4503599627370496 - 1) := Nat.mul_le_mul (by omega) (Nat.two_pow_pos _)
      omega
  · have h2 : ¬ s < 4503599627370496 := by omega
    rw [if_neg h1, if_neg h2]
    by_cases he : r / 4503599627370496 = s / 4503599627370496
    · rw [he]
      exact Nat.mul_lt_mul_of_pos_right (by omega) (Nat.two_pow_pos _)
    · have hl : r / 4503599627370496 - 1 + 1 ≤ s / 4503599627370496 - 1 := by omega
      have h3 : 2 ^ (r / 4503599627370496 - 1 + 1) ≤ 2 ^ (s / 4503599627370496 - 1) := Nat.pow_le_pow_right (by decide) hl
      have h4 : (4503599627370496 + r % 4503599627370496) * 2 ^ (r / 4503599627370496 - 1) < 9007199254740992 * 2 ^ (r / 4503599627370496 - 1) := Nat.mul_lt_mul_of_pos_right (by omega) (Nat.two_pow_pos _)
      have h5 : 9007199254740992 * 2 ^ (r / 4503599627370496 - 1) = 4503599627370496 * 2 ^ (r / 4503599627370496 - 1 + 1) := by rw [Nat.pow_succ]; omega
      have h6 : 4503599627370496 * 2 ^ (r / 4503599627370496 - 1 + 1) ≤ 4503599627370496 * 2 ^ (s / 4503599627370496 - 1) := Nat.mul_le_mul_left _ h3
      have h7 : 4503599627370496 * 2 ^ (s / 4503599627370496 - 1) ≤ (4503599627370496 + s % 4503599627370496) * 2 ^ (s / 4503599627370496 - 1) := Nat.mul_le_mul_right _ (by omega)
      generalize 2 ^ (s / 4503599627370496 - 1) = A at *
      generalize 2 ^ (r / 4503599627370496 - 1 + 1) = B at *
      generalize 2 ^ (r / 4503599627370496 - 1) = C at *
      exact Nat.lt_of_lt_of_le h4 (by rw [h5]; exact Nat.le_trans h6 h7)
theorem mag_lt_iff {r s : Nat} : mag r < mag s ↔ r < s := by
  constructor
  · intro h
    by_cases h1 : r < s
    · exact h1
    · by_cases h2 : r = s
      · subst h2; omega
      · have := mag_lt (show s < r by omega); omega
  · exact mag_lt

/-- A number with its sign, counted in the least one's. -/
def sval (b : Nat) : Int := if b < 9223372036854775808 then (mag (b % 9223372036854775808) : Int) else -(mag (b % 9223372036854775808) : Int)

theorem read_num {x : Nat} (hx : x < 18446744073709551616) (hc : x % 9223372036854775808 < 9218868437227405312) :
    ∃ (s : Bool) (m : Nat) (i : Nat), Ieee.double.read x = .number s m (-1074 + (i : Int)) ∧ (if s then -((m * 2 ^ i : Nat) : Int) else ((m * 2 ^ i : Nat) : Int)) = sval x := by
  unfold Ieee.Format.read
  rw [sw, bn, ir, lp]
  have hs : (x / 9223372036854775808 % 2 == 1) = !decide (x < 9223372036854775808) := by
    rw [Bool.eq_iff_iff]; simp; omega
  rw [hs]
  by_cases h1 : x % 9223372036854775808 < 4503599627370496
  · simp only [h1, if_true]
    refine ⟨_, _, 0, rfl, ?_⟩
    unfold sval mag
    rw [if_pos h1]
    by_cases h2 : x < 9223372036854775808 <;> simp [h2]
  · simp only [h1, hc, if_true, if_false]
    refine ⟨_, _, x % 9223372036854775808 / 4503599627370496 - 1, rfl, ?_⟩
    unfold sval mag
    rw [if_neg h1]
    by_cases h2 : x < 9223372036854775808 <;> simp [h2]
theorem read_inf {x : Nat} (hx : x < 18446744073709551616) (hc : x % 9223372036854775808 = 9218868437227405312) : Ieee.double.read x = .infinity (!decide (x < 9223372036854775808)) := by
  unfold Ieee.Format.read
  rw [sw, bn, ir, lp]
  have hs : (x / 9223372036854775808 % 2 == 1) = !decide (x < 9223372036854775808) := by
    rw [Bool.eq_iff_iff]; simp; omega
  rw [hs, hc]
  simp
theorem read_nan {x : Nat} (hx : x < 18446744073709551616) (hc : 9218868437227405312 < x % 9223372036854775808) : ∃ s t, Ieee.double.read x = .nan s t := by
  unfold Ieee.Format.read
  rw [sw, bn, ir, lp]
  have a1 : ¬ x % 9223372036854775808 < 4503599627370496 := by omega
  have a2 : ¬ x % 9223372036854775808 < 9218868437227405312 := by omega
  have a3 : ¬ x % 9223372036854775808 = 9218868437227405312 := by omega
  simp only [a1, a2, a3, if_false]
  exact ⟨_, _, rfl⟩

theorem compare_mul (a b : Int) (k : Nat) : compare (a * (2 ^ k : Nat)) (b * (2 ^ k : Nat)) = compare a b := by
  have hp : (0 : Int) < ((2 ^ k : Nat) : Int) := by have := Nat.two_pow_pos k; omega
  simp only [Int.compare_eq_ite_lt, Int.mul_lt_mul_right hp]
theorem order_num {x y : Nat} (hx : x < 18446744073709551616) (hy : y < 18446744073709551616) (cx : x % 9223372036854775808 < 9218868437227405312) (cy : y % 9223372036854775808 < 9218868437227405312) :
    Ieee.double.order x y = some (compare (sval x) (sval y)) := by
  obtain ⟨s, m, i, e1, v1⟩ := read_num hx cx
  obtain ⟨t, n, j, e2, v2⟩ := read_num hy cy
  unfold Ieee.Format.order
  rw [e1, e2]
  unfold Ieee.Datum.order
  simp only
  congr 1
  have hb : min (-1074 + (i : Int)) (-1074 + (j : Int)) = -1074 + ((min i j : Nat) : Int) := by omega
  rw [hb]
  have d1 : (-1074 + (i : Int) - (-1074 + ((min i j : Nat) : Int))).toNat = i - min i j := by omega
  have d2 : (-1074 + (j : Int) - (-1074 + ((min i j : Nat) : Int))).toNat = j - min i j := by omega
  rw [d1, d2, ← v1, ← v2, ← compare_mul _ _ (min i j)]
  have p1 : 2 ^ (i - min i j) * 2 ^ (min i j) = 2 ^ i := by rw [← Nat.pow_add]; congr 1; omega
  have p2 : 2 ^ (j - min i j) * 2 ^ (min i j) = 2 ^ j := by rw [← Nat.pow_add]; congr 1; omega
  have q1 : Ieee.signed s m (i - min i j) * ((2 ^ (min i j) : Nat) : Int) = if s then -((m * 2 ^ i : Nat) : Int) else ((m * 2 ^ i : Nat) : Int) := by
    rw [signed_neg, ← p1]; split <;> simp [Int.mul_assoc, Int.neg_mul]
  have q2 : Ieee.signed t n (j - min i j) * ((2 ^ (min i j) : Nat) : Int) = if t then -((n * 2 ^ j : Nat) : Int) else ((n * 2 ^ j : Nat) : Int) := by
    rw [signed_neg, ← p2]; split <;> simp [Int.mul_assoc, Int.neg_mul]
  rw [q1, q2]

theorem code_eq {x : Nat} (hx : x < 18446744073709551616) (h : x % 9223372036854775808 ≤ 9218868437227405312) : code x = if x < 9223372036854775808 then 9223372036854775808 + x % 9223372036854775808 else 9223372036854775807 - x % 9223372036854775808 := by
  have h5 : cls x ≠ 5 := by
    unfold cls; repeat' split
    all_goals first | omega | simp
  unfold code; rw [if_neg h5]
  split <;> omega
theorem mag_pos (r : Nat) : 0 ≤ (mag r : Int) := by omega
theorem mag_zero {r : Nat} (h : mag r = 0) : r = 0 := by
  by_cases h0 : r = 0
  · exact h0
  · have := mag_lt (show 0 < r by omega); omega
theorem mag_eq {r s : Nat} (h : mag r = mag s) : r = s := by
  rcases Nat.lt_trichotomy r s with h1 | h1 | h1
  · have := mag_lt h1; omega
  · exact h1
  · have := mag_lt h1; omega

/-- What the order by IEEE 754 says of codes. -/
theorem order_code {x y : Nat} (hx : x < 18446744073709551616) (hy : y < 18446744073709551616) :
    (Ieee.double.order x y = some .lt → code x < code y) ∧ (Ieee.double.order x y = some .gt → code y < code x) ∧
      (Ieee.double.order x y = some .eq → code x = code y ∨ Ieee.double.order x 0 = some .eq) := by
  by_cases nx : 9218868437227405312 < x % 9223372036854775808
  · obtain ⟨s, t, e⟩ := read_nan hx nx
    have : Ieee.double.order x y = none := by unfold Ieee.Format.order; rw [e]; rfl
    rw [this]; simp
  by_cases ny : 9218868437227405312 < y % 9223372036854775808
  · obtain ⟨s, t, e⟩ := read_nan hy ny
    have : Ieee.double.order x y = none := by unfold Ieee.Format.order; rw [e]; cases Ieee.double.read x <;> rfl
    rw [this]; simp
  have kx := code_eq hx (by omega)
  have ky := code_eq hy (by omega)
  by_cases ix : x % 9223372036854775808 = 9218868437227405312
  · have ex := read_inf hx ix
    by_cases iy : y % 9223372036854775808 = 9218868437227405312
    · have ey := read_inf hy iy
      unfold Ieee.Format.order
      rw [ex, ey]
      simp only [Ieee.Datum.order]
      by_cases h1 : x < 9223372036854775808 <;> by_cases h2 : y < 9223372036854775808 <;> simp [h1, h2] at kx ky ⊢ <;> first | omega | (left; omega) | exact ⟨fun h => absurd h (by decide), fun _ => by omega⟩ | exact ⟨fun _ => by omega, fun h => absurd h (by decide)⟩
    · obtain ⟨s, m, i, ey, -⟩ := read_num hy (by omega)
      unfold Ieee.Format.order
      rw [ex, ey]
      simp only [Ieee.Datum.order]
      by_cases h1 : x < 9223372036854775808 <;> by_cases h2 : y < 9223372036854775808 <;> simp [h1, h2] at kx ky ⊢ <;> omega
  · obtain ⟨s, m, i, ex, -⟩ := read_num hx (by omega)
    by_cases iy : y % 9223372036854775808 = 9218868437227405312
    · have ey := read_inf hy iy
      unfold Ieee.Format.order
      rw [ex, ey]
      simp only [Ieee.Datum.order]
      by_cases h1 : x < 9223372036854775808 <;> by_cases h2 : y < 9223372036854775808 <;> simp [h1, h2] at kx ky ⊢ <;> omega
    · rw [order_num hx hy (by omega) (by omega), order_num hx (show 0 < 18446744073709551616 by omega) (by omega) (by omega)]
      have z0 : sval 0 = 0 := by unfold sval mag; simp
      rw [z0]
      simp only [Option.some.injEq, Int.compare_eq_lt, Int.compare_eq_gt, Int.compare_eq_eq]
      unfold sval
      rw [kx, ky]
      by_cases h1 : x < 9223372036854775808 <;> by_cases h2 : y < 9223372036854775808 <;> simp only [h1, h2, if_true, if_false]
      · refine ⟨fun h => ?_, fun h => ?_, fun h => .inl ?_⟩
        · have := mag_lt_iff.1 (show mag (x % 9223372036854775808) < mag (y % 9223372036854775808) by omega); omega
        · have := mag_lt_iff.1 (show mag (y % 9223372036854775808) < mag (x % 9223372036854775808) by omega); omega
        · have := mag_eq (show mag (x % 9223372036854775808) = mag (y % 9223372036854775808) by omega); omega
      · refine ⟨fun h => by omega, fun h => by omega, fun h => .inr (by omega)⟩
      · refine ⟨fun h => by omega, fun h => by omega, fun h => .inr (by omega)⟩
      · refine ⟨fun h => ?_, fun h => ?_, fun h => .inl ?_⟩
        · have := mag_lt_iff.1 (show mag (y % 9223372036854775808) < mag (x % 9223372036854775808) by omega); omega
        · have := mag_lt_iff.1 (show mag (x % 9223372036854775808) < mag (y % 9223372036854775808) by omega); omega
        · have := mag_eq (show mag (x % 9223372036854775808) = mag (y % 9223372036854775808) by omega); omega
end Go.Proofs.Ytgcolbkgldcfiab.Sc
