/-
  Sums of scores, as plain numbers: two scores have a sum, which is a score or an infinity; a zero adds nothing.
-/
import Derived.Test.YtdiihpnfeeediaaScPlain
namespace Go.Proofs.Ytdiihpnfeeediaa.Sc
open Go
set_option linter.unusedVariables false

theorem sw : Ieee.double.signWeight = 9223372036854775808 := by decide
theorem bn : Ieee.double.binade = 4503599627370496 := by decide
theorem ir : Ieee.double.infRung = 9218868437227405312 := by decide
theorem lp : Ieee.double.leastPlace = -1074 := by decide
theorem fb : Ieee.double.fractionBits = 52 := rfl

/-- What a score stands for. -/
theorem read_valid {x : Nat} (hx : x < 18446744073709551616) (hv : valid x = true) :
    ∃ (s : Bool) (m : Nat) (i : Nat), Ieee.double.read x = .number s m (-1074 + (i : Int)) ∧ (m = 0 → s = false) ∧
      ((i = 0 ∧ m < 4503599627370496 ∧ x = (if s then 9223372036854775808 else 0) + m) ∨
        (4503599627370496 ≤ m ∧ m < 9007199254740992 ∧ i < 2046 ∧ x = (if s then 9223372036854775808 else 0) + (i * 4503599627370496 + m))) := by
  rw [valid_iff] at hv
  unfold Ieee.Format.read
  rw [sw, bn, ir, lp]
  by_cases h1 : x % 9223372036854775808 < 4503599627370496
  · simp only [h1, if_true]
    refine ⟨_, _, 0, rfl, ?_, .inl ⟨rfl, h1, ?_⟩⟩
    · intro h0
      have : cls x ≠ 1 := by omega
      unfold cls at this
      rw [if_pos h0] at this
      split at this
      · rw [beq_eq_false_iff_ne]; omega
      · exact absurd rfl this
    · split
      · rename_i h; rw [beq_iff_eq] at h; omega
      · rename_i h; rw [beq_iff_eq] at h; omega
  · have h2 : x % 9223372036854775808 < 9218868437227405312 := by
      have : cls x ≠ 4 ∧ cls x ≠ 5 := by omega
      unfold cls at this
      rw [if_neg (by omega), if_neg h1] at this
      split at this
      · assumption
      · split at this
        · exact absurd rfl this.1
        · exact absurd rfl this.2
    simp only [h1, h2, if_true, if_false]
    refine ⟨_, _, x % 9223372036854775808 / 4503599627370496 - 1, rfl, by omega, .inr ⟨by omega, by omega, by omega, ?_⟩⟩
    split
    · rename_i h; rw [beq_iff_eq] at h; omega
    · rename_i h; rw [beq_iff_eq] at h; omega

theorem cut_zero (neg : Bool) (n : Nat) : Ieee.Toward.even.cut neg n 0 = n := by
  unfold Ieee.Toward.cut
  simp [Nat.mod_one]

theorem cls_word (neg : Bool) (r : Nat) (h1 : 1 ≤ r) (h2 : r ≤ 9218868437227405312) : cls (Ieee.double.word neg r) ≠ 4 → valid (Ieee.double.word neg r) = true := by
  intro h
  rw [valid_iff]
  unfold Ieee.Format.word at *
  rw [sw] at *
  unfold cls at *
  cases neg
  all_goals
    simp only [if_true, if_false, Bool.false_eq_true] at *
    repeat' split at h
    all_goals (repeat' split) <;> omega

theorem nearest_ok (neg : Bool) (m : Nat) (i : Nat) (h0 : m = 0 → neg = false) (h4 : cls (Ieee.double.nearest neg m (-1074 + (i : Int))) ≠ 4) :
    valid (Ieee.double.nearest neg m (-1074 + (i : Int))) = true := by
  unfold Ieee.Format.nearest at *
  by_cases hm : m = 0
  · rw [if_pos hm, h0 hm, valid_iff]; unfold Ieee.Format.word cls; simp
  · rw [if_neg hm] at *
    simp only [lp, bn, ir, fb] at *
    refine cls_word _ _ ?_ (Nat.min_le_right ..) h4
    by_cases hl : -1074 + (i : Int) + (m.log2 : Int) - 52 ≤ -1074
    · have e : max (-1074 + (i : Int) + (m.log2 : Int) - ((52 : Nat) : Int)) (-1074) = -1074 := by omega
      rw [e, show ((-1074 : Int) - (-1074 + (i : Int))).toNat = 0 by omega, cut_zero]
      have : 0 < m <<< (-1074 + (i : Int) - (-1074)).toNat := by
        rw [Nat.shiftLeft_eq]; exact Nat.mul_pos (by omega) (Nat.two_pow_pos _)
      omega
    · have e : max (-1074 + (i : Int) + (m.log2 : Int) - ((52 : Nat) : Int)) (-1074) = -1074 + (i : Int) + (m.log2 : Int) - ((52 : Nat) : Int) := by omega
      rw [e]
      have : 1 ≤ (-1074 + (i : Int) + (m.log2 : Int) - ((52 : Nat) : Int) - (-1074)).toNat := by omega
      generalize (-1074 + (i : Int) + (m.log2 : Int) - ((52 : Nat) : Int) - (-1074)).toNat = z at this
      generalize Ieee.Toward.even.cut _ _ _ = y
      have : 4503599627370496 ≤ z * 4503599627370496 := by omega
      omega

theorem signed_neg (s : Bool) (m u : Nat) : Ieee.signed s m u = if s then -((m * 2 ^ u : Nat) : Int) else ((m * 2 ^ u : Nat) : Int) := by
  unfold Ieee.signed; rw [Nat.shiftLeft_eq]

/-- Two scores have a sum; it is a score, or of class 4. -/
theorem add_valid {x y : Nat} (hx : x < 18446744073709551616) (hy : y < 18446744073709551616) (vx : valid x = true) (vy : valid y = true) :
    ∃ r, Ieee.double.add x y = some r ∧ (cls r ≠ 4 → valid r = true) := by
  obtain ⟨s, m, i, e1, z1, -⟩ := read_valid hx vx
  obtain ⟨t, n, j, e2, z2, -⟩ := read_valid hy vy
  unfold Ieee.Format.add
  rw [e1, e2]
  refine ⟨_, rfl, ?_⟩
  simp only [Ieee.Format.write]
  have hb : min (-1074 + (i : Int)) (-1074 + (j : Int)) = -1074 + ((min i j : Nat) : Int) := by omega
  rw [hb]
  refine nearest_ok _ _ _ ?_
  intro h0
  have h0' : Ieee.signed s m (-1074 + (i : Int) - (-1074 + ((min i j : Nat) : Int))).toNat + Ieee.signed t n (-1074 + (j : Int) - (-1074 + ((min i j : Nat) : Int))).toNat = 0 := by omega
  rw [if_pos h0']
  cases s
  · rfl
  · cases t
    · rfl
    · exfalso
      have hm : m ≠ 0 := fun h => by simpa using z1 h
      rw [signed_neg, signed_neg] at h0'
      have := Nat.mul_pos (Nat.pos_of_ne_zero hm) (Nat.two_pow_pos (-1074 + (i : Int) - (-1074 + ((min i j : Nat) : Int))).toNat)
      simp only [if_true] at h0'
      omega

theorem read_zero : Ieee.double.read 0 = .number false 0 (-1074 + ((0 : Nat) : Int)) := by decide
theorem cut_even (neg : Bool) (m d : Nat) : Ieee.Toward.even.cut neg (m * 2 ^ d) d = m := by
  by_cases hm : m = 0
  · subst hm
    unfold Ieee.Toward.cut
    simp only [Nat.zero_mul, Nat.zero_div, Nat.zero_mod]
    simp
  · unfold Ieee.Toward.cut
    have hl : d ≤ (m * 2 ^ d).log2 := by
      rw [Nat.le_log2 (Nat.mul_ne_zero hm (Nat.pos_iff_ne_zero.1 (Nat.two_pow_pos d)))]
      exact Nat.le_mul_of_pos_left _ (Nat.pos_of_ne_zero hm)
    have e : min d ((m * 2 ^ d).log2 + 2) = d := by omega
    simp only [e, Nat.shiftLeft_eq, Nat.one_mul, Nat.mul_div_cancel _ (Nat.two_pow_pos d), Nat.mul_mod_left]
    simp

/-- A zero adds nothing. -/
theorem add_zero {x : Nat} (hx : x < 18446744073709551616) (vx : valid x = true) : Ieee.double.add x 0 = some x := by
  obtain ⟨s, m, i, e1, z1, hc⟩ := read_valid hx vx
  unfold Ieee.Format.add
  rw [e1, read_zero]
  unfold Ieee.Datum.sum
  simp only [Option.map_some]
  congr 1
  have hb : min (-1074 + (i : Int)) (-1074 + ((0 : Nat) : Int)) = -1074 + ((0 : Nat) : Int) := by omega
  rw [hb]
  have d1 : (-1074 + (i : Int) - (-1074 + ((0 : Nat) : Int))).toNat = i := by omega
  have d2 : (-1074 + ((0 : Nat) : Int) - (-1074 + ((0 : Nat) : Int))).toNat = 0 := by omega
  rw [d1, d2, signed_neg, signed_neg]
  simp only [Nat.zero_mul, Bool.and_false]
  have hp : 0 < 2 ^ i := Nat.two_pow_pos i
  have hs : ∀ M : Nat, (m = 0 → M = 0) → (m ≠ 0 → 0 < M) → (if (if s = true then -(M : Int) else (M : Int)) + (if false = true then -((0 : Nat) : Int) else ((0 : Nat) : Int)) = 0 then false
      else decide ((if s = true then -(M : Int) else (M : Int)) + (if false = true then -((0 : Nat) : Int) else ((0 : Nat) : Int)) < 0)) = s := by
    intro M h1 h2
    by_cases hm : m = 0
    · rw [h1 hm, z1 hm]; rfl
    · have := h2 hm
      cases s
      · simp
      · simp; omega
  have hs := hs (m * 2 ^ i) (by intro h; rw [h, Nat.zero_mul]) (fun h => Nat.mul_pos (Nat.pos_of_ne_zero h) hp)
  have ha : ∀ M : Nat, ((if s = true then -(M : Int) else (M : Int)) + (if false = true then -((0 : Nat) : Int) else ((0 : Nat) : Int))).natAbs = M := by
    intro M; cases s <;> simp
  have ha := ha (m * 2 ^ i)
  simp only [Ieee.Format.write]
  rw [hs, ha]
  clear hs ha e1 d1 d2 hb
  unfold Ieee.Format.nearest
  by_cases hm : m = 0
  · subst hm
    rcases hc with ⟨rfl, -, hx'⟩ | ⟨h, -⟩
    · rw [z1 rfl] at hx' ⊢
      simp [Ieee.Format.word, hx']
    · omega
  · have hne : m * 2 ^ i ≠ 0 := by have := Nat.mul_pos (Nat.pos_of_ne_zero hm) hp; omega
    rw [if_neg hne]
    simp only [lp, bn, ir, fb]
    rcases hc with ⟨rfl, hlt, hx'⟩ | ⟨h1, h2, h3, hx'⟩
    · have hl : m.log2 < 52 := by rw [Nat.log2_lt hm]; omega
      rw [Nat.pow_zero, Nat.mul_one]
      have e : max (-1074 + ((0 : Nat) : Int) + (m.log2 : Int) - ((52 : Nat) : Int)) (-1074) = -1074 := by omega
      rw [e]
      have z : (-1074 + ((0 : Nat) : Int) - (-1074)).toNat = 0 := by omega
      have z' : ((-1074 : Int) - (-1074 + ((0 : Nat) : Int))).toNat = 0 := by omega
      have z'' : ((-1074 : Int) - (-1074)).toNat = 0 := by omega
      rw [z, z', z'', Nat.shiftLeft_zero, cut_zero]
      unfold Ieee.Format.word
      rw [sw, hx']
      clear hx' z1 z z' z'' e hp hne
      split <;> omega
    · have hl : (m * 2 ^ i).log2 = 52 + i := by
        rw [Nat.log2_eq_iff hne, Nat.pow_add, show 52 + i + 1 = 53 + i by omega, Nat.pow_add]
        exact ⟨Nat.mul_le_mul_right _ h1, Nat.mul_lt_mul_of_pos_right h2 hp⟩
      rw [hl]
      have e : max (-1074 + ((0 : Nat) : Int) + ((52 + i : Nat) : Int) - ((52 : Nat) : Int)) (-1074) = -1074 + (i : Int) := by omega
      rw [e]
      have z : (-1074 + ((0 : Nat) : Int) - (-1074 + (i : Int))).toNat = 0 := by omega
      have z' : (-1074 + (i : Int) - (-1074 + ((0 : Nat) : Int))).toNat = i := by omega
      have z'' : (-1074 + (i : Int) - (-1074)).toNat = i := by omega
      rw [z, z', z'', Nat.shiftLeft_zero, cut_even]
      unfold Ieee.Format.word
      rw [sw, hx']
      clear hx' z1 z z' z'' e hp hne hl
      split <;> omega
end Go.Proofs.Ytdiihpnfeeediaa.Sc
