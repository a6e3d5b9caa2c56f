/-
  Plain numbers of layer 1: a float64 is the natural number of its bits; its class, its code, and what is told of codes. No program is named here.
-/
import Derived.WalkKit
namespace Go.Proofs.Ytdiihpnfeeediaa.Sc
open Go
set_option linter.unusedVariables false

theorem and_shl (x m k : Nat) : x &&& (m * 2 ^ k) = (x / 2 ^ k &&& m) * 2 ^ k := by
  apply Nat.eq_of_testBit_eq
  intro i
  simp only [Nat.testBit_and, Nat.testBit_mul_two_pow, Nat.testBit_div_two_pow]
  by_cases h : k ≤ i
  · simp [h, Nat.sub_add_cancel h]
  · simp [h]
theorem and_exp (b : Nat) : b &&& 9218868437227405312 = b / 4503599627370496 % 2048 * 4503599627370496 := by
  have := and_shl b 2047 52
  rw [nat_mask11] at this
  simpa using this
theorem or_sign (b : Nat) (h : b < 9223372036854775808) : b ||| 9223372036854775808 = b + 9223372036854775808 := by
  rw [Nat.or_comm, nat_join 63 9223372036854775808 b (by decide) (by simpa using h)]; omega
theorem andNot_sign (b : Nat) : b &&& (18446744073709551615 - 9223372036854775808) = b % 9223372036854775808 :=
  Nat.and_two_pow_sub_one_eq_mod b 63
theorem and_sign (b : Nat) : b &&& 9223372036854775808 = b / 9223372036854775808 % 2 * 9223372036854775808 := by
  have := nat_bit 63 b
  simpa using this

/-- The operations on bits, as the walk spells them. -/
theorem bits_and_exp (b : Nat) (h : b < 18446744073709551616) : bits .and .u64 (b : Int) 9218868437227405312 = ((b / 4503599627370496 % 2048 * 4503599627370496 : Nat) : Int) := by
  rw [show (9218868437227405312 : Int) = ((9218868437227405312 : Nat) : Int) from rfl, u64_and_nat b _ h (by decide), and_exp]
theorem bits_and_sign (b : Nat) (h : b < 18446744073709551616) : bits .and .u64 (b : Int) 9223372036854775808 = ((b / 9223372036854775808 % 2 * 9223372036854775808 : Nat) : Int) := by
  rw [show (9223372036854775808 : Int) = ((9223372036854775808 : Nat) : Int) from rfl, u64_and_nat b _ h (by decide), and_sign]
theorem bits_andNot_sign (b : Nat) (h : b < 18446744073709551616) : bits .andNot .u64 (b : Int) 9223372036854775808 = ((b % 9223372036854775808 : Nat) : Int) := by
  rw [show (9223372036854775808 : Int) = ((9223372036854775808 : Nat) : Int) from rfl, u64_andNot_nat b _ h (by decide), andNot_sign]
theorem bits_or_sign (b : Nat) (h : b < 9223372036854775808) : bits .or .u64 (b : Int) 9223372036854775808 = ((b + 9223372036854775808 : Nat) : Int) := by
  rw [show (9223372036854775808 : Int) = ((9223372036854775808 : Nat) : Int) from rfl, u64_or_nat b _ (by omega) (by decide), or_sign b h]
theorem bits_not (b : Nat) (h : b < 18446744073709551616) : bits .xor .u64 IntKind.u64.max (b : Int) = ((18446744073709551615 - b : Nat) : Int) := by
  rw [show IntKind.u64.max = ((18446744073709551615 : Nat) : Int) from rfl, u64_xor_nat _ b (by decide) h]
  have : 18446744073709551615 ^^^ b = 18446744073709551615 - b := by
    have := BitVec.toNat_not (x := BitVec.ofNat 64 b)
    rw [← BitVec.allOnes_xor, BitVec.toNat_xor] at this
    simp at this
    rw [Nat.mod_eq_of_lt h] at this
    omega
  rw [this]

def cls (b : Nat) : Int :=
  if b % 9223372036854775808 = 0 then (if b < 9223372036854775808 then 0 else 1)
  else if b % 9223372036854775808 < 4503599627370496 then 2
  else if b % 9223372036854775808 < 9218868437227405312 then 3
  else if b % 9223372036854775808 = 9218868437227405312 then 4 else 5
theorem cls_cases (b : Nat) : cls b = 0 ∨ cls b = 1 ∨ cls b = 2 ∨ cls b = 3 ∨ cls b = 4 ∨ cls b = 5 := by
  unfold cls; repeat' split
  all_goals simp
def code (b : Nat) : Nat := if cls b = 5 then 18446744073709551615 else if b < 9223372036854775808 then b + 9223372036854775808 else 18446744073709551615 - b
theorem code_lt (b : Nat) (h : b < 18446744073709551616) : code b < 18446744073709551616 := by
  unfold code; repeat' split
  all_goals omega
def num (c : Nat) : Nat := if c = 18446744073709551615 then 9221120237041090561 else if c < 9223372036854775808 then 18446744073709551615 - c else c - 9223372036854775808
theorem num_lt (c : Nat) (h : c < 18446744073709551616) : num c < 18446744073709551616 := by
  unfold num; repeat' split
  all_goals omega
theorem wrap_u64_nat (n : Nat) (h : n < 18446744073709551616) : IntKind.u64.wrap (n : Int) = (n : Int) := by
  rw [IntKind.wrap_u64]; omega
def backE (c : Nat) : Int := if c ≠ 18446744073709551615 ∧ (c < 4503599627370495 ∨ 18442240474082181120 < c) then 1 else 0
def backX (c : Nat) : Nat := if backE c = 0 then num c else 0
def cmp (a b : Nat) : Int := if code b < code a then 1 else if code a < code b then -1 else 0
def valid (b : Nat) : Bool := decide (cls b = 0 ∨ cls b = 2 ∨ cls b = 3)
theorem valid_iff (b : Nat) : valid b = true ↔ (cls b = 0 ∨ cls b = 2 ∨ cls b = 3) := by simp [valid]
def next (b : Nat) : Nat := if 18442240474082181120 ≤ code b then num 18446744073709551615 else num (code b + 1)
def prev (b : Nat) : Nat := if code b = 18446744073709551615 then num 18442240474082181120 else if code b = 4503599627370495 then num 4503599627370495 else num (code b - 1)
def lo (a b : Nat) : Nat := min (code a) (code b)
def hi (a b : Nat) : Nat := max (code a) (code b)
def midE (a b : Nat) : Int := if valid a && valid b then 0 else 10
def midX (a b : Nat) : Nat := if valid a && valid b then num (lo a b + (hi a b - lo a b) / 2) else 0
def pb (b : Nat) : Bool := decide (9223372036854775808 ≤ b)
def pe (b : Nat) : Nat := b / 4503599627370496 % 2048
def pf (b : Nat) : Nat := b % 4503599627370496
def ofN (below : Bool) (e f : Int) : Nat := (e * 4503599627370496 + f).toNat + (if below then 9223372036854775808 else 0)
theorem pe_lt (b : Nat) : pe b < 2048 := by unfold pe; omega
theorem pf_lt (b : Nat) : pf b < 4503599627370496 := by unfold pf; omega
theorem parts_eq (b : Nat) (h : b < 18446744073709551616) : pe b * 4503599627370496 + pf b = b % 9223372036854775808 := by
  unfold pe pf; omega
theorem cls_ref (b : Nat) (h : b < 18446744073709551616) : cls b = if pe b = 2047 ∧ 0 < pf b then 5 else if pe b = 2047 then 4 else if 0 < pe b then 3 else if 0 < pf b then 2 else if pb b then 1 else 0 := by
  have h1 : pb b = decide (9223372036854775808 ≤ b) := rfl
  rw [h1]
  unfold cls pe pf
  repeat' split
  all_goals first | rfl | (exfalso; (try simp only [decide_eq_true_eq] at *); omega)
theorem code_ref (b : Nat) (h : b < 18446744073709551616) (h5 : cls b ≠ 5) : code b = if pb b then 9223372036854775807 - (b % 9223372036854775808) else 9223372036854775808 + b % 9223372036854775808 := by
  have h1 : pb b = decide (9223372036854775808 ≤ b) := rfl
  rw [h1]
  unfold code
  rw [if_neg h5]
  repeat' split
  all_goals ((try simp only [decide_eq_true_eq] at *); omega)
theorem ofN_size (below : Bool) (s : Int) (h0 : 0 ≤ s) (h : s < 9223372036854775808) : ofN below (s / 4503599627370496) (s % 4503599627370496) = s.toNat + (if below then 9223372036854775808 else 0) := by
  unfold ofN; congr 1; omega
theorem pb_true {b : Nat} (h : pb b = true) : 9223372036854775808 ≤ b := by unfold pb at h; exact of_decide_eq_true h
theorem pb_false {b : Nat} (h : pb b = false) : b < 9223372036854775808 := by unfold pb at h; have := of_decide_eq_false h; omega
theorem cls_lt {b : Nat} (h5 : cls b ≠ 5) : b % 9223372036854775808 ≤ 9218868437227405312 := by
  unfold cls at h5
  repeat' split at h5
  all_goals first | omega | exact absurd rfl h5
theorem cls_not4 {b : Nat} (h5 : cls b ≠ 5) (h4 : cls b ≠ 4) : b % 9223372036854775808 < 9218868437227405312 := by
  unfold cls at h5 h4
  repeat' split at h5
  all_goals first | omega | exact absurd rfl h5 | skip
  all_goals simp_all
theorem cls_1 {b : Nat} (h : cls b = 1) : b % 9223372036854775808 = 0 ∧ 9223372036854775808 ≤ b := by
  unfold cls at h
  repeat' split at h
  all_goals first | omega | (simp at h)
theorem cls_not1 {b : Nat} (h : cls b ≠ 1) (hb : 9223372036854775808 ≤ b) : 0 < b % 9223372036854775808 := by
  unfold cls at h
  repeat' split at h
  all_goals first | omega | exact absurd rfl h
theorem cls_4 {b : Nat} (h : cls b = 4) : b % 9223372036854775808 = 9218868437227405312 := by
  unfold cls at h
  repeat' split at h
  all_goals first | omega | (simp at h)
theorem next_nan {b : Nat} (h : cls b = 5) : next b = 9221120237041090561 := by
  unfold next code; rw [if_pos h]; simp [num]
theorem next_top {b : Nat} (h : cls b = 4) (hs : b < 9223372036854775808) : next b = 9221120237041090561 := by
  have := cls_4 h
  have c5 : cls b ≠ 5 := by rw [h]; decide
  unfold next code; rw [if_neg c5, if_pos hs, if_pos (by omega)]; simp [num]
theorem next_zero {b : Nat} (h : cls b = 1) (hb : b < 18446744073709551616) : next b = 0 := by
  have := cls_1 h
  have c5 : cls b ≠ 5 := by rw [h]; decide
  unfold next code num; rw [if_neg c5]
  repeat' split
  all_goals omega
theorem next_up {b : Nat} (h5 : cls b ≠ 5) (h4 : cls b ≠ 4) (hs : b < 9223372036854775808) : next b = b + 1 := by
  have := cls_not4 h5 h4
  unfold next code num; rw [if_neg h5]
  repeat' split
  all_goals omega
theorem next_down {b : Nat} (h5 : cls b ≠ 5) (h1 : cls b ≠ 1) (hs : 9223372036854775808 ≤ b) (hb : b < 18446744073709551616) : next b = b - 1 := by
  have := cls_lt h5
  have := cls_not1 h1 hs
  unfold next code num; rw [if_neg h5]
  repeat' split
  all_goals omega
attribute [irreducible] pb pe pf ofN cls code num backE backX cmp valid next prev lo hi midE midX
end Go.Proofs.Ytdiihpnfeeediaa.Sc
