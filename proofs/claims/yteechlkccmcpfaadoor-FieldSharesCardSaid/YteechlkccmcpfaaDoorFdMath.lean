/-
  Elements as five numbers, as plain numbers: what carrying, adding, multiplying leave.
-/
import Derived.Test.YteechlkccmcpfaaDoorFdPrime
namespace Go.Proofs.YteechlkccmcpfaaDoor.Fd

/-- The prime. -/
def pp : Nat := 57896044618658097711785492504343953926634992332820282019728792003956564819949
theorem pp_eq : pp = 57896044618658097711785492504343953926634992332820282019728792003956564819949 := rfl
theorem pp_prime : Pr pp := pr_77d_19949
theorem pp_pos : 0 < pp := by decide
theorem pp_one : 1 < pp := by decide
attribute [irreducible] pp

/-- Five limbs. -/
structure E5 where
  a : Nat
  b : Nat
  c : Nat
  d : Nat
  e : Nat
namespace E5
def ok (x : E5) : Prop := x.a < 18446744073709551616 ∧ x.b < 18446744073709551616 ∧ x.c < 18446744073709551616 ∧ x.d < 18446744073709551616 ∧ x.e < 18446744073709551616
def val (x : E5) : Nat := x.a + 2251799813685248 * x.b + 5070602400912917605986812821504 * x.c + 11417981541647679048466287755595961091061972992 * x.d + 25711008708143844408671393477458601640355247900524685364822016 * x.e
/-- Each limb is small. -/
def low (x : E5) : Prop := x.a < 2251799813685248 ∧ x.b < 2251799813685248 ∧ x.c < 2251799813685248 ∧ x.d < 2251799813685248 ∧ x.e < 2251799813685248
/-- Each limb is light. -/
def light (x : E5) : Prop := x.a < 2251799813947392 ∧ x.b < 2251799813947392 ∧ x.c < 2251799813947392 ∧ x.d < 2251799813947392 ∧ x.e < 2251799813947392
def sum (x : E5) : Nat := x.a + x.b + x.c + x.d + x.e
def carry (x : E5) : E5 := ⟨x.a % 2251799813685248 + 19 * (x.e / 2251799813685248), x.b % 2251799813685248 + x.a / 2251799813685248, x.c % 2251799813685248 + x.b / 2251799813685248, x.d % 2251799813685248 + x.c / 2251799813685248, x.e % 2251799813685248 + x.d / 2251799813685248⟩
theorem low.light {x : E5} (h : x.low) : x.light := by unfold low at h; unfold E5.light; omega
theorem light.ok {x : E5} (h : x.light) : x.ok := by unfold light at h; unfold E5.ok; omega
theorem carry_light {x : E5} (h : x.ok) : x.carry.light := by
  unfold ok at h; unfold light carry; simp only; omega
theorem carry_val (x : E5) : x.carry.val % pp = x.val % pp := by
  have : x.val = x.carry.val + pp * (x.e / 2251799813685248) := by
    rw [pp_eq]; unfold carry val; simp only; omega
  rw [this, Nat.add_mul_mod_self_left]
theorem carry_sum {x : E5} (h : ¬ x.low) : x.carry.sum < x.sum := by
  unfold low at h; unfold carry sum; simp only; omega
theorem low_lt {x : E5} (h : x.low) : x.val < pp + 19 := by
  rw [pp_eq]; unfold low at h; unfold val; omega
end E5
/-- The small element of a number. -/
def el (n : Nat) : E5 := ⟨n % 2251799813685248, n / 2251799813685248 % 2251799813685248, n / 5070602400912917605986812821504 % 2251799813685248, n / 11417981541647679048466287755595961091061972992 % 2251799813685248, n / 25711008708143844408671393477458601640355247900524685364822016⟩
theorem el_val (n : Nat) : (el n).val = n := by
  unfold el E5.val; simp only; omega
theorem el_low {n : Nat} (h : n < pp) : (el n).low := by
  rw [pp_eq] at h; unfold el E5.low; simp only; omega
theorem el_ok {n : Nat} (h : n < pp) : (el n).ok := (el_low h).light.ok
theorem el_of {x : E5} (h : x.low) : x = el x.val := by
  obtain ⟨a, b, c, d, e⟩ := x
  unfold E5.low at h; unfold el E5.val; simp only at h ⊢
  simp only [E5.mk.injEq]
  omega
theorem el_inj {n m : Nat} (h : el n = el m) : n = m := by rw [← el_val n, h, el_val]
theorem mod_lt (n : Nat) : n % pp < pp := Nat.mod_lt _ pp_pos
/-- What the last step of reduce finds. -/
theorem red_small {x : E5} (h : x.low) (hn : ¬ (2251799813685229 ≤ x.a ∧ x.b = 2251799813685247 ∧ x.c = 2251799813685247 ∧ x.d = 2251799813685247 ∧ x.e = 2251799813685247)) : x = el (x.val % pp) := by
  have : x.val < pp := by rw [pp_eq]; unfold E5.low at h; unfold E5.val; omega
  rw [Nat.mod_eq_of_lt this]; exact el_of h
theorem red_great {x : E5} (h : x.low) (hn : 2251799813685229 ≤ x.a ∧ x.b = 2251799813685247 ∧ x.c = 2251799813685247 ∧ x.d = 2251799813685247 ∧ x.e = 2251799813685247) : (⟨x.a - 2251799813685229, 0, 0, 0, 0⟩ : E5) = el (x.val % pp) := by
  have e : x.val = (x.a - 2251799813685229) + pp := by rw [pp_eq]; unfold E5.val; omega
  have l : x.a - 2251799813685229 < pp := by rw [pp_eq]; unfold E5.low at h; omega
  rw [e, Nat.add_mod_right, Nat.mod_eq_of_lt l]
  unfold E5.low at h; unfold el; simp only [E5.mk.injEq]; omega
namespace E5
def add (x y : E5) : E5 := ⟨x.a + y.a, x.b + y.b, x.c + y.c, x.d + y.d, x.e + y.e⟩
def sub (x y : E5) : E5 := ⟨x.a + (4503599627370458 - y.a), x.b + (4503599627370494 - y.b), x.c + (4503599627370494 - y.c), x.d + (4503599627370494 - y.d), x.e + (4503599627370494 - y.e)⟩
theorem add_val (x y : E5) : (x.add y).val = x.val + y.val := by unfold add val; simp only; omega
theorem sub_val {x y : E5} (h : y.light) : (x.sub y).val + y.val = x.val + 2 * pp := by rw [pp_eq]; unfold light at h; unfold sub val; simp only; omega
theorem add_ok {x y : E5} (hx : x.light) (hy : y.light) : (x.add y).ok := by unfold light at hx hy; unfold add ok; simp only; omega
theorem sub_ok {x y : E5} (hx : x.light) (hy : y.light) : (x.sub y).ok := by unfold light at hx hy; unfold sub ok; simp only; omega
/-- The five sums of a product. -/
def mul (x y : E5) : E5 :=
  ⟨x.a * y.a + x.b * (19 * y.e) + x.c * (19 * y.d) + x.d * (19 * y.c) + x.e * (19 * y.b),
   x.a * y.b + x.b * y.a + x.c * (19 * y.e) + x.d * (19 * y.d) + x.e * (19 * y.c),
   x.a * y.c + x.b * y.b + x.c * y.a + x.d * (19 * y.e) + x.e * (19 * y.d),
   x.a * y.d + x.b * y.c + x.c * y.b + x.d * y.a + x.e * (19 * y.e),
   x.a * y.e + x.b * y.d + x.c * y.c + x.d * y.b + x.e * y.a⟩
def sqr (x : E5) : E5 :=
  ⟨x.a * x.a + 2 * x.b * (19 * x.e) + 2 * x.c * (19 * x.d),
   2 * x.a * x.b + 2 * x.c * (19 * x.e) + x.d * (19 * x.d),
   2 * x.a * x.c + x.b * x.b + 2 * x.d * (19 * x.e),
   2 * x.a * x.d + 2 * x.b * x.c + x.e * (19 * x.e),
   2 * x.a * x.e + 2 * x.b * x.d + x.c * x.c⟩
theorem mul_val (x y : E5) : (x.mul y).val % pp = x.val * y.val % pp := by
  have : x.val * y.val = (x.mul y).val + pp * ((x.b * y.e + x.c * y.d + x.d * y.c + x.e * y.b) + 2251799813685248 * (x.c * y.e + x.d * y.d + x.e * y.c) + 5070602400912917605986812821504 * (x.d * y.e + x.e * y.d) + 11417981541647679048466287755595961091061972992 * (x.e * y.e)) := by
    rw [pp_eq]; unfold mul val; simp only; grind
  rw [this, Nat.add_mul_mod_self_left]
theorem sqr_mul (x : E5) : x.sqr = x.mul x := by
  unfold sqr mul; simp only [E5.mk.injEq]; grind
/-- What narrow leaves of five sums, ahead of reduce. -/
def nar (x : E5) : E5 := ⟨x.a % 2251799813685248 + 19 * (x.e / 2251799813685248), x.b % 2251799813685248 + x.a / 2251799813685248, x.c % 2251799813685248 + x.b / 2251799813685248, x.d % 2251799813685248 + x.c / 2251799813685248, x.e % 2251799813685248 + x.d / 2251799813685248⟩
theorem nar_val (x : E5) : x.nar.val % pp = x.val % pp := carry_val x
/-- Sums that narrow takes. -/
def wide (x : E5) : Prop := x.a < 2 ^ 109 ∧ x.b < 2 ^ 109 ∧ x.c < 2 ^ 109 ∧ x.d < 2 ^ 109 ∧ x.e < 2 ^ 109
theorem nar_ok {x : E5} (h : x.wide) : x.nar.ok := by unfold wide at h; unfold nar ok; simp only; omega
end E5
theorem mul_le {a b A B : Nat} (ha : a < A) (hb : b < B) : a * b ≤ A * B := Nat.mul_le_mul (Nat.le_of_lt ha) (Nat.le_of_lt hb)
theorem E5.mul_wide {x y : E5} (hx : x.light) (hy : y.light) : (x.mul y).wide := by
  have k : ∀ {p q : Nat}, p < 2251799813947392 → q < 2251799813947392 → p * q ≤ 5070602402093534910166696361361 + 4503599627370496 * 4503599627370496 / 4503599627370496 * 262144 ∧ p * (19 * q) ≤ 19 * 2251799813947392 * 2251799813947392 := fun {p q} hp hq => by
    have h := mul_le hp hq
    refine ⟨Nat.le_trans h (by decide), ?_⟩
    have := mul_le (show p < 2251799813947392 from hp) (show 19 * q < 19 * 2251799813947392 by omega)
    exact Nat.le_trans this (by decide)
  obtain ⟨h1, h2, h3, h4, h5⟩ := hx
  obtain ⟨g1, g2, g3, g4, g5⟩ := hy
  have k11 := k h1 g1; have k12 := k h1 g2; have k13 := k h1 g3; have k14 := k h1 g4; have k15 := k h1 g5
  have k21 := k h2 g1; have k22 := k h2 g2; have k23 := k h2 g3; have k24 := k h2 g4; have k25 := k h2 g5
  have k31 := k h3 g1; have k32 := k h3 g2; have k33 := k h3 g3; have k34 := k h3 g4; have k35 := k h3 g5
  have k41 := k h4 g1; have k42 := k h4 g2; have k43 := k h4 g3; have k44 := k h4 g4; have k45 := k h4 g5
  have k51 := k h5 g1; have k52 := k h5 g2; have k53 := k h5 g3; have k54 := k h5 g4; have k55 := k h5 g5
  unfold mul wide; simp only
  generalize x.a * y.a = m11 at *; generalize x.a * y.b = m12 at *; generalize x.a * y.c = m13 at *; generalize x.a * y.d = m14 at *; generalize x.a * y.e = m15 at *
  generalize x.b * y.a = m21 at *; generalize x.b * y.b = m22 at *; generalize x.b * y.c = m23 at *; generalize x.b * y.d = m24 at *
  generalize x.c * y.a = m31 at *; generalize x.c * y.b = m32 at *; generalize x.c * y.c = m33 at *
  generalize x.d * y.a = m41 at *; generalize x.d * y.b = m42 at *
  generalize x.e * y.a = m51 at *
  omega
end Go.Proofs.YteechlkccmcpfaaDoor.Fd
