/-
  Inverses and square roots modulo the prime.
-/
import Derived.Test.YteechlkccmcpfaaDoorFdMath
namespace Go.Proofs.YteechlkccmcpfaaDoor.Fd
set_option linter.unusedVariables false

/-! The same modulo the prime. -/
def cg (a b : Nat) : Prop := a % pp = b % pp
namespace cg
theorem rfl' (a : Nat) : cg a a := rfl
theorem symm {a b : Nat} (h : cg a b) : cg b a := Eq.symm h
theorem trans {a b c : Nat} (h : cg a b) (k : cg b c) : cg a c := Eq.trans h k
theorem of_eq {a b : Nat} (h : a = b) : cg a b := by rw [h]; rfl
theorem mul {a b c d : Nat} (h : cg a b) (k : cg c d) : cg (a * c) (b * d) := by unfold cg at *; rw [Nat.mul_mod, h, k, ← Nat.mul_mod]
theorem add {a b c d : Nat} (h : cg a b) (k : cg c d) : cg (a + c) (b + d) := by unfold cg at *; rw [Nat.add_mod, h, k, ← Nat.add_mod]
theorem pow {a b : Nat} (h : cg a b) (n : Nat) : cg (a ^ n) (b ^ n) := by unfold cg at *; rw [Nat.pow_mod, h, ← Nat.pow_mod]
theorem mod (a : Nat) : cg (a % pp) a := Nat.mod_mod _ _
end cg
theorem cg_eq {a b : Nat} (h : cg a b) (ha : a < pp) (hb : b < pp) : a = b := by
  unfold cg at h; rwa [Nat.mod_eq_of_lt ha, Nat.mod_eq_of_lt hb] at h
/-- -1. -/
def m1 : Nat := pp - 1
theorem m1_lt : m1 < pp := Nat.sub_lt pp_pos (by decide)
theorem m1_m1 : cg (m1 * m1) 1 := by
  obtain ⟨k, hk⟩ : ∃ k, pp = k + 2 := ⟨pp - 2, by have := pp_one; omega⟩
  unfold cg m1
  rw [hk, show k + 2 - 1 = k + 1 by omega, show (k + 1) * (k + 1) = 1 + (k + 2) * k by grind, Nat.add_mul_mod_self_left]
theorem m1_add (x : Nat) : cg (x + m1 * x) 0 := by
  unfold cg m1
  rw [show x + (pp - 1) * x = pp * x by rw [Nat.sub_mul, Nat.one_mul]; have := Nat.le_mul_of_pos_left x pp_pos; omega, Nat.mul_mod_right, Nat.zero_mod]
theorem cg_of_dvd_sub {a b : Nat} (hle : b ≤ a) (h : pp ∣ a - b) : cg a b := by
  obtain ⟨c, hc⟩ := h
  unfold cg
  rw [show a = b + pp * c by omega, Nat.add_mul_mod_self_left]
theorem cg_add_right {a b c : Nat} (h : cg (a + c) (b + c)) : cg a b := by
  have h1 : cg (a + c + m1 * c) (b + c + m1 * c) := h.add (cg.rfl' _)
  have h2 : ∀ x, cg (x + c + m1 * c) x := fun x => by
    have := (cg.rfl' x).add (m1_add c)
    rwa [← Nat.add_assoc, Nat.add_zero] at this
  exact ((h2 a).symm.trans h1).trans (h2 b)
/-- 0 less a number. -/
def ng (u : Nat) : Nat := (pp - u % pp) % pp
theorem ng_lt (u : Nat) : ng u < pp := mod_lt _
theorem ng_cg (u : Nat) : cg (ng u) (m1 * u) := by
  apply cg_add_right (c := u % pp)
  have h1 : cg (m1 * u + u % pp) 0 := by
    have := (cg.rfl' (m1 * u)).add (cg.mod u)
    rw [Nat.add_comm (m1 * u) u] at this
    exact this.trans (m1_add u)
  refine cg.trans ?_ h1.symm
  unfold ng
  refine (cg.add (cg.mod _) (cg.rfl' _)).trans ?_
  have := mod_lt u
  unfold cg
  rw [show pp - u % pp + u % pp = pp by omega, Nat.mod_self, Nat.zero_mod]
theorem cg_zero_mul {a b : Nat} (h : cg (a * b) 0) : cg a 0 ∨ cg b 0 := by
  unfold cg at *
  rw [Nat.zero_mod] at *
  rcases pp_prime.euclid (Nat.dvd_of_mod_eq_zero h) with h | h
  · exact .inl (Nat.mod_eq_zero_of_dvd h)
  · exact .inr (Nat.mod_eq_zero_of_dvd h)
theorem fermat {a : Nat} (h : ¬ cg a 0) : cg (a ^ (pp - 1)) 1 := by
  unfold cg at *
  rw [pp_prime.fermat a (by rwa [Nat.zero_mod] at h), Nat.mod_eq_of_lt pp_one]
theorem pp_2 : 2 ≤ pp := pp_one
theorem inv_mul {a : Nat} (h : ¬ cg a 0) : cg (a * a ^ (pp - 2)) 1 := by
  rw [Nat.mul_comm, ← Nat.pow_succ, show (pp - 2).succ = pp - 1 by have := pp_2; omega]
  exact fermat h
theorem cg_cancel {a b c : Nat} (hc : ¬ cg c 0) (h : cg (a * c) (b * c)) : cg a b := by
  have h1 := h.mul (cg.rfl' (c ^ (pp - 2)))
  have h2 : ∀ x, cg (x * c * c ^ (pp - 2)) x := fun x => by
    have := (cg.rfl' x).mul (inv_mul hc)
    rwa [← Nat.mul_assoc, Nat.mul_one] at this
  exact ((h2 a).symm.trans h1).trans (h2 b)
theorem cg_sq {x y : Nat} (h : cg (x * x) (y * y)) : cg x y ∨ cg x (m1 * y) := by
  -- a great one that is the same as x, so that the difference is a number
  have hX : cg (x + pp * y) x := by unfold cg; rw [Nat.add_mul_mod_self_left]
  have hle : y ≤ x + pp * y := by have := Nat.le_mul_of_pos_left y pp_pos; omega
  have h2 : cg ((x + pp * y) * (x + pp * y)) (y * y) := (hX.mul hX).trans h
  have h3 := Nat.dvd_of_mod_eq_zero (Nat.sub_mod_eq_zero_of_mod_eq h2)
  have e : ∀ a b : Nat, a * a - b * b = (a - b) * (a + b) := fun a b => by
    rw [Nat.sub_mul, Nat.mul_add, Nat.mul_add, Nat.mul_comm b a]; omega
  rw [e] at h3
  rcases pp_prime.euclid h3 with h4 | h4
  · exact .inl (hX.symm.trans (cg_of_dvd_sub hle h4))
  · refine .inr (hX.symm.trans ?_)
    apply cg_add_right (c := y)
    have h5 : cg (x + pp * y + y) 0 := by unfold cg; rw [Nat.mod_eq_zero_of_dvd h4, Nat.zero_mod]
    have h6 := m1_add y
    rw [Nat.add_comm] at h6
    exact h5.trans h6.symm
theorem not_cg_mul {a b : Nat} (ha : ¬ cg a 0) (hb : ¬ cg b 0) : ¬ cg (a * b) 0 := fun h => (cg_zero_mul h).elim ha hb
theorem not_cg_one : ¬ cg 1 0 := by unfold cg; rw [Nat.mod_eq_of_lt pp_one, Nat.zero_mod]; decide
theorem not_cg_m1 : ¬ cg m1 0 := fun h => not_cg_one (m1_m1.symm.trans ((h.mul (cg.rfl' m1)).trans (cg.of_eq (Nat.zero_mul _))))
theorem m1_ne : ¬ cg m1 1 := by
  unfold cg
  rw [Nat.mod_eq_of_lt m1_lt, Nat.mod_eq_of_lt pp_one]
  unfold m1; rw [pp_eq]; decide
theorem m1_m1_mul (x : Nat) : cg (m1 * (m1 * x)) x := by
  rw [← Nat.mul_assoc]
  have := m1_m1.mul (cg.rfl' x)
  rwa [Nat.one_mul] at this
theorem not_cg_pow {a : Nat} (ha : ¬ cg a 0) : ∀ n, ¬ cg (a ^ n) 0 := by
  intro n
  induction n with
  | zero => exact not_cg_one
  | succ n ih => rw [Nat.pow_succ]; exact not_cg_mul ih ha

/-! The numbers that are powers' exponents. -/
def e8 : Nat := 7237005577332262213973186563042994240829374041602535252466099000494570602493
theorem e8_eq : pp = 8 * e8 + 5 := by rw [pp_eq]; rfl
/-- The root of -1. -/
def im : Nat := 19681161376707505956807079304988542015446066515923890162744021073123829784752
theorem im_lt : im < pp := by rw [pp_eq]; decide
theorem im_sq : cg (im * im) m1 := by unfold cg m1; rw [pp_eq]; decide +kernel
theorem two_pow : cg (2 ^ (2 * e8 + 1)) im := by
  unfold cg
  have h : mp 256 1 2 (2 * e8 + 1) pp = im := by rw [pp_eq]; decide +kernel
  rw [pow_eq (s := 256) (by decide +kernel) pp_one h, Nat.mod_eq_of_lt im_lt]
attribute [irreducible] e8 im m1
theorem two_half : cg (2 ^ (4 * e8 + 2)) m1 := by
  rw [show 4 * e8 + 2 = (2 * e8 + 1) + (2 * e8 + 1) by omega, Nat.pow_add]
  exact (two_pow.mul two_pow).trans im_sq

/-! Even ones. -/
def ev (r : Nat) : Nat := if r % 2 = 1 then ng r else r
theorem ng_of {r : Nat} (h : r < pp) (h0 : r ≠ 0) : ng r = pp - r := by
  unfold ng; rw [Nat.mod_eq_of_lt h, Nat.mod_eq_of_lt (by omega)]
theorem ng_zero : ng 0 = 0 := by unfold ng; rw [Nat.zero_mod, Nat.sub_zero, Nat.mod_self]
theorem pp_odd : pp % 2 = 1 := by rw [pp_eq]
theorem ev_lt {r : Nat} (h : r < pp) : ev r < pp := by unfold ev; split; exact ng_lt _; exact h
theorem ev_even {r : Nat} (h : r < pp) : ev r % 2 = 0 := by
  unfold ev
  have := pp_odd
  by_cases h1 : r % 2 = 1
  · rw [if_pos h1, ng_of h (by intro h0; subst h0; cases h1)]; omega
  · rw [if_neg h1]; omega
theorem ev_ng {r : Nat} (h : r < pp) : ev (ng r) = ev r := by
  by_cases h0 : r = 0
  · subst h0; rw [ng_zero]
  · have := pp_odd
    rw [ng_of h h0]
    unfold ev
    by_cases h1 : r % 2 = 1
    · rw [if_neg (by omega), if_pos h1, ng_of h h0]
    · rw [if_pos (by omega), if_neg h1, ng_of (by omega) (by omega)]; omega
theorem ev_sq {r : Nat} (h : r < pp) : cg (ev r * ev r) (r * r) := by
  unfold ev
  split
  · have h1 := (ng_cg r).mul (ng_cg r)
    refine h1.trans ?_
    rw [show m1 * r * (m1 * r) = m1 * (m1 * (r * r)) by grind]
    exact m1_m1_mul _
  · rfl

/-! The program's root, and the document's. -/
def rt (u v : Nat) : Option Nat :=
  let r := u * v ^ 3 * (u * v ^ 7) ^ e8 % pp
  let got := r * r * v % pp
  if got = ng u then some (ev (r * im % pp)) else if got = u % pp then some (ev r) else none
def rr (u v : Nat) : Option Nat :=
  if v = 0 then (if u = 0 then some 0 else none)
  else
    let q := u * v ^ (pp - 2) % pp
    let r := q ^ (e8 + 1) % pp
    let r2 := if r * r % pp = q then r else r * (2 ^ (2 * e8 + 1) % pp) % pp
    if r2 * r2 % pp = q then some (ev r2) else none
theorem cg_mod_eq {a b : Nat} (h : cg a b) : a % pp = b % pp := h
/-- Both roots begin with the same number. -/
theorem r_same {u v : Nat} (hv : ¬ cg v 0) : cg (u * v ^ 3 * (u * v ^ 7) ^ e8) ((u * v ^ (pp - 2)) ^ (e8 + 1)) := by
  have e1 : u * v ^ 3 * (u * v ^ 7) ^ e8 = u ^ (e8 + 1) * v ^ (3 + 7 * e8) := by
    have e0 : v ^ (3 + 7 * e8) = v ^ 3 * v ^ (7 * e8) := Nat.pow_add _ _ _
    have e1 : u ^ (e8 + 1) = u ^ e8 * u := Nat.pow_succ u e8
    rw [Nat.mul_pow, ← Nat.pow_mul, e0, e1]
    generalize u ^ e8 = A
    generalize v ^ (7 * e8) = B
    generalize v ^ 3 = C
    grind
  have e2 : (u * v ^ (pp - 2)) ^ (e8 + 1) = u ^ (e8 + 1) * (v ^ (3 + 7 * e8) * (v ^ (pp - 1)) ^ e8) := by
    rw [Nat.mul_pow, ← Nat.pow_mul, ← Nat.pow_mul, ← Nat.pow_add]
    congr 2
    have := e8_eq
    generalize e8 = e at *
    rw [this, show 8 * e + 5 - 2 = 8 * e + 3 by omega, show 8 * e + 5 - 1 = 8 * e + 4 by omega]
    grind
  rw [e1, e2]
  refine (cg.rfl' _).mul ?_
  have := ((cg.rfl' (v ^ (3 + 7 * e8))).mul ((fermat hv).pow e8)).symm
  rwa [Nat.one_pow, Nat.mul_one] at this
theorem q_v {u v : Nat} (hv : ¬ cg v 0) : cg (u * v ^ (pp - 2) * v) u := by
  have := (cg.rfl' u).mul (inv_mul hv)
  rw [Nat.mul_one, Nat.mul_comm v, ← Nat.mul_assoc] at this
  exact this
theorem not_cg_lt {v : Nat} (h0 : v ≠ 0) (h : v < pp) : ¬ cg v 0 := by
  unfold cg; rw [Nat.mod_eq_of_lt h, Nat.zero_mod]; exact h0
theorem rt_eq (u v : Nat) (hu : u < pp) (hv : v < pp) : rt u v = rr u v := by
  by_cases h0 : v = 0
  · subst h0
    unfold rt rr
    rw [if_pos rfl]
    have e3 : (0 : Nat) ^ 3 = 0 := rfl
    simp only [e3, Nat.mul_zero, Nat.zero_mul, Nat.zero_mod]
    by_cases hu0 : u = 0
    · subst hu0; rw [ng_zero, if_pos rfl, if_pos rfl]; rfl
    · rw [ng_of hu hu0, if_neg (by omega), if_neg (by rw [Nat.mod_eq_of_lt hu]; omega), if_neg hu0]
  · have hv0 := not_cg_lt h0 hv
    unfold rt rr
    rw [if_neg h0]
    dsimp only
    obtain ⟨q, hq⟩ : ∃ q, q = u * v ^ (pp - 2) % pp := ⟨_, rfl⟩
    have hqc : cg q (u * v ^ (pp - 2)) := by rw [hq]; exact cg.mod _
    have hql : q < pp := by rw [hq]; exact mod_lt _
    have hqv : cg (q * v) u := (hqc.mul (cg.rfl' v)).trans (q_v hv0)
    obtain ⟨r, hr⟩ : ∃ r, r = q ^ (e8 + 1) % pp := ⟨_, rfl⟩
    have hrl : r < pp := by rw [hr]; exact mod_lt _
    have e : u * v ^ 3 * (u * v ^ 7) ^ e8 % pp = r := by
      rw [hr]; exact (r_same hv0).trans (hqc.pow _).symm
    rw [e, ← hq, ← hr]
    have c1 : cg (r * r) q → r * r * v % pp = u % pp := fun h => (h.mul (cg.rfl' v)).trans hqv
    have c2 : r * r * v % pp = u % pp → cg (r * r) q := fun h => cg_cancel hv0 (show cg _ _ from Eq.trans h hqv.symm)
    have ngu : ng u % pp = ng u := Nat.mod_eq_of_lt (ng_lt u)
    have d1 : cg (r * r) (m1 * q) → r * r * v % pp = ng u := fun h => by
      have h1 : cg (r * r * v) (m1 * (q * v)) := by rw [← Nat.mul_assoc]; exact h.mul (cg.rfl' v)
      have h2 : cg (r * r * v) (ng u) := h1.trans (((cg.rfl' m1).mul hqv).trans (ng_cg u).symm)
      rw [← ngu]; exact h2
    have d2 : r * r * v % pp = ng u → cg (r * r) (m1 * q) := fun h => by
      refine cg_cancel hv0 ?_
      have h2 : cg (r * r * v) (ng u) := by unfold cg; rw [ngu]; exact h
      refine h2.trans ((ng_cg u).trans ?_)
      rw [Nat.mul_assoc]
      exact (cg.rfl' m1).mul hqv.symm
    have t : 2 ^ (2 * e8 + 1) % pp = im := by have := two_pow; unfold cg at this; rwa [Nat.mod_eq_of_lt im_lt] at this
    have imr : cg (r * im % pp * (r * im % pp)) (m1 * (r * r)) := by
      refine ((cg.mod _).mul (cg.mod _)).trans ?_
      rw [show r * im * (r * im) = im * im * (r * r) by grind]
      exact im_sq.mul (cg.rfl' _)
    rw [t]
    have qm : ∀ x, x % pp = q ↔ cg x q := fun x => by unfold cg; rw [Nat.mod_eq_of_lt hql]
    by_cases hsq : cg (r * r) q
    · rw [if_pos ((qm _).2 hsq)]
      rw [if_pos ((qm _).2 hsq)]
      by_cases hu0 : u = 0
      · -- then all is 0
        subst hu0
        have hq0 : q = 0 := by rw [hq, Nat.zero_mul, Nat.zero_mod]
        have hr0 : r = 0 := by rw [hr, hq0, Nat.zero_pow (by omega), Nat.zero_mod]
        rw [hr0, ng_zero]
        simp
      · rw [if_neg, if_pos (c1 hsq)]
        intro h
        have h1 := d2 h
        have h2 : cg (m1 * q) q := h1.symm.trans hsq
        have hq0 : ¬ cg q 0 := fun h => hu0 (by
          have h3 : cg u 0 := hqv.symm.trans ((h.mul (cg.rfl' v)).trans (cg.of_eq (Nat.zero_mul _)))
          exact cg_eq h3 hu pp_pos)
        have h3 : cg m1 1 := cg_cancel hq0 (h2.trans (cg.of_eq (Nat.one_mul _).symm))
        exact m1_ne h3
    · rw [if_neg (fun h => hsq ((qm _).1 h))]
      by_cases hm : cg (r * r) (m1 * q)
      · rw [if_pos (d1 hm), if_pos]
        exact (qm _).2 (imr.trans (((cg.rfl' m1).mul hm).trans (m1_m1_mul q)))
      · rw [if_neg (fun h => hm (d2 h)), if_neg (fun h => hsq (c2 h)), if_neg]
        intro h
        have h1 : cg (m1 * (r * r)) q := imr.symm.trans ((qm _).1 h)
        exact hm ((m1_m1_mul _).symm.trans ((cg.rfl' m1).mul h1))
/-! What roots are. -/
theorem half_one {a : Nat} (ha : ¬ cg a 0) : cg (a ^ (4 * e8 + 2)) 1 ∨ cg (a ^ (4 * e8 + 2)) m1 := by
  have h : cg (a ^ (4 * e8 + 2) * a ^ (4 * e8 + 2)) (1 * 1) := by
    rw [← Nat.pow_add, show 4 * e8 + 2 + (4 * e8 + 2) = pp - 1 by have := e8_eq; omega]
    exact fermat ha
  rcases cg_sq h with h | h
  · exact .inl h
  · exact .inr (by rwa [Nat.mul_one] at h)
/-- There is a root just where a power is 1. -/
theorem rr_some {u v : Nat} (hu : u < pp) (hu0 : u ≠ 0) (hv : v < pp) (hv0 : v ≠ 0) :
    (cg ((u * v ^ (pp - 2)) ^ (4 * e8 + 2)) 1 → ∃ r, rr u v = some r) ∧ (cg ((u * v ^ (pp - 2)) ^ (4 * e8 + 2)) m1 → rr u v = none) := by
  have hvc := not_cg_lt hv0 hv
  have huc := not_cg_lt hu0 hu
  obtain ⟨Q, hQ⟩ : ∃ Q, Q = u * v ^ (pp - 2) := ⟨_, rfl⟩
  have hQ0 : ¬ cg Q 0 := by rw [hQ]; exact not_cg_mul huc (not_cg_pow hvc _)
  unfold rr
  rw [if_neg hv0]
  dsimp only
  rw [← hQ]
  obtain ⟨r, hr⟩ : ∃ r, r = (Q % pp) ^ (e8 + 1) % pp := ⟨_, rfl⟩
  rw [← hr]
  have hrc : cg r (Q ^ (e8 + 1)) := by rw [hr]; exact (cg.mod _).trans ((cg.mod Q).pow _)
  have hr2 : cg (r * r) (Q ^ (2 * e8 + 1) * Q) := by
    refine (hrc.mul hrc).trans (cg.of_eq ?_)
    rw [← Nat.pow_add, ← Nat.pow_succ]; congr 1; omega
  have t : 2 ^ (2 * e8 + 1) % pp = im := by have := two_pow; unfold cg at this; rwa [Nat.mod_eq_of_lt im_lt] at this
  have imr : cg (r * im % pp * (r * im % pp)) (m1 * (r * r)) := by
    refine ((cg.mod _).mul (cg.mod _)).trans ?_
    rw [show r * im * (r * im) = im * im * (r * r) by grind]
    exact im_sq.mul (cg.rfl' _)
  rw [t]
  have qm : ∀ x, x % pp = Q % pp ↔ cg x Q := fun x => Iff.rfl
  have sq : Q ^ (4 * e8 + 2) = Q ^ (2 * e8 + 1) * Q ^ (2 * e8 + 1) := by rw [← Nat.pow_add]; congr 1; omega
  rw [sq]
  constructor
  · intro h
    rcases cg_sq (y := 1) h with h1 | h1
    · have h2 : cg (r * r) Q := hr2.trans ((h1.mul (cg.rfl' Q)).trans (cg.of_eq (Nat.one_mul _)))
      rw [if_pos ((qm _).2 h2), if_pos ((qm _).2 h2)]
      exact ⟨_, rfl⟩
    · rw [Nat.mul_one] at h1
      have h2 : cg (r * r) (m1 * Q) := hr2.trans (h1.mul (cg.rfl' Q))
      have hne : ¬ cg (r * r) Q := fun h3 => m1_ne (cg_cancel hQ0 ((h2.symm.trans h3).trans (cg.of_eq (Nat.one_mul _).symm)))
      rw [if_neg (fun h3 => hne ((qm _).1 h3)), if_pos ((qm _).2 (imr.trans (((cg.rfl' m1).mul h2).trans (m1_m1_mul Q))))]
      exact ⟨_, rfl⟩
  · intro h
    have n1 : ¬ cg (Q ^ (2 * e8 + 1)) 1 := fun h1 => m1_ne (h.symm.trans ((h1.mul h1).trans (cg.of_eq (Nat.one_mul _))))
    have n2 : ¬ cg (Q ^ (2 * e8 + 1)) m1 := fun h1 => m1_ne (h.symm.trans ((h1.mul h1).trans m1_m1))
    have hne : ¬ cg (r * r) Q := fun h3 => n1 (cg_cancel hQ0 ((hr2.symm.trans h3).trans (cg.of_eq (Nat.one_mul _).symm)))
    rw [if_neg (fun h3 => hne ((qm _).1 h3)), if_neg]
    intro h3
    have h4 : cg (m1 * (r * r)) Q := imr.symm.trans ((qm _).1 h3)
    have h5 : cg (r * r) (m1 * Q) := (m1_m1_mul _).symm.trans ((cg.rfl' m1).mul h4)
    exact n2 (cg_cancel hQ0 (hr2.symm.trans h5))
/-- Of a quotient or of twice it there is a root. -/
theorem rr_twice {u v : Nat} (hu : u < pp) (hu0 : u ≠ 0) (hv : v < pp) (hv0 : v ≠ 0) : (rr u v).isSome ≠ (rr ((u + u) % pp) v).isSome := by
  have hvc := not_cg_lt hv0 hv
  have huc := not_cg_lt hu0 hu
  have h2 : ¬ cg 2 0 := by unfold cg; rw [pp_eq]; decide
  have e2 : cg ((u + u) % pp) (2 * u) := (cg.mod _).trans (cg.of_eq (by omega))
  have hw0 : (u + u) % pp ≠ 0 := fun h => not_cg_mul h2 huc (e2.symm.trans (cg.of_eq h))
  have q : cg (((u + u) % pp * v ^ (pp - 2)) ^ (4 * e8 + 2)) (m1 * (u * v ^ (pp - 2)) ^ (4 * e8 + 2)) := by
    have h1 : cg ((u + u) % pp * v ^ (pp - 2)) (2 * (u * v ^ (pp - 2))) := by rw [← Nat.mul_assoc]; exact e2.mul (cg.rfl' _)
    refine (h1.pow _).trans ?_
    rw [Nat.mul_pow]
    exact two_half.mul (cg.rfl' _)
  have A := rr_some hu hu0 hv hv0
  have B := rr_some (mod_lt (u + u)) hw0 hv hv0
  rcases half_one (not_cg_mul huc (not_cg_pow hvc (pp - 2))) with h | h
  · obtain ⟨r, hr⟩ := A.1 h
    have := B.2 (q.trans (((cg.rfl' m1).mul h).trans (cg.of_eq (Nat.mul_one _))))
    rw [hr, this]; simp
  · have h1 := A.2 h
    obtain ⟨r, hr⟩ := B.1 (q.trans (((cg.rfl' m1).mul h).trans m1_m1))
    rw [h1, hr]; simp
theorem rr_root {u v r : Nat} (hv : v < pp) (hv0 : v ≠ 0) (h : rr u v = some r) : r < pp ∧ r % 2 = 0 ∧ cg (r * r * v) u := by
  have hvc := not_cg_lt hv0 hv
  unfold rr at h
  rw [if_neg hv0] at h
  dsimp only at h
  generalize hr2 : (if (u * v ^ (pp - 2) % pp) ^ (e8 + 1) % pp * ((u * v ^ (pp - 2) % pp) ^ (e8 + 1) % pp) % pp = u * v ^ (pp - 2) % pp then (u * v ^ (pp - 2) % pp) ^ (e8 + 1) % pp else (u * v ^ (pp - 2) % pp) ^ (e8 + 1) % pp * (2 ^ (2 * e8 + 1) % pp) % pp) = r2 at h
  have hl : r2 < pp := by rw [← hr2]; split <;> exact mod_lt _
  split at h
  · rename_i hs
    injection h with h
    subst h
    refine ⟨ev_lt hl, ev_even hl, ?_⟩
    have h1 : cg (r2 * r2) (u * v ^ (pp - 2)) := hs
    exact (((ev_sq hl).trans h1).mul (cg.rfl' v)).trans (q_v hvc)
  · cases h
/-- A square's root is the one or the other of the two. -/
theorem rr_square {a : Nat} : ∃ r, rr (a * a % pp) 1 = some r ∧ r < pp ∧ r % 2 = 0 ∧ (cg r a ∨ cg r (m1 * a)) := by
  have h1 : rr (a * a % pp) 1 = none ∨ ∃ r, rr (a * a % pp) 1 = some r := by
    cases rr (a * a % pp) 1 with
    | none => exact .inl rfl
    | some r => exact .inr ⟨r, rfl⟩
  rcases h1 with h1 | ⟨r, hr⟩
  · exfalso
    by_cases h0 : a * a % pp = 0
    · rw [h0] at h1
      have hz : rr 0 1 = some 0 := by
        unfold rr
        rw [if_neg (by decide)]
        dsimp only
        rw [Nat.zero_mul, Nat.zero_mod, Nat.zero_pow (by omega), Nat.zero_mod, Nat.zero_mul, Nat.zero_mod, if_pos rfl, if_pos (by rw [Nat.zero_mul, Nat.zero_mod])]
        rfl
      rw [hz] at h1; cases h1
    · have hac : ¬ cg a 0 := fun h => h0 (by
        have := h.mul h
        unfold cg at this; rwa [Nat.zero_mul, Nat.zero_mod] at this)
      have hc : cg ((a * a % pp * 1 ^ (pp - 2)) ^ (4 * e8 + 2)) 1 := by
        rw [Nat.one_pow, Nat.mul_one]
        refine ((cg.mod _).pow _).trans ?_
        rw [← Nat.pow_two, ← Nat.pow_mul, show 2 * (4 * e8 + 2) = pp - 1 by have := e8_eq; omega]
        exact fermat hac
      obtain ⟨r, hr⟩ := (rr_some (mod_lt _) h0 pp_one (by decide)).1 hc
      rw [hr] at h1; cases h1
  · obtain ⟨h2, h3, h4⟩ := rr_root pp_one (by decide) hr
    refine ⟨r, hr, h2, h3, ?_⟩
    rw [Nat.mul_one] at h4
    exact cg_sq (h4.trans (cg.mod _))
end Go.Proofs.YteechlkccmcpfaaDoor.Fd
