/-
  What the loops over digits keep: sums, differences, products, bytes.
-/
import Derived.Test.YteechlkccmcpfaaDoorRfMath
namespace Go.Proofs.YteechlkccmcpfaaDoor.Fd
set_option linter.unusedVariables false

theorem getD_set_eq (o : List Nat) (p y : Nat) (h : p < o.length) : (o.set p y).getD p 0 = y := by
  simp [List.getD_eq_getElem?_getD, h]
theorem getD_set_ne (o : List Nat) (p q y : Nat) (h : p ≠ q) : (o.set p y).getD q 0 = o.getD q 0 := by
  simp [List.getD_eq_getElem?_getD, h]
theorem vl_set (o : List Nat) (p y : Nat) (h : p < o.length) : vl (o.set p y) + 65536 ^ p * o.getD p 0 = vl o + 65536 ^ p * y := by
  induction o generalizing p with
  | nil => cases h
  | cons x o ih =>
    cases p with
    | zero => simp [vl_cons]; omega
    | succ p =>
      have := ih p (by simpa using h)
      rw [List.set_cons_succ, vl_cons, vl_cons, List.getD_cons_succ, Nat.pow_succ, Nat.mul_comm _ 65536, Nat.mul_assoc, Nat.mul_assoc]
      omega
theorem Dg.set {o : List Nat} (h : Dg o) (p y : Nat) (hy : y < 65536) : Dg (o.set p y) := by
  intro x hx
  rcases List.mem_or_eq_of_mem_set hx with h1 | h1
  · exact h x h1
  · subst h1; exact hy
theorem vl_set_take (o : List Nat) (k y : Nat) (h : k < o.length) : vl ((o.set k y).take (k + 1)) = vl (o.take k) + 65536 ^ k * y := by
  rw [vl_take_succ, getD_set_eq _ _ _ h, List.take_set_of_le (Nat.le_refl _)]
theorem vl_take_len (l : List Nat) (k : Nat) (h : l.length ≤ k) : vl (l.take k) = vl l := by rw [List.take_of_length_le h]
theorem getD_out (l : List Nat) (k : Nat) (h : l.length ≤ k) : l.getD k 0 = 0 := by
  rw [List.getD_eq_getElem?_getD, List.getElem?_eq_none h]; rfl

/-! Sums. -/
theorem sum_step (la lb o : List Nat) (k cy x : Nat) (ho : k < o.length) (hv : vl (o.take k) + 65536 ^ k * cy = vl (la.take k) + vl (lb.take k)) (hx : x = la.getD k 0 + cy + lb.getD k 0) :
    vl ((o.set k (x % 65536)).take (k + 1)) + 65536 ^ (k + 1) * (x / 65536) = vl (la.take (k + 1)) + vl (lb.take (k + 1)) := by
  rw [vl_set_take _ _ _ ho, vl_take_succ, vl_take_succ, Nat.pow_succ, Nat.mul_assoc, Nat.add_assoc, ← Nat.mul_add, show x % 65536 + 65536 * (x / 65536) = x from Nat.mod_add_div x 65536, hx]
  generalize 65536 ^ k = B at *
  simp only [Nat.mul_add]
  omega
theorem sum_end (la lb o : List Nat) (n cy : Nat) (hn : la.length = n) (hm : lb.length ≤ n) (ho : o.length = n + 1) (hv : vl (o.take n) + 65536 ^ n * cy = vl (la.take n) + vl (lb.take n)) : vl (o.set n cy) = vl la + vl lb := by
  have := vl_set_take o n cy (by omega)
  rw [List.take_of_length_le (by rw [List.length_set]; omega)] at this
  rw [this, hv, vl_take_len _ _ (by omega), vl_take_len _ _ hm]
theorem sum_digit {la lb : List Nat} (ha : Dg la) (hb : Dg lb) (k cy : Nat) (hc : cy ≤ 1) : la.getD k 0 + cy + lb.getD k 0 < 131072 := by
  have := ha.get k; have := hb.get k; omega

/-! Differences. -/
theorem minus_step (la lb o : List Nat) (k bw x : Nat) (ho : k < o.length) (hb : bw ≤ 1) (ha : Dg la) (hlb : Dg lb) (hv : vl (o.take k) + vl (lb.take k) = vl (la.take k) + 65536 ^ k * bw) (hx : x + bw + lb.getD k 0 = 65536 + la.getD k 0) :
    vl ((o.set k (x % 65536)).take (k + 1)) + vl (lb.take (k + 1)) = vl (la.take (k + 1)) + 65536 ^ (k + 1) * (1 - x / 65536) ∧ 1 - x / 65536 ≤ 1 := by
  refine ⟨?_, by omega⟩
  have h1 := ha.get k
  have h2 := hlb.get k
  obtain ⟨b', hb'⟩ : ∃ b', 1 - x / 65536 = b' := ⟨_, rfl⟩
  have e : x % 65536 + bw + lb.getD k 0 = la.getD k 0 + 65536 * b' := by omega
  rw [vl_set_take _ _ _ ho, vl_take_succ, vl_take_succ, hb', Nat.pow_succ, Nat.mul_assoc]
  generalize 65536 ^ k = B at *
  have e2 : B * (x % 65536) + B * bw + B * lb.getD k 0 = B * la.getD k 0 + B * (65536 * b') := by rw [← Nat.mul_add, ← Nat.mul_add, ← Nat.mul_add, e]
  omega
theorem minus_end (la lb o : List Nat) (n bw : Nat) (hn : la.length = n) (hm : lb.length ≤ n) (ho : o.length = n) (hd : Dg o) (hle : vl lb ≤ vl la) (hv : vl (o.take n) + vl (lb.take n) = vl (la.take n) + 65536 ^ n * bw) : vl o = vl la - vl lb := by
  rw [vl_take_len _ _ (by omega), vl_take_len _ _ hm, vl_take_len _ _ (by omega)] at hv
  have h1 := vl_lt o hd
  rw [ho] at h1
  rcases Nat.eq_zero_or_pos bw with h0 | h0
  · subst h0; omega
  · have := Nat.mul_le_mul_left (65536 ^ n) (show 1 ≤ bw from h0)
    omega

/-! Products. -/
theorem times_step (o : List Nat) (p c x a b V : Nat) (ho : p < o.length) (hx : x = o.getD p 0 + a * b + c) (hv : vl o + 65536 ^ p * c = V) :
    vl (o.set p (x % 65536)) + 65536 ^ (p + 1) * (x / 65536) = V + 65536 ^ p * (a * b) := by
  have h := vl_set o p (x % 65536) ho
  rw [Nat.pow_succ, Nat.mul_assoc]
  have e : x % 65536 + 65536 * (x / 65536) = x := Nat.mod_add_div x 65536
  generalize 65536 ^ p = B at *
  have e2 : B * (x % 65536) + B * (65536 * (x / 65536)) = B * o.getD p 0 + B * (a * b) + B * c := by rw [← Nat.mul_add, e, hx, Nat.mul_add, Nat.mul_add]
  omega
theorem times_small {o : List Nat} (hd : Dg o) (p a b c : Nat) (ha : a < 65536) (hb : b < 65536) (hc : c < 65536) : o.getD p 0 + a * b + c < 4294967296 := by
  have h1 := hd.get p
  have h2 : a * b ≤ 65535 * 65535 := Nat.mul_le_mul (by omega) (by omega)
  omega
theorem times_free {la lb o : List Nat} (hd : Dg o) (ha : Dg la) (hb : Dg lb) (j p : Nat) (hv : vl o = vl (la.take j) * vl lb) (hp : j + lb.length ≤ p) : o.getD p 0 = 0 := by
  have h1 : vl (la.take j) < 65536 ^ j := Nat.lt_of_lt_of_le (vl_lt _ (ha.take j)) (Nat.pow_le_pow_right (by decide) (by rw [List.length_take]; omega))
  have h2 := vl_lt lb hb
  have h3 : vl o < 65536 ^ p := by
    rw [hv]
    refine Nat.lt_of_lt_of_le (Nat.mul_lt_mul'' h1 h2) ?_
    rw [← Nat.pow_add]; exact Nat.pow_le_pow_right (by decide) hp
  rw [← vl_get o p hd, Nat.div_eq_of_lt h3]
theorem times_row (la lb o o' : List Nat) (j c : Nat) (hv : vl o = vl (la.take j) * vl lb) (ho : j + lb.length < o'.length) (hz : o'.getD (j + lb.length) 0 = 0)
    (hi : vl o' + 65536 ^ (j + lb.length) * c = vl o + 65536 ^ j * (la.getD j 0 * vl lb)) : vl (o'.set (j + lb.length) c) = vl (la.take (j + 1)) * vl lb := by
  have h := vl_set o' (j + lb.length) c ho
  rw [hz, Nat.mul_zero, Nat.add_zero] at h
  rw [h, hi, hv, vl_take_succ, Nat.add_mul, Nat.mul_assoc]
theorem times_in (la lb o o' : List Nat) (j k c x V : Nat) (ho : j + k < o'.length) (hx : x = o'.getD (j + k) 0 + la.getD j 0 * lb.getD k 0 + c)
    (hi : vl o' + 65536 ^ (j + k) * c = V + 65536 ^ j * (la.getD j 0 * vl (lb.take k))) :
    vl (o'.set (j + k) (x % 65536)) + 65536 ^ (j + (k + 1)) * (x / 65536) = V + 65536 ^ j * (la.getD j 0 * vl (lb.take (k + 1))) := by
  have := times_step o' (j + k) c x (la.getD j 0) (lb.getD k 0) _ ho hx hi
  rw [show j + (k + 1) = j + k + 1 by omega, this, vl_take_succ, Nat.mul_add, Nat.mul_add, Nat.pow_add, ← Nat.add_assoc]
  congr 1
  rw [Nat.mul_assoc, Nat.mul_left_comm (la.getD j 0)]

/-! Bytes. -/
def byk (v n k : Nat) : List Nat := (List.range n).map fun j => if j < k then v / 256 ^ j % 256 else 0
theorem byk_len (v n k : Nat) : (byk v n k).length = n := by simp [byk]
theorem byk_zero (v n : Nat) : byk v n 0 = List.replicate n 0 := by
  apply List.ext_getElem?
  intro i
  simp only [byk, List.getElem?_map, List.getElem?_replicate]
  by_cases h : i < n <;> simp [h]
theorem byk_get (v n k j : Nat) (hj : j < n) : (byk v n k)[j]? = some (if j < k then v / 256 ^ j % 256 else 0) := by simp [byk, hj]
theorem byk_set (v n k x : Nat) (hx : x = v / 256 ^ k % 256) : (byk v n k).set k x = byk v n (k + 1) := by
  apply List.ext_getElem?
  intro j
  rw [List.getElem?_set, byk_len]
  by_cases hj : j < n
  · rw [byk_get _ _ _ _ hj, byk_get _ _ _ _ hj]
    by_cases e : k = j
    · subst e; rw [if_pos rfl, if_pos hj, if_pos (Nat.lt_succ_self _), hx]
    · rw [if_neg e]
      by_cases h1 : j < k
      · rw [if_pos h1, if_pos (by omega)]
      · rw [if_neg h1, if_neg (by omega)]
  · have e1 : (byk v n k)[j]? = none := List.getElem?_eq_none (by rw [byk_len]; omega)
    have e2 : (byk v n (k + 1))[j]? = none := List.getElem?_eq_none (by rw [byk_len]; omega)
    rw [e1, e2]
    split
    · rw [if_neg (by omega)]
    · rfl
theorem byk_skip (v n k : Nat) (h : n ≤ k) : byk v n (k + 1) = byk v n k := by
  apply List.ext_getElem?
  intro j
  by_cases hj : j < n
  · rw [byk_get _ _ _ _ hj, byk_get _ _ _ _ hj, if_pos (by omega), if_pos (by omega)]
  · rw [List.getElem?_eq_none (by rw [byk_len]; omega), List.getElem?_eq_none (by rw [byk_len]; omega)]
theorem byk_all (v n k : Nat) (h : v < 256 ^ k) : byk v n k = by_ v n := by
  unfold byk by_
  apply List.map_congr_left
  intro j _
  split
  · rfl
  · rw [Nat.div_eq_of_lt (Nat.lt_of_lt_of_le h (Nat.pow_le_pow_right (by decide) (by omega)))]
theorem by_even (l : List Nat) (h : Dg l) (i : Nat) : l.getD i 0 % 256 = vl l / 256 ^ (2 * i) % 256 := by
  rw [by_vl l h, if_pos (by omega), show 2 * i / 2 = i by omega]
theorem by_odd (l : List Nat) (h : Dg l) (i : Nat) : l.getD i 0 / 256 = vl l / 256 ^ (2 * i + 1) % 256 := by
  rw [by_vl l h, if_neg (by omega), show (2 * i + 1) / 2 = i by omega]
theorem vl_lt256 (l : List Nat) (h : Dg l) : vl l < 256 ^ (2 * l.length) := by
  rw [Nat.pow_mul]; exact vl_lt l h
theorem le_take_succ (l : List Nat) (k : Nat) : le (l.take (k + 1)) = le (l.take k) + 256 ^ k * l.getD k 0 := by
  rw [List.take_add_one]
  cases hk : l[k]? with
  | none => simp [List.getD_eq_getElem?_getD, hk]
  | some x =>
    have : k < l.length := (List.getElem?_eq_some_iff.1 hk).1
    rw [le_append, List.length_take, Nat.min_eq_left (by omega), List.getD_eq_getElem?_getD, hk]
    simp [le_cons, le_nil]
theorem le_take_lt (l : List Nat) (k : Nat) (h : ∀ x ∈ l, x < 256) : le (l.take k) < 256 ^ k :=
  le_lt' _ _ (fun x hx => h x (List.mem_of_mem_take hx)) (by rw [List.length_take]; omega)
theorem pow_half (q : Nat) : (65536 : Nat) ^ q = 256 ^ (2 * q) := by rw [Nat.pow_mul]
theorem number_even {o l : List Nat} (hd : Dg o) (hl : ∀ x ∈ l, x < 256) (k q : Nat) (hk : k = 2 * q) (hv : vl o = le (l.take k)) : o.getD q 0 = 0 := by
  have := le_take_lt l k hl
  rw [← vl_get o q hd, hv, pow_half, ← hk, Nat.div_eq_of_lt this]
theorem number_odd {o l : List Nat} (hd : Dg o) (hl : ∀ x ∈ l, x < 256) (k q : Nat) (hk : k = 2 * q + 1) (hv : vl o = le (l.take k)) : o.getD q 0 < 256 := by
  have := le_take_lt l k hl
  rw [← vl_get o q hd, hv, pow_half]
  have h2 : le (l.take k) / 256 ^ (2 * q) < 256 := Nat.div_lt_of_lt_mul (by rw [← Nat.pow_succ]; rw [hk] at this ⊢; exact this)
  rw [Nat.mod_eq_of_lt (by omega)]; exact h2
theorem number_step_even {o l : List Nat} (k q x : Nat) (hk : k = 2 * q) (hq : q < o.length) (hx : x = l.getD k 0) (h0 : o.getD q 0 = 0) (hv : vl o = le (l.take k)) : vl (o.set q (o.getD q 0 + x)) = le (l.take (k + 1)) := by
  have h := vl_set o q (o.getD q 0 + x) hq
  rw [le_take_succ, ← hx, ← hv]
  rw [Nat.mul_add] at h
  rw [pow_half, ← hk] at h
  omega
theorem number_step_odd {o l : List Nat} (k q x : Nat) (hk : k = 2 * q + 1) (hq : q < o.length) (hx : x = l.getD k 0) (hv : vl o = le (l.take k)) : vl (o.set q (o.getD q 0 + x * 256)) = le (l.take (k + 1)) := by
  have h := vl_set o q (o.getD q 0 + x * 256) hq
  rw [le_take_succ, ← hx, ← hv]
  rw [Nat.mul_add, pow_half] at h
  have e : 256 ^ (2 * q) * (x * 256) = 256 ^ k * x := by rw [hk, Nat.pow_succ, Nat.mul_comm x, Nat.mul_assoc]
  omega
end Go.Proofs.YteechlkccmcpfaaDoor.Fd
