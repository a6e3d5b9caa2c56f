/-
  What the loops over digits keep: shifts, numbers modulo the prime, limbs, column sums.
-/
import Derived.Test.YteechlkccmcpfaaDoorRfMath2
import Derived.Test.YteechlkccmcpfaaDoorFdRoots
namespace Go.Proofs.YteechlkccmcpfaaDoor.Fd
set_option linter.unusedVariables false

/-- A number's first digits up to a place, noughts behind. -/
def dgk (v n k : Nat) : List Nat := (List.range n).map fun j => if j < k then v / 65536 ^ j % 65536 else 0
theorem dgk_len (v n k : Nat) : (dgk v n k).length = n := by simp [dgk]
theorem dgk_zero (v n : Nat) : dgk v n 0 = List.replicate n 0 := by
  apply List.ext_getElem?
  intro i
  simp only [dgk, List.getElem?_map, List.getElem?_replicate]
  by_cases h : i < n <;> simp [h]
theorem dgk_get? (v n k j : Nat) (hj : j < n) : (dgk v n k)[j]? = some (if j < k then v / 65536 ^ j % 65536 else 0) := by simp [dgk, hj]
theorem dgk_get (v n k j : Nat) (hj : j < n) : (dgk v n k).getD j 0 = if j < k then v / 65536 ^ j % 65536 else 0 := by
  rw [List.getD_eq_getElem?_getD, dgk_get? _ _ _ _ hj]; rfl
theorem dgk_set (v n k x : Nat) (hx : x = v / 65536 ^ k % 65536) : (dgk v n k).set k x = dgk v n (k + 1) := by
  apply List.ext_getElem?
  intro j
  rw [List.getElem?_set, dgk_len]
  by_cases hj : j < n
  · rw [dgk_get? _ _ _ _ hj, dgk_get? _ _ _ _ hj]
    by_cases e : k = j
    · subst e; rw [if_pos rfl, if_pos hj, if_pos (Nat.lt_succ_self _), hx]
    · rw [if_neg e]
      by_cases h1 : j < k
      · rw [if_pos h1, if_pos (by omega)]
      · rw [if_neg h1, if_neg (by omega)]
  · have e1 : (dgk v n k)[j]? = none := List.getElem?_eq_none (by rw [dgk_len]; omega)
    have e2 : (dgk v n (k + 1))[j]? = none := List.getElem?_eq_none (by rw [dgk_len]; omega)
    rw [e1, e2]
    split
    · rw [if_neg (by omega)]
    · rfl
theorem dgk_dg (v n k : Nat) : Dg (dgk v n k) := by
  intro x hx
  simp only [dgk, List.mem_map] at hx
  obtain ⟨j, -, rfl⟩ := hx
  split
  · exact Nat.mod_lt _ (by decide)
  · decide
theorem vl_dgk : ∀ (n v : Nat), vl (dgk v n n) = v % 65536 ^ n := by
  intro n
  induction n with
  | zero => intro v; simp [dgk, vl_nil, Nat.mod_one]
  | succ n ih =>
    intro v
    have e : dgk v (n + 1) (n + 1) = v % 65536 :: dgk (v / 65536) n n := by
      unfold dgk
      rw [List.range_succ_eq_map, List.map_cons, List.map_map]
      congr 1
      · rw [if_pos (Nat.succ_pos _), Nat.pow_zero, Nat.div_one]
      · apply List.map_congr_left
        intro i hi
        have := List.mem_range.1 hi
        simp only [Function.comp]
        rw [if_pos (by omega), if_pos this, Nat.div_div_eq_div_mul, Nat.pow_succ, Nat.mul_comm (65536 ^ i)]
    rw [e, vl_cons, ih, Nat.pow_succ, Nat.mul_comm (65536 ^ n), Nat.mod_mul]
theorem vl_dgk_of {v n : Nat} (h : v < 65536 ^ n) : vl (dgk v n n) = v := by rw [vl_dgk, Nat.mod_eq_of_lt h]
theorem dg_eq_div (l : List Nat) (h : Dg l) (j : Nat) : vl l / 65536 ^ j = l.getD j 0 + 65536 * (vl l / 65536 ^ (j + 1)) := by
  have := vl_get l j h
  rw [Nat.pow_succ, ← Nat.div_div_eq_div_mul]; omega
/-- A digit of a number without its lowest binary digits. -/
theorem shift_digit (l : List Nat) (h : Dg l) (o j s c d : Nat) (hc : c = 2 ^ s) (hd : c * d = 65536) :
    (vl l / (65536 ^ o * c)) / 65536 ^ j % 65536 = l.getD (o + j) 0 / c + l.getD (o + j + 1) 0 % c * d := by
  have hc0 : 0 < c := by rw [hc]; exact Nat.pow_pos (by decide)
  have hd0 : 0 < d := Nat.pos_of_ne_zero (by rintro rfl; omega)
  rw [Nat.div_div_eq_div_mul, Nat.mul_assoc, Nat.mul_comm c, ← Nat.mul_assoc, ← Nat.pow_add, ← Nat.div_div_eq_div_mul, dg_eq_div l h (o + j), dg_eq_div l h (o + j + 1)]
  have h1 := h.get (o + j)
  have h2 := h.get (o + j + 1)
  generalize l.getD (o + j) 0 = x at *
  generalize l.getD (o + j + 1) 0 = y at *
  generalize vl l / 65536 ^ (o + j + 1 + 1) = z
  have e : x + 65536 * (y + 65536 * z) = x + c * (d * (y + 65536 * z)) := by rw [← Nat.mul_assoc, hd]
  rw [e, Nat.add_mul_div_left _ _ hc0]
  have hx : x / c < d := by rw [Nat.div_lt_iff_lt_mul hc0, Nat.mul_comm, hd]; exact h1
  have e2 : d * (y + 65536 * z) = d * (y % c) + 65536 * (y / c + d * z) := by
    have := Nat.mod_add_div y c
    have e3 : y + 65536 * z = y % c + c * (y / c + d * z) := by
      rw [Nat.mul_add, ← Nat.mul_assoc c d, hd, ← Nat.add_assoc, this]
    rw [e3, Nat.mul_add, ← Nat.mul_assoc d c, Nat.mul_comm d c, hd]
  rw [e2, ← Nat.add_assoc, Nat.add_mul_mod_self_left, Nat.mul_comm d]
  have hy : y % c ≤ c - 1 := by have := Nat.mod_lt y hc0; omega
  have h3 : y % c * d ≤ (c - 1) * d := Nat.mul_le_mul_right _ hy
  rw [Nat.sub_mul, Nat.one_mul, hd] at h3
  have h4 : d ≤ 65536 := by rw [← hd]; exact Nat.le_mul_of_pos_left d hc0
  generalize y % c * d = z at *
  exact Nat.mod_eq_of_lt (by omega)

/-! Numbers modulo the prime. -/
def P255 : Nat := 57896044618658097711785492504343953926634992332820282019728792003956564819968
theorem P255_eq : P255 = 57896044618658097711785492504343953926634992332820282019728792003956564819968 := rfl
theorem P255_split : P255 = 65536 ^ 15 * 32768 := rfl
theorem P255_pp : P255 = pp + 19 := by rw [pp_eq]; rfl
theorem P255_16 : P255 * 2 = 65536 ^ 16 := rfl
attribute [irreducible] P255
theorem mod_step (m : Nat) : (m % P255 + m / P255 * 19) % pp = m % pp := by
  have e := Nat.mod_add_div m P255
  have e2 : P255 * (m / P255) = pp * (m / P255) + 19 * (m / P255) := by
    generalize m / P255 = q
    rw [P255_pp, Nat.add_mul]
  have : m = (m % P255 + m / P255 * 19) + pp * (m / P255) := by omega
  conv => rhs; rw [this]
  rw [Nat.add_mul_mod_self_left]
theorem mod_less (m : Nat) (h : P255 ≤ m) : m % P255 + m / P255 * 19 < m := by
  have h0 : 0 < P255 := by rw [P255_pp]; omega
  have e := Nat.mod_add_div m P255
  have h1 : 1 ≤ m / P255 := (Nat.le_div_iff_mul_le h0).2 (by rw [Nat.one_mul]; exact h)
  have h2 : 19 < P255 := by rw [P255_pp]; have := pp_pos; omega
  have := Nat.mul_lt_mul_of_pos_right h2 h1
  rw [Nat.mul_comm (m / P255)]
  omega
theorem mod_low (m : Nat) (h16 : 16 ≤ (dg m).length) : vl (((dg m).take 16).set 15 ((dg m).getD 15 0 % 32768)) = m % P255 := by
  have hd := dg_dg m
  have hl : ((dg m).take 16).length = 16 := by rw [List.length_take]; omega
  have h := vl_set_take ((dg m).take 16) 15 ((dg m).getD 15 0 % 32768) (by omega)
  rw [List.take_of_length_le (by rw [List.length_set]; omega), List.take_take, show min 15 16 = 15 from rfl] at h
  rw [h, ← vl_mod (dg m) 15 hd, vl_dg, dg_get, P255_split, Nat.mod_mul]
  congr 1
  rw [Nat.mod_mod_of_dvd _ (by decide)]
theorem mod_high (m n : Nat) (hn : (dg m).length ≤ n + 15) : m / P255 < 65536 ^ n := by
  have h := (dg_len m (n + 15)).1 hn
  rw [P255_split, ← Nat.div_div_eq_div_mul]
  refine Nat.lt_of_le_of_lt (Nat.div_le_self _ _) (Nat.div_lt_of_lt_mul ?_)
  rw [← Nat.pow_add, Nat.add_comm]; exact h
theorem mod_digit (m j : Nat) : (m / P255) / 65536 ^ j % 65536 = (dg m).getD (15 + j) 0 / 32768 + (dg m).getD (15 + j + 1) 0 % 32768 * 2 := by
  have := shift_digit (dg m) (dg_dg m) 15 j 15 32768 2 rfl rfl
  rw [vl_dg, ← P255_split] at this
  exact this
theorem mod_big_len {m : Nat} (h : 16 < (dg m).length) : P255 ≤ m := by
  rcases Nat.lt_or_ge m P255 with h1 | h1
  · have h2 : m < 65536 ^ 16 := by have := P255_16; omega
    have := dg_len' h2
    omega
  · exact h1
theorem mod_big_top {m : Nat} (h : 32767 < (dg m).getD 15 0) : P255 ≤ m := by
  rw [dg_get] at h
  have h1 : 32768 ≤ m / 65536 ^ 15 := by
    have := Nat.mod_le (m / 65536 ^ 15) 65536
    omega
  rw [Nat.le_div_iff_mul_le (Nat.pow_pos (by decide))] at h1
  rw [P255_split, Nat.mul_comm]; exact h1
theorem mod_small {m : Nat} (h : (dg m).length ≤ 16) (h2 : (dg m).getD 15 0 ≤ 32767) : m < P255 := by
  have h1 := (dg_len m 16).1 h
  rw [dg_get, Nat.mod_eq_of_lt (Nat.div_lt_of_lt_mul (by rw [← Nat.pow_succ]; exact h1))] at h2
  rw [P255_split]
  have : m / 65536 ^ 15 < 32768 := by omega
  rw [Nat.div_lt_iff_lt_mul (Nat.pow_pos (by decide))] at this
  rw [Nat.mul_comm]; exact this
theorem mod_small_len {m : Nat} (h : (dg m).length < 16) : m < pp := by
  have h1 := (dg_len m 15).1 (by omega)
  have : P255 = 65536 ^ 15 * 32768 := P255_split
  have := P255_pp
  have : 65536 ^ 15 * 32768 ≥ 65536 ^ 15 + 19 := by decide
  omega
theorem mod_small_top {m : Nat} (h : (dg m).length ≤ 16) (h2 : (dg m).getD 15 0 < 32767) : m < pp := by
  have h1 := (dg_len m 16).1 h
  rw [dg_get, Nat.mod_eq_of_lt (Nat.div_lt_of_lt_mul (by rw [← Nat.pow_succ]; exact h1))] at h2
  rw [Nat.div_lt_iff_lt_mul (Nat.pow_pos (by decide))] at h2
  have : P255 = 65536 ^ 15 * 32768 := P255_split
  have := P255_pp
  have : 65536 ^ 15 * 32768 ≥ 32767 * 65536 ^ 15 + 19 := by decide
  omega
theorem mod_of_lt {m : Nat} (h : m < pp) : m % pp = m := Nat.mod_eq_of_lt h
theorem mod_of_ge {m : Nat} (h : ¬ m < pp) (k : m < P255) : m % pp = m - pp := by
  have := P255_pp
  have h19 : 19 < pp := by rw [pp_eq]; decide
  rw [Nat.mod_eq_sub_mod (by omega), Nat.mod_eq_of_lt (by omega)]
/-- The prime's digits. -/
def ppl : List Nat := [65517, 65535, 65535, 65535, 65535, 65535, 65535, 65535, 65535, 65535, 65535, 65535, 65535, 65535, 65535, 32767]
theorem ppl_vl : vl ppl = pp := by rw [pp_eq]; decide +kernel
theorem ppl_dg : Dg ppl := by unfold Dg ppl; decide
theorem ppl_tr : Tr ppl := by unfold Tr ppl; decide
theorem dg_pp : dg pp = ppl := by rw [← ppl_vl]; exact dg_vl ppl ppl_dg ppl_tr

/-! Limbs. -/
theorem of_step (out x : Nat) : out * 2251799813685248 + x = out * 2251799813685248 + x := rfl
theorem vl_51 : vl [0, 0, 0, 8] = 2251799813685248 := by decide
theorem E5.val_horner (x : E5) : (((x.e * 2251799813685248 + x.d) * 2251799813685248 + x.c) * 2251799813685248 + x.b) * 2251799813685248 + x.a = x.val := by
  unfold E5.val; omega
/-- A limb, of so many binary digits of a number. -/
def lb (N k j : Nat) : Nat := N / 2 ^ (51 * j) % 2 ^ min 51 (k - 51 * j)
def lbs (N k : Nat) : List Nat := [lb N k 0, lb N k 1, lb N k 2, lb N k 3, lb N k 4]
theorem lb_zero (N j : Nat) : lb N 0 j = 0 := by unfold lb; simp [Nat.mod_one]
theorem lb_full (N k j : Nat) (h : 51 * j + 51 ≤ k) : lb N k j = N / 2 ^ (51 * j) % 2251799813685248 := by
  unfold lb; rw [Nat.min_eq_left (by omega)]
theorem lb_step (N k j r : Nat) (hk : k = 51 * j + r) (hr : r < 51) : lb N (k + 1) j = lb N k j + N / 2 ^ k % 2 * 2 ^ r ∧ lb N k j < 2 ^ r := by
  unfold lb
  rw [show k + 1 - 51 * j = r + 1 by omega, show k - 51 * j = r by omega, Nat.min_eq_right (by omega), Nat.min_eq_right (by omega), Nat.pow_succ, Nat.mod_mul, Nat.div_div_eq_div_mul, ← Nat.pow_add, ← hk, Nat.mul_comm (2 ^ r)]
  exact ⟨rfl, Nat.mod_lt _ (Nat.pow_pos (by decide))⟩
theorem lb_other (N k j q r : Nat) (hk : k = 51 * q + r) (hr : r < 51) (hj : j ≠ q) : lb N (k + 1) j = lb N k j := by
  unfold lb
  congr 2
  omega
theorem lbs_len (N k : Nat) : (lbs N k).length = 5 := rfl
theorem lbs_get (N k j : Nat) (hj : j < 5) : (lbs N k)[j]? = some (lb N k j) := by
  match j, hj with
  | 0, _ => rfl
  | 1, _ => rfl
  | 2, _ => rfl
  | 3, _ => rfl
  | 4, _ => rfl
theorem lbs_set (N k q r x : Nat) (hk : k = 51 * q + r) (hr : r < 51) (hq : q < 5) (hx : x = lb N (k + 1) q) : (lbs N k).set q x = lbs N (k + 1) := by
  apply List.ext_getElem?
  intro j
  rw [List.getElem?_set, lbs_len]
  by_cases hj : j < 5
  · rw [lbs_get _ _ _ hj, lbs_get _ _ _ hj]
    by_cases e : q = j
    · subst e; rw [if_pos rfl, if_pos hq, hx]
    · rw [if_neg e, lb_other N k j q r hk hr (fun h => e h.symm)]
  · have e1 : (lbs N k)[j]? = none := List.getElem?_eq_none (by rw [lbs_len]; omega)
    have e2 : (lbs N (k + 1))[j]? = none := List.getElem?_eq_none (by rw [lbs_len]; omega)
    rw [e1, e2, if_neg (by omega)]
theorem lbs_all (N : Nat) (h : N < P255) : lbs N 255 = [(el N).a, (el N).b, (el N).c, (el N).d, (el N).e] := by
  have hb : N < 57896044618658097711785492504343953926634992332820282019728792003956564819968 := by rw [← P255_eq]; exact h
  unfold lbs
  rw [lb_full N 255 0 (by omega), lb_full N 255 1 (by omega), lb_full N 255 2 (by omega), lb_full N 255 3 (by omega), lb_full N 255 4 (by omega)]
  show [N / 1 % 2251799813685248, N / 2251799813685248 % 2251799813685248, N / 5070602400912917605986812821504 % 2251799813685248, N / 11417981541647679048466287755595961091061972992 % 2251799813685248, N / 25711008708143844408671393477458601640355247900524685364822016 % 2251799813685248] = _
  rw [Nat.div_one, Nat.mod_eq_of_lt (a := N / 25711008708143844408671393477458601640355247900524685364822016) (by omega)]
  rfl
theorem byte_bit (N i : Nat) : N / 256 ^ (i / 8) % 256 / 2 ^ (i % 8) % 2 = N / 2 ^ i % 2 := by
  have e : (256 : Nat) ^ (i / 8) = 2 ^ (8 * (i / 8)) := by rw [show (256 : Nat) = 2 ^ 8 from rfl, ← Nat.pow_mul]
  rw [e]
  conv => rhs; rw [show i = 8 * (i / 8) + i % 8 by omega, Nat.pow_add, ← Nat.div_div_eq_div_mul]
  generalize N / 2 ^ (8 * (i / 8)) = q
  have h8 : i % 8 < 8 := Nat.mod_lt _ (by decide)
  generalize i % 8 = r at *
  match r, h8 with
  | 0, _ => simp only [Nat.reducePow]; omega
  | 1, _ => simp only [Nat.reducePow]; omega
  | 2, _ => simp only [Nat.reducePow]; omega
  | 3, _ => simp only [Nat.reducePow]; omega
  | 4, _ => simp only [Nat.reducePow]; omega
  | 5, _ => simp only [Nat.reducePow]; omega
  | 6, _ => simp only [Nat.reducePow]; omega
  | 7, _ => simp only [Nat.reducePow]; omega

/-! Column sums. -/
def Mx (l : List Nat) (b : Nat) : Prop := ∀ x ∈ l, x ≤ b
theorem Mx.get {l : List Nat} {b : Nat} (h : Mx l b) (p : Nat) : l.getD p 0 ≤ b := by
  rw [List.getD_eq_getElem?_getD]
  cases hk : l[p]? with
  | none => simp
  | some x => exact h x (List.mem_of_getElem? hk)
theorem Mx.set {l : List Nat} {b : Nat} (h : Mx l b) (p y : Nat) (hy : y ≤ b) : Mx (l.set p y) b := by
  intro x hx
  rcases List.mem_or_eq_of_mem_set hx with h1 | h1
  · exact h x h1
  · subst h1; exact hy
theorem Mx.le {l : List Nat} {b c : Nat} (h : Mx l b) (hc : b ≤ c) : Mx l c := fun x hx => Nat.le_trans (h x hx) hc
theorem col_in (o : List Nat) (i k a b V : Nat) (lb_ : List Nat) (hp : i + k < o.length) (hb : b = lb_.getD k 0) (hv : vl o = V + 65536 ^ i * (a * vl (lb_.take k))) :
    vl (o.set (i + k) (o.getD (i + k) 0 + a * b)) = V + 65536 ^ i * (a * vl (lb_.take (k + 1))) := by
  have h := vl_set o (i + k) (o.getD (i + k) 0 + a * b) hp
  rw [vl_take_succ, ← hb, Nat.mul_add, Nat.mul_add, ← Nat.add_assoc, ← hv]
  rw [Nat.mul_add, ← Nat.add_assoc] at h
  have e : 65536 ^ (i + k) * (a * b) = 65536 ^ i * (a * (65536 ^ k * b)) := by rw [Nat.pow_add, Nat.mul_assoc, Nat.mul_left_comm a]
  omega
theorem col_row (la lb_ : List Nat) (o : List Nat) (i : Nat) (hv : vl o = vl (la.take i) * vl lb_ + 65536 ^ i * (la.getD i 0 * vl lb_)) : vl o = vl (la.take (i + 1)) * vl lb_ := by
  rw [hv, vl_take_succ, Nat.add_mul, Nat.mul_assoc]
/-- The folded columns up to a place. -/
def fld (o : List Nat) (k : Nat) : List Nat := (List.range 16).map fun j => if j < k then o.getD j 0 + 38 * o.getD (j + 16) 0 else 0
theorem fld_len (o : List Nat) (k : Nat) : (fld o k).length = 16 := by simp [fld]
theorem fld_get? (o : List Nat) (k j : Nat) (hj : j < 16) : (fld o k)[j]? = some (if j < k then o.getD j 0 + 38 * o.getD (j + 16) 0 else 0) := by simp [fld, hj]
theorem fld_zero (o : List Nat) : fld o 0 = List.replicate 16 0 := by
  apply List.ext_getElem?
  intro i
  simp only [fld, List.getElem?_map, List.getElem?_replicate]
  by_cases h : i < 16 <;> simp [h]
theorem fld_set (o : List Nat) (k x : Nat) (hx : x = o.getD k 0 + 38 * o.getD (k + 16) 0) : (fld o k).set k x = fld o (k + 1) := by
  apply List.ext_getElem?
  intro j
  rw [List.getElem?_set, fld_len]
  by_cases hj : j < 16
  · rw [fld_get? _ _ _ hj, fld_get? _ _ _ hj]
    by_cases e : k = j
    · subst e; rw [if_pos rfl, if_pos hj, if_pos (Nat.lt_succ_self _), hx]
    · rw [if_neg e]
      by_cases h1 : j < k
      · rw [if_pos h1, if_pos (by omega)]
      · rw [if_neg h1, if_neg (by omega)]
  · have e1 : (fld o k)[j]? = none := List.getElem?_eq_none (by rw [fld_len]; omega)
    have e2 : (fld o (k + 1))[j]? = none := List.getElem?_eq_none (by rw [fld_len]; omega)
    rw [e1, e2]
    split
    · rw [if_neg (by omega)]
    · rfl
theorem fld_mx (o : List Nat) (b k : Nat) (h : Mx o b) : Mx (fld o k) (39 * b) := by
  intro x hx
  simp only [fld, List.mem_map] at hx
  obtain ⟨j, -, rfl⟩ := hx
  have h1 := h.get j
  have h2 := h.get (j + 16)
  split <;> omega
theorem vl_fld (o : List Nat) (h : o.length = 32) : vl (fld o 16) = vl (o.take 16) + 38 * vl (o.drop 16) := by
  have key : ∀ (n : Nat) (a b : List Nat), a.length = n → b.length = n → vl ((List.range n).map fun j => a.getD j 0 + 38 * b.getD j 0) = vl a + 38 * vl b := by
    intro n
    induction n with
    | zero =>
      intro a b ha hb
      rw [List.length_eq_zero_iff] at ha hb
      subst ha hb; rfl
    | succ n ih =>
      intro a b ha hb
      match a, b, ha, hb with
      | x :: a, y :: b, ha, hb =>
        rw [List.range_succ_eq_map, List.map_cons, List.map_map, vl_cons, vl_cons, vl_cons]
        have := ih a b (by simpa using ha) (by simpa using hb)
        have e : ((fun j => (x :: a).getD j 0 + 38 * (y :: b).getD j 0) ∘ Nat.succ) = fun j => a.getD j 0 + 38 * b.getD j 0 := by
          funext j
          simp
        rw [e, this]
        simp only [List.getD_cons_zero]
        omega
  rw [← key 16 (o.take 16) (o.drop 16) (by rw [List.length_take, h]; rfl) (by rw [List.length_drop, h])]
  unfold fld
  congr 1
  apply List.map_congr_left
  intro j hj
  have hj' := List.mem_range.1 hj
  rw [if_pos hj']
  congr 1
  · simp only [List.getD_eq_getElem?_getD]; rw [List.getElem?_take_of_lt hj']
  · simp only [List.getD_eq_getElem?_getD]; rw [List.getElem?_drop, Nat.add_comm]
theorem fold_38 (a b : Nat) : (a + 38 * b) % pp = (a + 65536 ^ 16 * b) % pp := by
  have : 65536 ^ 16 = 38 + pp * 2 := by rw [pp_eq]
  rw [this, Nat.add_mul, ← Nat.add_assoc, Nat.mul_assoc, Nat.add_mul_mod_self_left]
theorem fld_cg (o : List Nat) (h : o.length = 32) : vl (fld o 16) % pp = vl o % pp := by
  rw [vl_fld o h, fold_38, ← vl_split o 16]
/-- A pass of carries over the folded columns. -/
theorem pass_step (t : List Nat) (i c x V : Nat) (hi : i < t.length) (hx : x = t.getD i 0 + c) (hv : vl t + 65536 ^ i * c = V) : vl (t.set i (x % 65536)) + 65536 ^ (i + 1) * (x / 65536) = V := by
  have := times_step t i c x 0 0 V hi (by omega) hv
  rw [this]; omega
theorem pass_end (t : List Nat) (c V : Nat) (ht : t.length = 16) (hv : vl t + 65536 ^ 16 * c = V) : vl (t.set 0 (t.getD 0 0 + 38 * c)) % pp = V % pp ∧ (0 < c → vl (t.set 0 (t.getD 0 0 + 38 * c)) < V) := by
  have h := vl_set t 0 (t.getD 0 0 + 38 * c) (by omega)
  rw [Nat.pow_zero, Nat.one_mul, Nat.one_mul] at h
  have e : vl (t.set 0 (t.getD 0 0 + 38 * c)) = vl t + 38 * c := by omega
  refine ⟨by rw [e, fold_38, hv], fun hc => ?_⟩
  rw [e, ← hv]
  have : 38 * c < 65536 ^ 16 * c := Nat.mul_lt_mul_of_pos_right (by decide) hc
  omega
end Go.Proofs.YteechlkccmcpfaaDoor.Fd
