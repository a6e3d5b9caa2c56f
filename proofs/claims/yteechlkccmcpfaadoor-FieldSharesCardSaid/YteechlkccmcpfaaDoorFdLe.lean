/-
  Bytes as numbers, the least one first, and their words.
-/
import Derived.Test.YteechlkccmcpfaaDoorFdMath
namespace Go.Proofs.YteechlkccmcpfaaDoor.Fd
set_option linter.unusedVariables false

def le (l : List Nat) : Nat := l.foldr (fun x a => x + 256 * a) 0
theorem le_nil : le [] = 0 := rfl
theorem le_cons (x : Nat) (l : List Nat) : le (x :: l) = x + 256 * le l := rfl
theorem le_append (a b : List Nat) : le (a ++ b) = le a + 256 ^ a.length * le b := by
  induction a with
  | nil => simp [le_nil]
  | cons x a ih => rw [List.cons_append, le_cons, ih, le_cons, List.length_cons, Nat.pow_succ', Nat.mul_add, ← Nat.add_assoc, ← Nat.mul_assoc]
theorem le_lt (l : List Nat) (h : ∀ x ∈ l, x < 256) : le l < 256 ^ l.length := by
  induction l with
  | nil => decide
  | cons x l ih =>
    have h1 := h x List.mem_cons_self
    have h2 := ih fun y hy => h y (List.mem_cons_of_mem _ hy)
    rw [le_cons, List.length_cons, Nat.pow_succ]; omega
theorem le_lt' (l : List Nat) (n : Nat) (h : ∀ x ∈ l, x < 256) (hl : l.length ≤ n) : le l < 256 ^ n := Nat.lt_of_lt_of_le (le_lt l h) (Nat.pow_le_pow_right (by decide) hl)
theorem le_split (l : List Nat) (k : Nat) : le l = le (l.take k) + 256 ^ k * le (l.drop k) := by
  conv => lhs; rw [← List.take_append_drop k l, le_append]
  rcases Nat.lt_or_ge l.length k with h | h
  · rw [List.drop_of_length_le (by omega)]; simp [le_nil]
  · rw [List.length_take, Nat.min_eq_left h]
/-- The word at a place. -/
def wo (l : List Nat) (j : Nat) : Nat := le ((l.drop (8 * j)).take 8)
def wl (l : List Nat) (n : Nat) : List Nat := (List.range n).map (wo l)
theorem wo_lt (l : List Nat) (j : Nat) (h : ∀ x ∈ l, x < 256) : wo l j < 18446744073709551616 :=
  le_lt' _ 8 (fun x hx => h x (List.mem_of_mem_drop (List.mem_of_mem_take hx))) (by rw [List.length_take]; omega)
theorem wl_get (l : List Nat) (n j : Nat) (hj : j < n) : (wl l n).getD j 0 = wo l j := by
  simp [wl, hj]
theorem wl_get? (l : List Nat) (n j : Nat) (hj : j < n) : (wl l n)[j]? = some (wo l j) := by
  simp [wl, hj]
theorem wo_step (l : List Nat) (k x j : Nat) (h : l[k]? = some x) : wo (l.take (k + 1)) j = if j = k / 8 then wo (l.take k) j + x * 256 ^ (k % 8) else wo (l.take k) j := by
  have hk : k < l.length := (List.getElem?_eq_some_iff.1 h).1
  have e : l.take (k + 1) = l.take k ++ [x] := by rw [List.take_add_one, h]; rfl
  have hl : (l.take k).length = k := by rw [List.length_take]; omega
  unfold wo
  rw [e]
  by_cases h1 : j = k / 8
  · rw [if_pos h1, List.drop_append_of_le_length (by omega)]
    have hlen : ((l.take k).drop (8 * j)).length = k % 8 := by rw [List.length_drop, hl]; omega
    generalize (l.take k).drop (8 * j) = A at *
    have h8 : k % 8 < 8 := Nat.mod_lt _ (by decide)
    rw [List.take_of_length_le (l := A ++ [x]) (by rw [List.length_append, hlen]; simp; omega), List.take_of_length_le (l := A) (by omega), le_append, hlen]
    simp [le_cons, le_nil, Nat.mul_comm]
  · rw [if_neg h1]
    rcases Nat.lt_or_ge j (k / 8) with h2 | h2
    · rw [List.drop_append_of_le_length (by omega), List.take_append_of_le_length (by rw [List.length_drop, hl]; omega)]
    · rw [List.drop_of_length_le (by rw [List.length_append, hl]; simp; omega), List.drop_of_length_le (by omega)]
theorem wl_step (l : List Nat) (n k x : Nat) (h : l[k]? = some x) (hn : k / 8 < n) : (wl (l.take k) n).set (k / 8) (wo (l.take k) (k / 8) + x * 256 ^ (k % 8)) = wl (l.take (k + 1)) n := by
  apply List.ext_getElem?
  intro j
  rw [List.getElem?_set]
  by_cases hj : j < n
  · rw [wl_get? _ _ _ hj, wl_get? _ _ _ hj, wo_step l k x j h]
    have : (wl (l.take k) n).length = n := by simp [wl]
    by_cases h1 : k / 8 = j
    · rw [if_pos h1, if_pos (by omega), if_pos h1.symm, h1]
    · rw [if_neg h1, if_neg (fun h => h1 h.symm)]
  · have e1 : (wl (l.take k) n)[j]? = none := List.getElem?_eq_none (by simp [wl]; omega)
    have e2 : (wl (l.take (k + 1)) n)[j]? = none := List.getElem?_eq_none (by simp [wl]; omega)
    have : (wl (l.take k) n).length = n := by simp [wl]
    rw [e1, e2, if_neg (by omega)]
theorem wo_small (l : List Nat) (k : Nat) (h : ∀ x ∈ l, x < 256) : wo (l.take k) (k / 8) < 256 ^ (k % 8) := by
  refine le_lt' _ _ (fun x hx => h x (List.mem_of_mem_take (List.mem_of_mem_drop (List.mem_of_mem_take hx)))) ?_
  rw [List.length_take, List.length_drop, List.length_take]; omega
theorem wl_nil (l : List Nat) : wl (l.take 0) 8 = [0, 0, 0, 0, 0, 0, 0, 0] := rfl
theorem le_words4 (l : List Nat) (h : l.length ≤ 32) : le l = wo l 0 + 18446744073709551616 * wo l 1 + 340282366920938463463374607431768211456 * wo l 2 + 6277101735386680763835789423207666416102355444464034512896 * wo l 3 := by
  have e0 := le_split l 8
  have e1 := le_split (l.drop 8) 8
  have e2 := le_split (l.drop 16) 8
  have e3 := le_split (l.drop 24) 8
  rw [show (l.drop 8).drop 8 = l.drop 16 by rw [List.drop_drop]] at e1
  rw [show (l.drop 16).drop 8 = l.drop 24 by rw [List.drop_drop]] at e2
  rw [show (l.drop 24).drop 8 = [] by rw [List.drop_drop, List.drop_of_length_le (by omega)]] at e3
  have z : le [] = 0 := rfl
  have w0 : wo l 0 = le (l.take 8) := rfl
  have w1 : wo l 1 = le ((l.drop 8).take 8) := rfl
  have w2 : wo l 2 = le ((l.drop 16).take 8) := rfl
  have w3 : wo l 3 = le ((l.drop 24).take 8) := rfl
  omega
/-- A number's bytes. -/
def by_ (n : Nat) (k : Nat) : List Nat := (List.range k).map fun i => n / 256 ^ i % 256
theorem by_lt (n k : Nat) : ∀ x ∈ by_ n k, x < 256 := by
  intro x hx
  simp only [by_, List.mem_map] at hx
  obtain ⟨i, -, rfl⟩ := hx
  exact Nat.mod_lt _ (by decide)
theorem by_length (n k : Nat) : (by_ n k).length = k := by simp [by_]
theorem by_succ (n k : Nat) : by_ n (k + 1) = (n % 256) :: by_ (n / 256) k := by
  unfold by_
  rw [List.range_succ_eq_map, List.map_cons, List.map_map]
  congr 1
  · rw [Nat.pow_zero, Nat.div_one]
  · apply List.map_congr_left
    intro i _
    show n / 256 ^ (i + 1) % 256 = n / 256 / 256 ^ i % 256
    rw [Nat.div_div_eq_div_mul, Nat.pow_succ, Nat.mul_comm (256 ^ i)]
theorem le_by : ∀ (k n : Nat), le (by_ n k) = n % 256 ^ k := by
  intro k
  induction k with
  | zero => intro n; simp [by_, le_nil, Nat.mod_one]
  | succ k ih =>
    intro n
    rw [by_succ, le_cons, ih, Nat.pow_succ, Nat.mul_comm (256 ^ k), Nat.mod_mul]
theorem by_le : ∀ (l : List Nat), (∀ x ∈ l, x < 256) → by_ (le l) l.length = l := by
  intro l
  induction l with
  | nil => intro _; rfl
  | cons x l ih =>
    intro h
    have hx := h x List.mem_cons_self
    rw [List.length_cons, by_succ, le_cons, show (x + 256 * le l) % 256 = x by omega, show (x + 256 * le l) / 256 = le l by omega, ih fun y hy => h y (List.mem_cons_of_mem _ hy)]
theorem le_inj {l k : List Nat} (hl : ∀ x ∈ l, x < 256) (hk : ∀ x ∈ k, x < 256) (e : l.length = k.length) (h : le l = le k) : l = k := by
  rw [← by_le l hl, ← by_le k hk, h, e]
/-- A word's byte. -/
def wb (w : List Nat) (i : Nat) : Nat := w.getD (i / 8) 0 / 256 ^ (i % 8) % 256
def words4 (n : Nat) : List Nat := [n % 18446744073709551616, n / 18446744073709551616 % 18446744073709551616, n / 340282366920938463463374607431768211456 % 18446744073709551616, n / 6277101735386680763835789423207666416102355444464034512896 % 18446744073709551616]
set_option maxRecDepth 10000 in
theorem wb_words (n : Nat) : (List.range 32).map (wb (words4 n)) = by_ n 32 := by
  unfold by_
  apply List.map_congr_left
  intro i hi
  have hi' : i < 32 := List.mem_range.1 hi
  have e : ∀ a m, m < 8 → (a % 18446744073709551616) / 256 ^ m % 256 = a / 256 ^ m % 256 := by
    intro a m hm
    match m, hm with
    | 0, _ => simp only [Nat.reducePow]; omega
    | 1, _ => simp only [Nat.reducePow]; omega
    | 2, _ => simp only [Nat.reducePow]; omega
    | 3, _ => simp only [Nat.reducePow]; omega
    | 4, _ => simp only [Nat.reducePow]; omega
    | 5, _ => simp only [Nat.reducePow]; omega
    | 6, _ => simp only [Nat.reducePow]; omega
    | 7, _ => simp only [Nat.reducePow]; omega
  have d : ∀ q, q < 4 → (words4 n).getD q 0 = n / 256 ^ (8 * q) % 18446744073709551616 := by
    intro q hq
    match q, hq with
    | 0, _ => show n % _ = _; simp
    | 1, _ => rfl
    | 2, _ => rfl
    | 3, _ => rfl
  unfold wb
  rw [d _ (by omega), e _ _ (by omega), Nat.div_div_eq_div_mul, ← Nat.pow_add, show 8 * (i / 8) + i % 8 = i by omega]
end Go.Proofs.YteechlkccmcpfaaDoor.Fd
