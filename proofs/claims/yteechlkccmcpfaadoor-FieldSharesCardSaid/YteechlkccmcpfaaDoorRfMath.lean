/-
  Numbers as rows of digits of 65536, the least one first: plain numbers, no program.
-/
import Derived.Test.YteechlkccmcpfaaDoorFdLe
namespace Go.Proofs.YteechlkccmcpfaaDoor.Fd
set_option linter.unusedVariables false

def vl (l : List Nat) : Nat := l.foldr (fun x a => x + 65536 * a) 0
theorem vl_nil : vl [] = 0 := rfl
theorem vl_cons (x : Nat) (l : List Nat) : vl (x :: l) = x + 65536 * vl l := rfl
theorem vl_append (a b : List Nat) : vl (a ++ b) = vl a + 65536 ^ a.length * vl b := by
  induction a with
  | nil => simp [vl_nil]
  | cons x a ih => rw [List.cons_append, vl_cons, ih, vl_cons, List.length_cons, Nat.pow_succ', Nat.mul_add, ← Nat.add_assoc, ← Nat.mul_assoc]
/-- Each is a digit. -/
def Dg (l : List Nat) : Prop := ∀ x ∈ l, x < 65536
theorem Dg.nil : Dg [] := by intro x h; cases h
theorem Dg.cons {x : Nat} {l : List Nat} (h : x < 65536) (k : Dg l) : Dg (x :: l) := by
  intro y hy
  rcases List.mem_cons.1 hy with rfl | hy
  · exact h
  · exact k y hy
theorem Dg.append {a b : List Nat} (h : Dg a) (k : Dg b) : Dg (a ++ b) := by
  intro y hy
  rcases List.mem_append.1 hy with hy | hy
  · exact h y hy
  · exact k y hy
theorem Dg.take {a : List Nat} (h : Dg a) (k : Nat) : Dg (a.take k) := fun x hx => h x (List.mem_of_mem_take hx)
theorem Dg.drop {a : List Nat} (h : Dg a) (k : Nat) : Dg (a.drop k) := fun x hx => h x (List.mem_of_mem_drop hx)
theorem Dg.get {a : List Nat} (h : Dg a) (k : Nat) : a.getD k 0 < 65536 := by
  rw [List.getD_eq_getElem?_getD]
  cases hk : a[k]? with
  | none => simp
  | some x => exact h x (List.mem_of_getElem? hk)
theorem vl_lt (l : List Nat) (h : Dg l) : vl l < 65536 ^ l.length := by
  induction l with
  | nil => decide
  | cons x l ih =>
    have h1 := h x List.mem_cons_self
    have h2 := ih fun y hy => h y (List.mem_cons_of_mem _ hy)
    rw [vl_cons, List.length_cons, Nat.pow_succ]; omega
theorem vl_split (l : List Nat) (k : Nat) : vl l = vl (l.take k) + 65536 ^ k * vl (l.drop k) := by
  conv => lhs; rw [← List.take_append_drop k l, vl_append]
  rcases Nat.lt_or_ge l.length k with h | h
  · rw [List.drop_of_length_le (by omega)]; simp [vl_nil]
  · rw [List.length_take, Nat.min_eq_left h]
theorem vl_take_succ (l : List Nat) (k : Nat) : vl (l.take (k + 1)) = vl (l.take k) + 65536 ^ k * l.getD k 0 := by
  rw [List.take_add_one]
  cases hk : l[k]? with
  | none => simp [List.getD_eq_getElem?_getD, hk]
  | some x =>
    have : k < l.length := (List.getElem?_eq_some_iff.1 hk).1
    rw [vl_append, List.length_take, Nat.min_eq_left (by omega), List.getD_eq_getElem?_getD, hk]
    simp [vl_cons, vl_nil]
theorem vl_replicate (n : Nat) : vl (List.replicate n 0) = 0 := by
  induction n with
  | zero => rfl
  | succ n ih => rw [List.replicate_succ, vl_cons, ih]
theorem Dg.replicate (n : Nat) : Dg (List.replicate n 0) := by
  intro x hx; rw [List.eq_of_mem_replicate hx]; decide
theorem vl_mod (l : List Nat) (k : Nat) (h : Dg l) : vl l % 65536 ^ k = vl (l.take k) := by
  rw [vl_split l k, Nat.add_mul_mod_self_left]
  refine Nat.mod_eq_of_lt (Nat.lt_of_lt_of_le (vl_lt _ (h.take k)) (Nat.pow_le_pow_right (by decide) ?_))
  rw [List.length_take]; omega
theorem vl_div (l : List Nat) (k : Nat) (h : Dg l) : vl l / 65536 ^ k = vl (l.drop k) := by
  have h1 : vl (l.take k) < 65536 ^ k := Nat.lt_of_lt_of_le (vl_lt _ (h.take k)) (Nat.pow_le_pow_right (by decide) (by rw [List.length_take]; omega))
  rw [vl_split l k, Nat.add_mul_div_left _ _ (Nat.pow_pos (by decide)), Nat.div_eq_of_lt h1, Nat.zero_add]
theorem vl_get (l : List Nat) (k : Nat) (h : Dg l) : vl l / 65536 ^ k % 65536 = l.getD k 0 := by
  rw [vl_div l k h, List.getD_eq_getElem?_getD]
  cases hk : l[k]? with
  | none => rw [List.drop_of_length_le (by exact List.getElem?_eq_none_iff.1 hk)]; rfl
  | some x =>
    obtain ⟨hlt, he⟩ := List.getElem?_eq_some_iff.1 hk
    rw [List.drop_eq_getElem_cons hlt, he, vl_cons]
    have := h x (List.mem_of_getElem? hk)
    simp; omega
/-- A number's digits, none behind the last one that is not 0. -/
def dg (n : Nat) : List Nat := if h : n = 0 then [] else n % 65536 :: dg (n / 65536)
termination_by n
decreasing_by exact Nat.div_lt_self (by omega) (by decide)
theorem dg_zero : dg 0 = [] := by rw [dg]; rfl
theorem dg_pos {n : Nat} (h : n ≠ 0) : dg n = n % 65536 :: dg (n / 65536) := by rw [dg, dif_neg h]
theorem dg_ind {P : Nat → Prop} (h0 : P 0) (h1 : ∀ n, n ≠ 0 → P (n / 65536) → P n) (n : Nat) : P n := by
  induction n using Nat.strongRecOn with
  | _ n ih =>
    by_cases h : n = 0
    · rw [h]; exact h0
    · exact h1 n h (ih _ (Nat.div_lt_self (by omega) (by decide)))
theorem dg_dg (n : Nat) : Dg (dg n) := by
  refine dg_ind (P := fun n => Dg (dg n)) (by rw [dg_zero]; exact .nil) (fun n h ih => ?_) n
  rw [dg_pos h]; exact .cons (Nat.mod_lt _ (by decide)) ih
theorem vl_dg (n : Nat) : vl (dg n) = n := by
  refine dg_ind (P := fun n => vl (dg n) = n) (by rw [dg_zero]; rfl) (fun n h ih => ?_) n
  rw [dg_pos h, vl_cons, ih]; omega
/-- A row without noughts at its end. -/
def Tr (l : List Nat) : Prop := l.getLast? ≠ some 0
theorem dg_vl (l : List Nat) (h : Dg l) (ht : Tr l) : dg (vl l) = l := by
  induction l with
  | nil => exact dg_zero
  | cons x l ih =>
    have hx := h x List.mem_cons_self
    have hl : Dg l := fun y hy => h y (List.mem_cons_of_mem _ hy)
    cases l with
    | nil =>
      have h0 : x ≠ 0 := by intro e; subst e; exact ht rfl
      rw [vl_cons, vl_nil, Nat.mul_zero, Nat.add_zero, dg_pos h0, Nat.mod_eq_of_lt hx, Nat.div_eq_of_lt hx, dg_zero]
    | cons y l =>
      have ht' : Tr (y :: l) := by unfold Tr at *; rwa [List.getLast?_cons_cons] at ht
      have e := ih hl ht'
      have h0 : vl (y :: l) ≠ 0 := by intro h1; rw [h1, dg_zero] at e; cases e
      rw [vl_cons, dg_pos (by omega), show (x + 65536 * vl (y :: l)) % 65536 = x by omega, show (x + 65536 * vl (y :: l)) / 65536 = vl (y :: l) by omega, e]
theorem dg_tr (n : Nat) : Tr (dg n) := by
  refine dg_ind (P := fun n => Tr (dg n)) (by rw [dg_zero]; intro h; cases h) (fun n h ih => ?_) n
  rw [dg_pos h]
  by_cases h1 : n / 65536 = 0
  · rw [h1, dg_zero]
    intro h2
    simp at h2
    omega
  · rw [dg_pos h1] at ih ⊢
    unfold Tr at *
    rwa [List.getLast?_cons_cons]
theorem dg_len (n k : Nat) : (dg n).length ≤ k ↔ n < 65536 ^ k := by
  constructor
  · intro h
    have := vl_lt _ (dg_dg n)
    rw [vl_dg] at this
    exact Nat.lt_of_lt_of_le this (Nat.pow_le_pow_right (by decide) h)
  · revert n
    induction k with
    | zero =>
      intro n h
      obtain rfl : n = 0 := by simpa using h
      rw [dg_zero]; exact Nat.le_refl _
    | succ k ih =>
      intro n h
      by_cases h0 : n = 0
      · subst h0; rw [dg_zero]; exact Nat.zero_le _
      · rw [dg_pos h0, List.length_cons]
        have := ih (n / 65536) (by rw [Nat.pow_succ] at h; exact Nat.div_lt_of_lt_mul (by rw [Nat.mul_comm]; exact h))
        omega
theorem dg_len' {n k : Nat} (h : n < 65536 ^ k) : (dg n).length ≤ k := (dg_len n k).2 h
theorem dg_get (n k : Nat) : (dg n).getD k 0 = n / 65536 ^ k % 65536 := by
  have := vl_get (dg n) k (dg_dg n)
  rw [vl_dg] at this
  exact this.symm
theorem dg_inj {n m : Nat} (h : dg n = dg m) : n = m := by rw [← vl_dg n, h, vl_dg]
theorem dg_nil {n : Nat} : dg n = [] ↔ n = 0 := ⟨fun h => dg_inj (h.trans dg_zero.symm), fun h => by rw [h, dg_zero]⟩
theorem dg_len_zero {n : Nat} : (dg n).length = 0 ↔ n = 0 := by rw [List.length_eq_zero_iff, dg_nil]
/-- What is left when noughts are taken off the end. -/
theorem trim_step (l : List Nat) (k : Nat) (h0 : l.getD k 0 = 0) : vl (l.take (k + 1)) = vl (l.take k) := by
  rw [vl_take_succ, h0, Nat.mul_zero, Nat.add_zero]
theorem trim_end (l : List Nat) (h : Dg l) (k : Nat) (hk : k ≤ l.length) (hv : vl (l.take k) = vl l) (he : k = 0 ∨ l.getD (k - 1) 0 ≠ 0) : l.take k = dg (vl l) := by
  rw [← hv]
  refine (dg_vl _ (h.take k) ?_).symm
  rcases he with rfl | he
  · rw [List.take_zero]; intro h; cases h
  · by_cases h0 : k = 0
    · subst h0; rw [List.take_zero]; intro h; cases h
    · intro hl
      rw [List.getLast?_eq_getElem?, List.length_take, Nat.min_eq_left hk, List.getElem?_take_of_lt (by omega)] at hl
      apply he
      rw [List.getD_eq_getElem?_getD, hl]; rfl
/-- Which of two is the lesser one is told by the highest digits that part. -/
theorem vl_top (l : List Nat) (h : Dg l) (k : Nat) (hk : k < l.length) : vl (l.take (k + 1)) = vl (l.take k) + 65536 ^ k * l.getD k 0 ∧ vl (l.take k) < 65536 ^ k :=
  ⟨vl_take_succ l k, Nat.lt_of_lt_of_le (vl_lt _ (h.take k)) (Nat.pow_le_pow_right (by decide) (by rw [List.length_take]; omega))⟩
theorem vl_pos_len {l k : List Nat} (hl : Dg l) (hk : Dg k) (tk : Tr k) (h : l.length < k.length) : vl l < vl k := by
  have e := dg_vl k hk tk
  have h1 := vl_lt l hl
  refine Nat.lt_of_lt_of_le h1 ?_
  rcases Nat.lt_or_ge (vl k) (65536 ^ l.length) with h2 | h2
  · have := dg_len' h2; rw [e] at this; omega
  · exact h2
/-- The bytes of a row of digits, and the row of bytes. -/
theorem by_vl (l : List Nat) (h : Dg l) (i : Nat) : vl l / 256 ^ i % 256 = if i % 2 = 0 then l.getD (i / 2) 0 % 256 else l.getD (i / 2) 0 / 256 := by
  have e := vl_get l (i / 2) h
  have hp : (65536 : Nat) ^ (i / 2) = 256 ^ (2 * (i / 2)) := by rw [Nat.pow_mul]
  rw [hp] at e
  have hb := h.get (i / 2)
  split
  · rename_i h0
    conv => lhs; rw [show i = 2 * (i / 2) by omega]
    rw [← e]
    generalize vl l / 256 ^ (2 * (i / 2)) = q
    omega
  · rename_i h0
    conv => lhs; rw [show i = 2 * (i / 2) + 1 by omega, Nat.pow_succ, ← Nat.div_div_eq_div_mul]
    rw [← e]
    generalize vl l / 256 ^ (2 * (i / 2)) = q
    omega
end Go.Proofs.YteechlkccmcpfaaDoor.Fd
