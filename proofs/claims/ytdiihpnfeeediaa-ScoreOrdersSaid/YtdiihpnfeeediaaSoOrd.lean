/-
  The order of places by their numbers' codes, the greatest first; rows that rise by it are one row.
-/
import Derived.Test.YtdiihpnfeeediaaScPlain
import Derived.Test.YtdiihpnfeeediaaSoPure
namespace Go.Proofs.Ytdiihpnfeeediaa.So
open Go.Sort Go.Proofs.Ytdiihpnfeeediaa.Sc

/-- A place's code. -/
def cd (l : List Nat) (k : Nat) : Nat := code (l.getD k 0)
/-- One place stands ahead of another. -/
def Ahead (l : List Nat) (x y : Nat) : Prop := cd l y < cd l x ∨ (cd l x = cd l y ∧ x < y)
theorem Ahead.trans {l : List Nat} {x y z : Nat} (h : Ahead l x y) (h' : Ahead l y z) : Ahead l x z := by unfold Ahead at *; omega
theorem Ahead.irr {l : List Nat} {x : Nat} : ¬ Ahead l x x := by unfold Ahead; omega
/-- What the test tells of two places. -/
def tst (l : List Nat) (x y : Nat) : Int := cmp (l.getD y 0) (l.getD x 0)
theorem tst_lt {l : List Nat} {x y : Nat} : tst l x y < 0 ↔ cd l y < cd l x := by
  unfold tst cmp cd
  split
  · omega
  · split <;> omega
theorem ord_fin (l : List Nat) (N : Nat) : Ord (fun x y : Fin N => decide (tst l x y < 0)) Fin.val (fun x y => Ahead l x y) where
  trans := fun x y z => Ahead.trans
  irr := fun x => Ahead.irr
  less := fun x y h hl => Or.inl (tst_lt.1 (of_decide_eq_true hl))
  ge := fun x y h hl => by
    have := of_decide_eq_false hl
    rw [tst_lt] at this
    show Ahead l y x
    unfold Ahead; omega
/-- Two rows that rise and have the same places are one. -/
theorem ahead_unique {l : List Nat} : ∀ {a b : List Nat}, a.Pairwise (Ahead l) → b.Pairwise (Ahead l) → (∀ x, x ∈ a ↔ x ∈ b) → a = b
  | [], [], _, _, _ => rfl
  | [], y :: b, _, _, h => by have := (h y).2 (by simp); simp at this
  | x :: a, [], _, _, h => by have := (h x).1 (by simp); simp at this
  | x :: a, y :: b, ha, hb, h => by
    rw [List.pairwise_cons] at ha hb
    have e : x = y := by
      have h1 := (h x).1 (by simp)
      have h2 := (h y).2 (by simp)
      rw [List.mem_cons] at h1 h2
      rcases h1 with h1 | h1
      · exact h1
      · rcases h2 with h2 | h2
        · exact h2.symm
        · exact absurd ((ha.1 y h2).trans (hb.1 x h1)) Ahead.irr
    subst e
    congr 1
    refine ahead_unique ha.2 hb.2 fun z => ⟨fun hz => ?_, fun hz => ?_⟩
    · have := (h z).1 (List.mem_cons_of_mem _ hz)
      rw [List.mem_cons] at this
      rcases this with e | e
      · subst e; exact absurd (ha.1 z hz) Ahead.irr
      · exact e
    · have := (h z).2 (List.mem_cons_of_mem _ hz)
      rw [List.mem_cons] at this
      rcases this with e | e
      · subst e; exact absurd (hb.1 z hz) Ahead.irr
      · exact e
/-- A row of places in order. -/
structure Ordered (l : List Nat) (n : Nat) (o : List Nat) : Prop where
  len : o.length = n
  lt : ∀ x ∈ o, x < n
  all : ∀ x, x < n → x ∈ o
  rise : o.Pairwise (Ahead l)
theorem Ordered.eq {l : List Nat} {n : Nat} {a b : List Nat} (ha : Ordered l n a) (hb : Ordered l n b) : a = b := ahead_unique ha.rise hb.rise fun x => ⟨fun h => hb.all x (ha.lt x h), fun h => ha.all x (hb.lt x h)⟩
/-- What the sort leaves. -/
theorem ordered_of {l : List Nat} {N n : Nat} [Inhabited (Fin N)] (hN : 0 < n → N = n) {d0 d : Array (Fin N)} (h0 : d0.size = n) (hv : ∀ p, p < n → (d0[p]!).val = p) (hm : Mv 0 n d0 d) (hr : Run (fun x y : Fin N => Ahead l x y) d 0 n) :
    Ordered l n ((List.range n).map fun p => (d[p]!).val) where
  len := by simp
  lt := fun x hx => by
    obtain ⟨p, hp, rfl⟩ := List.mem_map.1 hx
    have := List.mem_range.1 hp
    have e := hN (by omega)
    have := (d[p]!).isLt
    omega
  all := fun x hx => by
    obtain ⟨q, q1, q2, e⟩ := hm.back x (Nat.zero_le _) hx
    refine List.mem_map.2 ⟨q, List.mem_range.2 q2, ?_⟩
    show (d[q]!).val = x
    rw [← e, hv x hx]
  rise := by
    rw [List.pairwise_map]
    refine List.Pairwise.imp_of_mem ?_ (List.pairwise_lt_range (n := n))
    intro a b ha hb hab
    exact hr a b (Nat.zero_le _) hab (List.mem_range.1 hb)
/-- The document's way: one by one, behind all that are not below it. -/
def put (l : List Nat) (o : List Nat) (i : Nat) : List Nat := o.takeWhile (fun x => decide (cd l i ≤ cd l x)) ++ i :: o.dropWhile (fun x => decide (cd l i ≤ cd l x))
def rord (l : List Nat) (n : Nat) : List Nat := (List.range n).foldl (put l) []
theorem rord_succ (l : List Nat) (n : Nat) : rord l (n + 1) = put l (rord l n) n := by simp [rord, List.range_succ, List.foldl_append]
theorem drop_below {l o : List Nat} {i : Nat} (h : o.Pairwise (Ahead l)) : ∀ x ∈ o.dropWhile (fun x => decide (cd l i ≤ cd l x)), cd l x < cd l i := by
  induction o with
  | nil => intro x hx; simp at hx
  | cons a t ih =>
    rw [List.pairwise_cons] at h
    intro x hx
    rw [List.dropWhile_cons] at hx
    by_cases hc : cd l i ≤ cd l a
    · simp [hc] at hx
      exact ih h.2 x (by simpa using hx)
    · simp [hc] at hx
      rcases hx with e | e
      · subst e; omega
      · have := h.1 x e
        unfold Ahead at this
        omega
theorem take_imp {p : Nat → Bool} : ∀ {o : List Nat} {x : Nat}, x ∈ o.takeWhile p → p x = true
  | [], x, h => by simp at h
  | a :: o, x, h => by
    rw [List.takeWhile_cons] at h
    by_cases hc : p a = true
    · rw [if_pos hc, List.mem_cons] at h
      rcases h with e | e
      · rw [e]; exact hc
      · exact take_imp e
    · rw [if_neg hc] at h; simp at h
theorem ordered_rord (l : List Nat) (n : Nat) : Ordered l n (rord l n) := by
  induction n with
  | zero => exact ⟨rfl, fun x hx => by simp [rord] at hx, fun x hx => by omega, by simp [rord]⟩
  | succ n ih =>
    rw [rord_succ]
    have e : rord l n = (rord l n).takeWhile (fun x => decide (cd l n ≤ cd l x)) ++ (rord l n).dropWhile (fun x => decide (cd l n ≤ cd l x)) := List.takeWhile_append_dropWhile.symm
    have mem : ∀ x, x ∈ put l (rord l n) n ↔ x = n ∨ x ∈ rord l n := fun x => by
      unfold put
      rw [List.mem_append, List.mem_cons]
      constructor
      · rintro (h | h | h)
        · exact Or.inr (by rw [e]; exact List.mem_append_left _ h)
        · exact Or.inl h
        · exact Or.inr (by rw [e]; exact List.mem_append_right _ h)
      · rintro (h | h)
        · exact Or.inr (Or.inl h)
        · rw [e, List.mem_append] at h
          rcases h with h | h
          · exact Or.inl h
          · exact Or.inr (Or.inr h)
    refine ⟨?_, fun x hx => ?_, fun x hx => ?_, ?_⟩
    · unfold put
      have := congrArg List.length e
      rw [List.length_append, ih.len] at this
      rw [List.length_append, List.length_cons]
      omega
    · rcases (mem x).1 hx with h | h
      · omega
      · have := ih.lt x h; omega
    · rw [mem]
      by_cases h : x = n
      · exact Or.inl h
      · exact Or.inr (ih.all x (by omega))
    · have hp := ih.rise
      have hd := drop_below (i := n) hp
      have ht : ∀ x ∈ (rord l n).takeWhile (fun x => decide (cd l n ≤ cd l x)), cd l n ≤ cd l x := fun x hx => by
        have := take_imp hx
        simpa using this
      rw [e, List.pairwise_append] at hp
      unfold put
      rw [List.pairwise_append, List.pairwise_cons]
      refine ⟨hp.1, ⟨fun x hx => Or.inl (hd x hx), hp.2.1⟩, fun x hx y hy => ?_⟩
      rw [List.mem_cons] at hy
      rcases hy with rfl | hy
      · have h1 := ht x hx
        have h2 := ih.lt x (by rw [e]; exact List.mem_append_left _ hx)
        unfold Ahead; omega
      · exact hp.2.2 x hx y hy
end Go.Proofs.Ytdiihpnfeeediaa.So
