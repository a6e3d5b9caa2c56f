/- Joined texts. -/
import Derived.Test.YtkahelhoaihajaaQbWrBackW
set_option linter.unusedVariables false
namespace Go.Proofs.Ytkahelhoaihajaa.Wr
open Go.RowKit Go.Proofs.Ytkahelhoaihajaa.Gn Go.Proofs.Ytkahelhoaihajaa.Fd Go.Deep
theorem noC_take{l:List Nat}(h:noC l=false)(j:Nat):noC (l.take j)=false:=by
 cases j with
 |zero=>rfl
 |succ j =>
  cases l with
  |nil=>rfl
  |cons x t =>
   rw[List.take_succ_cons]
   cases t with
   |nil=>rw[List.take_nil];exact h
   |cons y u =>
    cases j with
    |zero =>
     simp only[noC] at h ⊢
     split
     ·rfl
     ·rename_i h1
      rw[if_neg h1] at h
      split at h
      ·cases h
      ·rename_i h2;rw[if_neg h2];rfl
    |succ j=>exact h
theorem szC_take{l:List Nat}{j:Nat}(hj:1≤j):szC (l.take j)=szC l:=by
 obtain⟨i,rfl⟩:∃i,j=i+1:=⟨j - 1,by omega⟩
 cases l with
 |nil=>rfl
 |cons x t=>rfl
theorem rcl_sz{l:List Nat}{n m:Nat}(h:rcl l=(n,m,0)):noC l=false∧szC l≤l.length∧m=szC l:=by
 unfold rcl at h
 split at h
 ·cases h
 ·rename_i h1
  split at h
  ·cases h
  ·rename_i h2
   refine⟨by simpa using h1,by omega,?_⟩
   split at h
   ·rename_i h3;cases h;exact h3.symm
   ·cases h;rfl
theorem rcl_cut{l:List Nat}{n m:Nat}(h:rcl l=(n,m,0)){j:Nat}(hj:j < m):rcl (l.take j)=(0,0,20):=by
 obtain⟨h1,h2,h3⟩:=rcl_sz h
 unfold rcl
 rw[if_neg (by rw[noC_take h1];decide),if_pos]
 cases j with
 |zero=>rw[List.take_zero];exact Nat.zero_lt_one
 |succ j=>rw[szC_take (by omega),List.length_take];omega
end Go.Proofs.Ytkahelhoaihajaa.Wr
namespace Go.Proofs.Ytkahelhoaihajaa.Wr
open Go.RowKit Go.Proofs.Ytkahelhoaihajaa.Gn Go.Proofs.Ytkahelhoaihajaa.Fd Go.Deep
theorem be_le:∀l:List Nat,be l=le l.reverse
 | []=>rfl
 |x :: l=>by rw[be_cons,be_le l,List.reverse_cons,le_append,le_cons,le_nil,List.length_reverse,Nat.mul_comm x,Nat.mul_zero,Nat.add_zero,Nat.add_comm]
theorem nb_is{n k:Nat}(h64:n < 2 ^ 64)(h0:n≠0)(hi:n < 256 ^ k)(lo:256 ^ (k - 1)≤n):nb n=k:=by
 have h1:nb n≤k:=by
  rcases Nat.lt_or_ge k (nb n) with h|h
  ·have h2:=nb_more h64 h0 h
   rw[Nat.div_eq_of_lt hi] at h2;omega
  ·exact h
 have h2:=nb_end h64
 rcases Nat.lt_or_ge (nb n) k with h|h
 ·exfalso
  have h3:n < 256 ^ nb n:=by
   rcases Nat.lt_or_ge n (256 ^ nb n) with h3|h3
   ·exact h3
   ·have:=Nat.div_pos h3 (Nat.pow_pos (by decide:0 < 256));omega
  have h4:256 ^ nb n≤256 ^ (k - 1):=Nat.pow_le_pow_right (by decide) (by omega)
  omega
 ·omega
theorem rcl_take {l : List Nat} (hl : ∀ x ∈ l, x < 256) {n m : Nat} (h : rcl l = (n, m, 0)) : l.take m = cb n ∧ n < 2 ^ 64 := by
  obtain ⟨h1, h2, h3⟩ := rcl_sz h
  subst h3
  unfold rcl at h
  rw [if_neg (by rw [h1]; decide), if_neg (by omega)] at h
  cases l with
  | nil => exact absurd h2 (by simp [szC])
  | cons x t =>
    by_cases hx : x < 192
    · have e1 : szC (x :: t) = 1 := if_pos hx
      rw [if_pos e1] at h
      have e2 : x = n := by injection h
      subst e2
      rw [e1, cb_low hx]
      exact ⟨rfl, by omega⟩
    · have hx2 : ¬ 199 < x := fun h => by
        simp [noC, hx, h] at h1
      have e1 : szC (x :: t) = x - 190 := if_neg hx
      rw [e1] at h h2
      rw [if_neg (by omega)] at h
      obtain ⟨k, hk⟩ : ∃ k, x = 191 + (k + 1) := ⟨x - 192, by omega⟩
      rw [show x - 190 = k + 2 by omega, List.drop_succ_cons, List.drop_zero, show k + 2 - 1 = k + 1 from rfl] at h
      have e2 : be (t.take (k + 1)) = n := congrArg Prod.fst h
      rw [List.length_cons] at h2
      cases t with
      | nil => rw [List.length_nil] at h2; omega
      | cons y u =>
        have hy : ¬ (y = 0 ∨ (x = 192 ∧ y < 192)) := by
          simp only [noC] at h1
          rw [if_neg hx, if_neg hx2] at h1
          simpa using h1
        rw [List.length_cons] at h2
        have hu : (u.take k).length = k := by rw [List.length_take]; omega
        have hlt : ∀ z ∈ y :: u.take k, z < 256 := fun z hz => hl z (by
          rcases List.mem_cons.1 hz with rfl | hz
          · exact List.mem_cons_of_mem _ List.mem_cons_self
          · exact List.mem_cons_of_mem _ (List.mem_cons_of_mem _ (List.mem_of_mem_take hz)))
        rw [List.take_succ_cons] at e2
        have hlen : (y :: u.take k).length = k + 1 := by rw [List.length_cons, hu]
        have up : n < 256 ^ (k + 1) := by rw [← e2]; exact be_lt _ _ hlen hlt
        have lo : 256 ^ k ≤ n := by
          rw [← e2, be_cons, hu]
          exact Nat.le_trans (Nat.le_mul_of_pos_left _ (by omega)) (Nat.le_add_right _ _)
        have k7 : k ≤ 7 := by omega
        have h64 : n < 2 ^ 64 := Nat.lt_of_lt_of_le up (by rw [show (2 : Nat) ^ 64 = 256 ^ 8 by decide]; exact Nat.pow_le_pow_right (by decide) (by omega))
        have n192 : ¬ n < 192 := by
          cases k with
          | zero =>
            rw [List.take_zero] at e2
            have e3 : n = y := by rw [← e2]; simp [be]
            omega
          | succ k =>
            have h3 : 256 ^ 1 ≤ 256 ^ (k + 1) := Nat.pow_le_pow_right (by decide) (by omega)
            omega
        have hnb : nb n = k + 1 := nb_is h64 (by omega) up lo
        have hby : by_ n (k + 1) = (y :: u.take k).reverse := le_inj (by_lt _ _) (fun z hz => hlt z (List.mem_reverse.1 hz)) (by rw [by_length, List.length_reverse, hlen]) (by rw [le_by, Nat.mod_eq_of_lt up, ← be_le, e2])
        refine ⟨?_, h64⟩
        rw [cb_high n192, hnb, hby, List.reverse_reverse, e1, show x - 190 = k + 1 + 1 by omega, List.take_succ_cons, List.take_succ_cons, hk]
end Go.Proofs.Ytkahelhoaihajaa.Wr
