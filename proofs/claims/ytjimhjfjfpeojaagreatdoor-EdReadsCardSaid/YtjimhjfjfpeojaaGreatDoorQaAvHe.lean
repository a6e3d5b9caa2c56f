/- Joined texts. -/
import Derived.Test.YtjimhjfjfpeojaaGreatDoorQaAvPr
import Derived.Test.YtjimhjfjfpeojaaGreatDoorQaAvRd
set_option linter.unusedVariables false
namespace Go.Proofs.YtjimhjfjfpeojaaGreatDoor.Av
open Go.RowKit Go.Proofs.YtjimhjfjfpeojaaGreatDoor.Gn Go.Proofs.YtjimhjfjfpeojaaGreatDoor.Fd Go.Proofs.YtjimhjfjfpeojaaGreatDoor.Ed Go.Deep
section
variable {Γ : Ctx} {σ : St} {fn : Func}
end
theorem low_split {l : List Nat} (h : l.length = 32) : low l = l.take 31 ++ [l.getD 31 0 % 128] := by
 have hsp : l = l.take 31 ++ [l.getD 31 0] := by
  have h1 := List.take_append_drop 31 l
  have h2 : l.drop 31 = [l.getD 31 0] := by
   rw [List.drop_eq_getElem_cons (by omega), List.drop_of_length_le (by omega), List.getD_eq_getElem?_getD, List.getElem?_eq_getElem (by omega)]
   rfl
  rw [h2] at h1
  exact h1.symm
 have ht : (l.take 31).length = 31 := by simp; omega
 unfold low
 conv => lhs; arg 1; rw [hsp]
 rw [List.set_append_right _ _ (by omega), ht]
 rfl
theorem low_byte {l : List Nat} (h : ∀ x ∈ l, x < 256) : ∀ x ∈ low l, x < 256 := by
 intro x hx
 unfold low at hx
 rcases List.mem_or_eq_of_mem_set hx with h1 | h1
 ·exact h x h1
 ·omega
theorem low_len {l : List Nat} : (low l).length = l.length := by unfold low; simp
theorem dec_i (a b : Nat) : decide ((a : Int) < (b : Int)) = decide (a < b) := decide_eq_decide.2 (by omega)
theorem c_rdec1 {l : List Nat} (h32 : l.length = 32) (hl : ∀ x ∈ l, x < 256) (hm : le l < pp) (w : World) : FnAt Tryz.prog [] w 48 [byt true l] (.tup [.lit (.agg (el (le l)).v), .lit (.int .i64 0)]) := by
 have := c_rdec (r := true) h32 hl w
 rwa [if_pos hm, if_pos hm] at this
theorem c_rdec2 {l : List Nat} (h32 : l.length = 32) (hl : ∀ x ∈ l, x < 256) (hm : ¬ le l < pp) (w : World) : FnAt Tryz.prog [] w 48 [byt true l] (.tup [.lit (.agg z5), .lit (.int .i64 30)]) := by
 have := c_rdec (r := true) h32 hl w
 rwa [if_neg hm, if_neg hm] at this
theorem z5_row : ∀ O w v, (DV.lit (.agg z5)).rep O w v → ∃ us : Array Value, v = .agg us ∧ us.size = 5 ∧ ∀ u ∈ us.toList, u.oneCell' = true := agg_row rfl (by intro u hu; unfold z5 at hu; simp at hu; subst hu; rfl)
theorem el_row (n : Nat) : ∀ O w v, (DV.lit (.agg (el n).v)).rep O w v → ∃ us : Array Value, v = .agg us ∧ us.size = 5 ∧ ∀ u ∈ us.toList, u.oneCell' = true := agg_row rfl (by
 intro u hu
 unfold E5.v at hu
 simp at hu
 rcases hu with rfl | rfl | rfl | rfl | rfl <;> rfl)
def decO (l : List Nat) : Option T3 := if l.length = 32 then decT l else none
def ofT (o : Option T3) : DV := .tup [(o.getD ⟨0, 0, 0⟩).dv, .lit (.bool o.isSome)]
end Go.Proofs.YtjimhjfjfpeojaaGreatDoor.Av
