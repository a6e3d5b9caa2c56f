/- Joined texts. -/
import Derived.Test.YtjimhjfjfpeojaaGreatDoorQaAvNum
set_option linter.unusedVariables false
namespace Go.Proofs.YtjimhjfjfpeojaaGreatDoor.Av
open Go.RowKit Go.Proofs.YtjimhjfjfpeojaaGreatDoor.Gn Go.Proofs.YtjimhjfjfpeojaaGreatDoor.Fd Go.Deep
def pt (x y z : Nat) : DV := .agg [num x, num y, num z]
theorem num_zero : num 0 = .sq false 1 [] := by unfold num row; rw [dg_zero]; rfl
theorem num_one : num 1 = .sq false 1 [.lit (.int .u64 1)] := by unfold num row; rw [show dg 1 = [1] by decide +kernel]; rfl
theorem le_pt {a b c : DV} {x y z : Nat} (h1 : DV.le a (num x)) (h2 : DV.le b (num y)) (h3 : DV.le c (num z)) : DV.le (.agg [a, b, c]) (pt x y z) := le_agg rfl fun j u v hu hv => by
 match j with
 | 0 => simp at hu hv; subst hu hv; exact h1
 | 1 => simp at hu hv; subst hu hv; exact h2
 | 2 => simp at hu hv; subst hu hv; exact h3
 | j + 3 => simp at hu
theorem lt_mod (n : Nat) : n % pp < pp := Nat.mod_lt _ pp_pos
end Go.Proofs.YtjimhjfjfpeojaaGreatDoor.Av
