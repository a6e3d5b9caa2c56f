/- Joined texts. -/
import Derived.Test.YtjimhjfjfpeojaaGreatDoorQaAvP
import Derived.Test.YtjimhjfjfpeojaaGreatDoorQaAvN
import Derived.Test.YtjimhjfjfpeojaaGreatDoorQaPuB
set_option linter.unusedVariables false
namespace Go.Proofs.YtjimhjfjfpeojaaGreatDoor.Av
open Go.RowKit Go.Proofs.YtjimhjfjfpeojaaGreatDoor.Gn Go.Proofs.YtjimhjfjfpeojaaGreatDoor.Fd Go.Proofs.YtjimhjfjfpeojaaGreatDoor.Ed Go.Deep
structure T3 where
 x : Nat
 y : Nat
 z : Nat
def T3.dv (p : T3) : DV := pt p.x p.y p.z
structure T3.ok (p : T3) : Prop where
 x : p.x < pp
 y : p.y < pp
 z : p.z < pp
def R3 (p : T3) (g : G) : Prop := cv.Rep3 ⟨fe p.x, fe p.y, fe p.z⟩ g.x g.y
theorem fe_mod (n : Nat) : fe (n % pp) = fe n := fe_eq.2 (Nat.mod_mod n pp)
theorem fe_less {a b : Nat} (h : b < pp) : fe (a + (pp - b)) = fe a - fe b := by
 have e : fe (a + (pp - b)) + fe b = fe a := by
  rw [← fe_add, show a + (pp - b) + b = a + pp by omega]
  exact fe_eq.2 (by unfold cg; simp)
 have q := Crv.add_assoc_ (fe (a + (pp - b))) (fe b) (-fe b)
 have q2 := Crv.neg_add_ (fe b)
 rw [Crv.add_comm_] at q2
 rw [Crv.sub_eq_, ← e, q, q2, Crv.add_zero_]
theorem fe_lessm (a n : Nat) : fe (a + (pp - n % pp)) = fe a - fe n := by rw [fe_less (lt_mod n), fe_mod]
end Go.Proofs.YtjimhjfjfpeojaaGreatDoor.Av
