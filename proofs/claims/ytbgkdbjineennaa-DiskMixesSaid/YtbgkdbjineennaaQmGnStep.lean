/- Joined texts. -/
import Derived.RangeFuncOwn
import Derived.RangeFuncCalls
import Derived.OrdersIn
import Derived.ControlIn
import Derived.OwnWalk
import Derived.Test.YtbgkdbjineennaaQmGnB
set_option linter.unusedVariables false
namespace Go.Proofs.Ytbgkdbjineennaa.Gn
open Go.RowKit Go.Deep
section
variable {P:Program}
theorem want{o:Oper}(h:o.guard=none)(y:Nat→Option Bool){p q:Prop}(hp:p):if Region.wanted o y=true then p else q:=by
 rw[if_pos (by unfold Region.wanted;rw[h])];exact hp
section
variable {ops:Array Oper} {a:Act} {T:Nat→Value→World→Prop} {J:(Nat→Bool)→(Nat→Value)→World→Prop} {Chg:World→World→Prop} {i:Nat} {o:Oper}
structure OX (P:Program) (ops:Array Oper) (a:Act) (T:Nat→Value→World→Prop) (J:(Nat→Bool)→(Nat→Value)→World→Prop) (Chg:World→World→Prop) (i:Nat) (o:Oper):Prop where
 out:Owes P ops a T J Chg i o
theorem each_ox{l:List Oper}:∀ {k:Nat},Each l k (OX P ops a T J Chg)→Each l k (Owes P ops a T J Chg):=by
 induction l with
 |nil=>intro k _;trivial
 |cons o l ih=>intro k h;exact⟨h.1.out,ih h.2⟩
end
end
end Go.Proofs.Ytbgkdbjineennaa.Gn
