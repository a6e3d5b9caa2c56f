/- Joined texts. -/
import Derived.RangeFuncOwn
import Derived.RangeFuncCalls
import Derived.OrdersIn
import Derived.ControlIn
import Derived.OwnWalk
import Derived.Test.YtbgkdbjineennaaQiGnB
import Derived.Shelf.Bits.Mul64
import Derived.Shelf.Spec.BitsCarry
import Derived.Deep.QuietTactic
import Derived.BigQuiet
import Derived.Outline
import Derived.BigRegion
import Derived.RegionTactic
import Derived.ChangeAlike
import Derived.Deep.LoopGhost
import Derived.Deep.RegionHeld3
import Derived.Test.YtbgkdbjineennaaProg
import Derived.Test.YtbgkdbjineennaaQiGnA
set_option linter.unusedVariables false
namespace Go.Proofs.Ytbgkdbjineennaa.Gn
open Go.RowKit Go.Deep
section
variable {P:Program}
theorem want{o:Oper}(h:o.guard=none)(y:Nat→Option Bool){p q:Prop}(hp:p):if Region.wanted o y=true then p else q:=by
 rw[if_pos (by unfold Region.wanted;rw[h])];exact hp
section
variable {ops:Array Oper} {a:Act} {T:Nat→Value→World→Prop} {J:(Nat→Bool)→(Nat→Value)→World→Prop} {Chg:World→World→Prop} {i:Nat} {o:Oper}
structure OX (P:Program) (ops:Array Oper) (a:Act) (T:Nat→Value→World→Prop) (J:(Nat→Bool)→(Nat→Value)→World→Prop) (Chg:World→World→Prop) (i:Nat) (o:Oper):Prop where
 out:Owes P ops a T J Chg i o
theorem each_ox{l:List Oper}:∀ {k:Nat},Each l k (OX P ops a T J Chg)→Each l k (Owes P ops a T J Chg):=by
 induction l with
 |nil=>intro k _;trivial
 |cons o l ih=>intro k h;exact⟨h.1.out,ih h.2⟩
end
end
end Go.Proofs.Ytbgkdbjineennaa.Gn

namespace Go.Proofs.Ytbgkdbjineennaa.Fd
end Go.Proofs.Ytbgkdbjineennaa.Fd
namespace Go.Proofs.Ytbgkdbjineennaa.Fd
structure E5 where
 a:Nat
 b:Nat
 c:Nat
 d:Nat
 e:Nat
namespace E5
def sum(x:E5):Nat:=x.a+x.b+x.c+x.d+x.e
end E5
namespace E5
end E5
end Go.Proofs.Ytbgkdbjineennaa.Fd
namespace Go.Proofs.Ytbgkdbjineennaa.Fd
end Go.Proofs.Ytbgkdbjineennaa.Fd
namespace Go.Proofs.Ytbgkdbjineennaa.Fd
namespace cg
end cg
end Go.Proofs.Ytbgkdbjineennaa.Fd
namespace Go.Proofs.Ytbgkdbjineennaa.Fd
end Go.Proofs.Ytbgkdbjineennaa.Fd
namespace Go.Proofs.Ytbgkdbjineennaa.Fd
end Go.Proofs.Ytbgkdbjineennaa.Fd
namespace Go.Proofs.Ytbgkdbjineennaa.Fd
end Go.Proofs.Ytbgkdbjineennaa.Fd
namespace Go.Proofs.Ytbgkdbjineennaa.Fd
open Go.RowKit Go.Proofs.Ytbgkdbjineennaa.Gn Go.Shelf
def wv(t:Nat):Value:=.agg #[.int .u64 ((t / 18446744073709551616:Nat):Int),.int .u64 ((t%18446744073709551616:Nat):Int)]
end Go.Proofs.Ytbgkdbjineennaa.Fd
namespace Go.Proofs.Ytbgkdbjineennaa.Fd
open Go.RowKit Go.Proofs.Ytbgkdbjineennaa.Gn Go.Deep
end Go.Proofs.Ytbgkdbjineennaa.Fd
namespace Go.Proofs.Ytbgkdbjineennaa.Fd
open Go.RowKit Go.Proofs.Ytbgkdbjineennaa.Gn Go.Deep
end Go.Proofs.Ytbgkdbjineennaa.Fd
namespace Go.Proofs.Ytbgkdbjineennaa.Fd
open Go.RowKit Go.Proofs.Ytbgkdbjineennaa.Gn Go.Deep
end Go.Proofs.Ytbgkdbjineennaa.Fd
