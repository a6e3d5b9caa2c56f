/- Joined texts. -/
import Derived.Shelf.Bits.Mul64
import Derived.Shelf.Spec.BitsCarry
import Derived.Deep.QuietTactic
import Derived.BigQuiet
import Derived.Outline
import Derived.BigRegion
import Derived.RegionTactic
import Derived.ChangeAlike
import Derived.Deep.LoopGhost
import Derived.Deep.RegionHeld3
import Derived.Test.YtbgkdbjineennaaProg
import Derived.Test.YtbgkdbjineennaaQmGnA
set_option linter.unusedVariables false

namespace Go.Proofs.Ytbgkdbjineennaa.Fd
end Go.Proofs.Ytbgkdbjineennaa.Fd
namespace Go.Proofs.Ytbgkdbjineennaa.Fd
structure E5 where
 a:Nat
 b:Nat
 c:Nat
 d:Nat
 e:Nat
namespace E5
def sum(x:E5):Nat:=x.a+x.b+x.c+x.d+x.e
end E5
namespace E5
end E5
end Go.Proofs.Ytbgkdbjineennaa.Fd
namespace Go.Proofs.Ytbgkdbjineennaa.Fd
end Go.Proofs.Ytbgkdbjineennaa.Fd
namespace Go.Proofs.Ytbgkdbjineennaa.Fd
namespace cg
end cg
end Go.Proofs.Ytbgkdbjineennaa.Fd
namespace Go.Proofs.Ytbgkdbjineennaa.Fd
end Go.Proofs.Ytbgkdbjineennaa.Fd
namespace Go.Proofs.Ytbgkdbjineennaa.Fd
end Go.Proofs.Ytbgkdbjineennaa.Fd
namespace Go.Proofs.Ytbgkdbjineennaa.Fd
end Go.Proofs.Ytbgkdbjineennaa.Fd
namespace Go.Proofs.Ytbgkdbjineennaa.Fd
open Go.RowKit Go.Proofs.Ytbgkdbjineennaa.Gn Go.Shelf
def wv(t:Nat):Value:=.agg #[.int .u64 ((t / 18446744073709551616:Nat):Int),.int .u64 ((t%18446744073709551616:Nat):Int)]
end Go.Proofs.Ytbgkdbjineennaa.Fd
namespace Go.Proofs.Ytbgkdbjineennaa.Fd
open Go.RowKit Go.Proofs.Ytbgkdbjineennaa.Gn Go.Deep
end Go.Proofs.Ytbgkdbjineennaa.Fd
namespace Go.Proofs.Ytbgkdbjineennaa.Fd
open Go.RowKit Go.Proofs.Ytbgkdbjineennaa.Gn Go.Deep
end Go.Proofs.Ytbgkdbjineennaa.Fd
namespace Go.Proofs.Ytbgkdbjineennaa.Fd
open Go.RowKit Go.Proofs.Ytbgkdbjineennaa.Gn Go.Deep
end Go.Proofs.Ytbgkdbjineennaa.Fd
