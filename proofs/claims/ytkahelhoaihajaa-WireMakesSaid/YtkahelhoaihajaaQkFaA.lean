/- Joined texts. -/
import Derived.Shelf.Bits.Mul64
import Derived.Shelf.Spec.BitsCarry
import Derived.Deep.QuietTactic
import Derived.BigQuiet
import Derived.Outline
import Derived.BigRegion
import Derived.RegionTactic
import Derived.ChangeAlike
import Derived.Deep.LoopGhost
import Derived.Deep.RegionHeld3
import Derived.Test.YtkahelhoaihajaaProg
import Derived.Test.YtkahelhoaihajaaQkGnA
import Derived.Test.YtkahelhoaihajaaQkPuA
import Derived.Deep.OwnRows
set_option linter.unusedVariables false
namespace Go.Proofs.Ytkahelhoaihajaa.Fd
open Go.RowKit Go.Proofs.Ytkahelhoaihajaa.Gn Go.Shelf
theorem or_add(a b n:Nat)(hb:b < 2 ^ n):a*2 ^ n ||| b=a*2 ^ n+b:=by
 rw[Nat.mul_comm];exact(Nat.two_pow_add_eq_or_of_lt hb a).symm
end Go.Proofs.Ytkahelhoaihajaa.Fd
namespace Go.Proofs.Ytkahelhoaihajaa.Fd
open Go.RowKit Go.Proofs.Ytkahelhoaihajaa.Gn Go.Deep
end Go.Proofs.Ytkahelhoaihajaa.Fd
namespace Go.Proofs.Ytkahelhoaihajaa.Fd
open Go.RowKit Go.Proofs.Ytkahelhoaihajaa.Gn Go.Deep
end Go.Proofs.Ytkahelhoaihajaa.Fd
namespace Go.Proofs.Ytkahelhoaihajaa.Fd
open Go.RowKit Go.Proofs.Ytkahelhoaihajaa.Gn Go.Deep
end Go.Proofs.Ytkahelhoaihajaa.Fd
namespace Go.Proofs.Ytkahelhoaihajaa.Fd
open Go.RowKit Go.Proofs.Ytkahelhoaihajaa.Gn Go.Deep
def lay(L:List Nat)(k:Nat):List Nat:=L.take k ++ List.replicate (L.length - k) 0
theorem bl_set(l:List Nat)(k x:Nat):(bl l).toArray.setIfInBounds k (.int .u8 (x:Int))=(bl (l.set k x)).toArray:=by simp[bl,List.setIfInBounds_toArray,List.map_set]
end Go.Proofs.Ytkahelhoaihajaa.Fd
namespace Go.Proofs.Ytkahelhoaihajaa.Fd
open Go.RowKit Go.Proofs.Ytkahelhoaihajaa.Gn Go.Deep
end Go.Proofs.Ytkahelhoaihajaa.Fd
