/- Joined texts. -/
import Derived.Deep.OwnRows
import Derived.Deep.RegionHeld3
import Derived.Test.YtkahelhoaihajaaQnFaA
import Derived.Test.YtkahelhoaihajaaQnPuA
set_option linter.unusedVariables false
namespace Go.Proofs.Ytkahelhoaihajaa.Fd
open Go.RowKit Go.Proofs.Ytkahelhoaihajaa.Gn Go.Deep
def lay(L:List Nat)(k:Nat):List Nat:=L.take k ++ List.replicate (L.length - k) 0
theorem bl_set(l:List Nat)(k x:Nat):(bl l).toArray.setIfInBounds k (.int .u8 (x:Int))=(bl (l.set k x)).toArray:=by simp[bl,List.setIfInBounds_toArray,List.map_set]
end Go.Proofs.Ytkahelhoaihajaa.Fd
namespace Go.Proofs.Ytkahelhoaihajaa.Fd
open Go.RowKit Go.Proofs.Ytkahelhoaihajaa.Gn Go.Deep
end Go.Proofs.Ytkahelhoaihajaa.Fd
