/- Joined texts. -/
import Derived.Deep.OwnRows
import Derived.Deep.RegionHeld3
import Derived.Test.YtdbljpeadehjkabQvFaA
import Derived.Test.YtdbljpeadehjkabQvPuA
set_option linter.unusedVariables false
namespace Go.Proofs.Ytdbljpeadehjkab.Fd
open Go.RowKit Go.Proofs.Ytdbljpeadehjkab.Gn Go.Deep
def lay(L:List Nat)(k:Nat):List Nat:=L.take k ++ List.replicate (L.length - k) 0
theorem bl_set(l:List Nat)(k x:Nat):(bl l).toArray.setIfInBounds k (.int .u8 (x:Int))=(bl (l.set k x)).toArray:=by simp[bl,List.setIfInBounds_toArray,List.map_set]
end Go.Proofs.Ytdbljpeadehjkab.Fd
namespace Go.Proofs.Ytdbljpeadehjkab.Fd
open Go.RowKit Go.Proofs.Ytdbljpeadehjkab.Gn Go.Deep
end Go.Proofs.Ytdbljpeadehjkab.Fd
