/- Joined texts. -/
import Derived.Deep.OwnRows
import Derived.Deep.RegionHeld3
import Derived.Test.YtdbljpeadehjkaaQrPuA
import Derived.Lib.SmallJoins
import Derived.Test.YtdbljpeadehjkaaQrGnA
import Derived.Lib.AppendZeros
set_option linter.unusedVariables false
namespace Go.Proofs.Ytdbljpeadehjkaa.Fd
open Go.RowKit Go.Proofs.Ytdbljpeadehjkaa.Gn Go.Deep
def lay(L:List Nat)(k:Nat):List Nat:=L.take k ++ List.replicate (L.length - k) 0
theorem bl_set(l:List Nat)(k x:Nat):(bl l).toArray.setIfInBounds k (.int .u8 (x:Int))=(bl (l.set k x)).toArray:=by simp[bl,List.setIfInBounds_toArray,List.map_set]
end Go.Proofs.Ytdbljpeadehjkaa.Fd
namespace Go.Proofs.Ytdbljpeadehjkaa.Fd
open Go.RowKit Go.Proofs.Ytdbljpeadehjkaa.Gn Go.Deep
end Go.Proofs.Ytdbljpeadehjkaa.Fd
namespace Go.Proofs.Ytdbljpeadehjkaa.Gn
open Go.RowKit Go.Deep
abbrev Rw:=Option Addr × Nat × Nat × List Nat
section
variable {H:Type} {enc:TypeId × Value→H} {P:Program} {w:World} {base:Nat} {spare:Nat→Bool} {held:Bool}
end
end Go.Proofs.Ytdbljpeadehjkaa.Gn
namespace Go.Proofs.Ytdbljpeadehjkaa.Gn
open Go.RowKit Go.Proofs.Ytdbljpeadehjkaa.Fd Go.Deep
structure Pc (w:World) (r:Rw):Prop where
 len:r.2.1=r.2.2.2.length
 row:Sl w r.1 r.2.2.2.length (bl r.2.2.2)
 lt:∀x∈r.2.2.2,x < 256
 cap:r.2.2.2.length≤r.2.2.1
 nil:r.1=none→r.2.2.1=0
theorem Pc.below{w w':World}{r:Rw}(h:Pc w r)(hb:Below w.heap.size w w'):Pc w' r:=⟨h.len,h.row.below hb,h.lt,h.cap,h.nil⟩
end Go.Proofs.Ytdbljpeadehjkaa.Gn
