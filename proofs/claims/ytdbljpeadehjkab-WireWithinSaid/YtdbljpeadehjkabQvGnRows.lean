/- Joined texts. -/
import Derived.Lib.SmallJoins
import Derived.Test.YtdbljpeadehjkabQvGnA
set_option linter.unusedVariables false
namespace Go.Proofs.Ytdbljpeadehjkab.Gn
open Go.RowKit Go.Deep
abbrev Rw:=Option Addr × Nat × Nat × List Nat
section
variable {H:Type} {enc:TypeId × Value→H} {P:Program} {w:World} {base:Nat} {spare:Nat→Bool} {held:Bool}
end
end Go.Proofs.Ytdbljpeadehjkab.Gn
