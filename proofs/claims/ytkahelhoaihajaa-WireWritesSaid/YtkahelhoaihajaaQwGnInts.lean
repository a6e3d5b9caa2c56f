/- Joined texts. -/
import Derived.Test.YtkahelhoaihajaaQwGnA
set_option linter.unusedVariables false
namespace Go.Proofs.Ytkahelhoaihajaa.Gn
open Go.ChangeShapes Go.WideShapes Go.ChangeAt Go.RowKit Go.Deep
section
variable {H:Type} {enc:TypeId × Value→H} {P:Program} {w:World} {base:Nat} {spare:Nat→Bool} {held:Bool}
def il(l:List Int):List Value:=l.map fun x=>Value.int .i64 x
theorem il_get(l:List Int)(k:Nat):(il l)[k]?=l[k]?.map fun x=>Value.int .i64 x:=by simp[il]
end
end Go.Proofs.Ytkahelhoaihajaa.Gn
