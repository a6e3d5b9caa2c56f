/- Joined texts. -/
import Derived.Test.YtjimhjfjfpeojaaDoorQbRfRest
import Derived.Test.YtjimhjfjfpeojaaDoorQbRaE
set_option linter.unusedVariables false
namespace Go.Proofs.YtjimhjfjfpeojaaDoor.Fd
open Go.RowKit Go.Proofs.YtjimhjfjfpeojaaDoor.Gn Go.Deep
def scErr(l:List Nat):Int:=if l.length=32 then(if le l < Lq then 0 else 31) else 1
def RetYE(l:List Nat)(w:World)(e:Ending)(w':World):Prop:=∃g,e=.returned (.tuple #[.slice (some ⟨g,0,none⟩) l.length l.length,.int .i64 0])∧w.heap.size≤g∧Bl w' g 5 (bl l).toArray∧Below w.heap.size w w'
end Go.Proofs.YtjimhjfjfpeojaaDoor.Fd
