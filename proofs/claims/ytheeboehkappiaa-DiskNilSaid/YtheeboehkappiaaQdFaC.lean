/- Joined texts. -/
import Derived.Shelf.Bits.Mul64
import Derived.Shelf.Spec.BitsCarry
import Derived.Deep.QuietTactic
import Derived.BigQuiet
import Derived.Outline
import Derived.BigRegion
import Derived.RegionTactic
import Derived.ChangeAlike
import Derived.Deep.LoopGhost
import Derived.Deep.RegionHeld3
import Derived.Deep.OwnRows
import Derived.Test.YtheeboehkappiaaProg
import Derived.Test.YtheeboehkappiaaQdGnA
set_option linter.unusedVariables false
namespace Go.Proofs.Ytheeboehkappiaa.Fd
open Go.RowKit Go.Proofs.Ytheeboehkappiaa.Gn Go.Deep
theorem infob:(Try.prog.info? 5).map (fun i=>(i.zero,i.size,i.bytes))=some (some (.int .u8 0),1,8 / 8):=by kernel_rfl
end Go.Proofs.Ytheeboehkappiaa.Fd
namespace Go.Proofs.Ytheeboehkappiaa.Fd
open Go.RowKit Go.Proofs.Ytheeboehkappiaa.Gn Go.Deep
end Go.Proofs.Ytheeboehkappiaa.Fd
