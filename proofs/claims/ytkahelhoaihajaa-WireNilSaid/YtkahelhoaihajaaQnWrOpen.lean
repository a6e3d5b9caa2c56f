/- Joined texts. -/
import Derived.OpenShut
import Derived.WideShapes
import Derived.ChangeArms
import Derived.Test.YtkahelhoaihajaaQnWrPu
set_option linter.unusedVariables false
namespace Go.Proofs.Ytkahelhoaihajaa.Wr
open Go.RowKit Go.Proofs.Ytkahelhoaihajaa.Gn Go.Proofs.Ytkahelhoaihajaa.Fd Go.Deep Go.ChangeShapes Go.WideShapes
theorem cellsI:Try.prog.cellsOf 3=1:=by kernel_rfl
end Go.Proofs.Ytkahelhoaihajaa.Wr
