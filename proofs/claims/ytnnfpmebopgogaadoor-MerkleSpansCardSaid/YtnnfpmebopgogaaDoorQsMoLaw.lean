/- Joined texts. -/
import Derived.Test.YtnnfpmebopgogaaDoorQsMoTexts
import Derived.Test.YtnnfpmebopgogaaDoorQsMoClash
import Derived.Test.YtnnfpmebopgogaaDoorQsMpProveB
import Derived.Test.YtnnfpmebopgogaaDoorQsMkJ
import Derived.Test.YtnnfpmebopgogaaDoorQsMpLawO
import Derived.Test.YtnnfpmebopgogaaDoorQsMpRCheck
set_option linter.unusedVariables false
namespace Go.Proofs.YtnnfpmebopgogaaDoor.Mk
open Go.RowKit Go.Proofs.YtnnfpmebopgogaaDoor.Gn Go.Proofs.YtnnfpmebopgogaaDoor.Fd Go.Deep
theorem po_small{w:World}{r:Rw}(h:Po w r∧r.2.2.2.length≤100):Pc w r∧r.2.2.2.length≤1048576:=⟨h.1.1,by have:=h.2;omega⟩
end Go.Proofs.YtnnfpmebopgogaaDoor.Mk
