/- Joined texts. -/
import Derived.Deep.DeepCutAuto
import Derived.Deep.Cut
import Derived.Test.YtjimhjfjfpeojaaGreatDoorQsEdB
set_option linter.unusedVariables false
namespace Go.Proofs.YtjimhjfjfpeojaaGreatDoor.Ed
open Go.RowKit Go.Proofs.YtjimhjfjfpeojaaGreatDoor.Gn Go.Proofs.YtjimhjfjfpeojaaGreatDoor.Fd Go.Deep
def ke:K:=⟨⟨0,0,0,0,0⟩,by unfold E5.ok;decide⟩
end Go.Proofs.YtjimhjfjfpeojaaGreatDoor.Ed
