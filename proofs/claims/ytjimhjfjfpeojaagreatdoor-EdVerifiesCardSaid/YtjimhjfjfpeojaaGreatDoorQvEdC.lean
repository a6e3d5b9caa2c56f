/- Joined texts. -/
import Derived.Deep.DeepCutAuto
import Derived.Deep.Cut
import Derived.Test.YtjimhjfjfpeojaaGreatDoorQvEdB
set_option maxRecDepth 100000
set_option maxHeartbeats 8000000
set_option linter.unusedVariables false
namespace Go.Proofs.YtjimhjfjfpeojaaGreatDoor.Ed
open Go.RowKit Go.Proofs.YtjimhjfjfpeojaaGreatDoor.Gn Go.Proofs.YtjimhjfjfpeojaaGreatDoor.Fd Go.Deep
def ke:K:=⟨⟨0,0,0,0,0⟩,by unfold E5.ok;decide⟩
def hon(k:K)(p:KP):Bool:=!decide (p.z.f=ke.f) && (decide ((kmul p.t p.z).f=(kmul p.x p.y).f) && decide ((ksub (kmul p.y p.y) (kmul p.x p.x)).f=(kadd (kmul p.z p.z) (kmul k (kmul p.t p.t))).f))
def hsame(k:K)(p q:KP):Bool:=hon k p && (hon k q && (decide ((kmul p.x q.z).f=(kmul q.x p.z).f) && decide ((kmul p.y q.z).f=(kmul q.y p.z).f)))
end Go.Proofs.YtjimhjfjfpeojaaGreatDoor.Ed
