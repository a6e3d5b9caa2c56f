/- Joined texts. -/
import Derived.Deep.OwnRows
import Derived.Deep.RegionHeld3
import Derived.Test.YtbgkdbjineennaaQmPuA
import Derived.Lib.SmallJoins
import Derived.Test.YtbgkdbjineennaaQmGnA
set_option linter.unusedVariables false
namespace Go.Proofs.Ytbgkdbjineennaa.Fd
open Go.RowKit Go.Proofs.Ytbgkdbjineennaa.Gn Go.Deep
theorem infob:(Try.prog.info? 5).map (fun i=>(i.zero,i.size,i.bytes))=some (some (.int .u8 0),1,8 / 8):=by kernel_rfl
end Go.Proofs.Ytbgkdbjineennaa.Fd
namespace Go.Proofs.Ytbgkdbjineennaa.Fd
open Go.RowKit Go.Proofs.Ytbgkdbjineennaa.Gn Go.Deep
end Go.Proofs.Ytbgkdbjineennaa.Fd
namespace Go.Proofs.Ytbgkdbjineennaa.Gn
open Go.RowKit Go.Deep
theorem weights_mem{H:Type}{P:Program}{e:TypeId}{x:Nat}{d:DataW H}(h:x∈d.weights P e):∀(l:List (DataW H)),d∈l→x∈DataW.weightsAll P e l:=by
 intro l
 induction l with
 |nil=>intro h;cases h
 |cons y l ih =>
  intro hm
  rw[DataW.weightsAll]
  rcases List.mem_cons.1 hm with rfl|hm
  ·exact List.mem_append_left _ h
  ·exact List.mem_append_right _ (ih hm)
section
variable {H:Type} {enc:TypeId × Value→H} {P:Program} {w:World} {base:Nat} {spare:Nat→Bool} {held:Bool}
end
end Go.Proofs.Ytbgkdbjineennaa.Gn
