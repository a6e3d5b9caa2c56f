/- Joined texts. -/
import Derived.Lib.SmallJoins
import Derived.Test.YtkahelhoaihajaaQnGnA
set_option linter.unusedVariables false
namespace Go.Proofs.Ytkahelhoaihajaa.Gn
open Go.RowKit Go.Deep
abbrev Rw:=Option Addr × Nat × Nat × List Nat
theorem weights_mem{H:Type}{P:Program}{e:TypeId}{x:Nat}{d:DataW H}(h:x∈d.weights P e):∀(l:List (DataW H)),d∈l→x∈DataW.weightsAll P e l:=by
 intro l
 induction l with
 |nil=>intro h;cases h
 |cons y l ih =>
  intro hm
  rw[DataW.weightsAll]
  rcases List.mem_cons.1 hm with rfl|hm
  ·exact List.mem_append_left _ h
  ·exact List.mem_append_right _ (ih hm)
section
variable {H:Type} {enc:TypeId × Value→H} {P:Program} {w:World} {base:Nat} {spare:Nat→Bool} {held:Bool}
end
end Go.Proofs.Ytkahelhoaihajaa.Gn
