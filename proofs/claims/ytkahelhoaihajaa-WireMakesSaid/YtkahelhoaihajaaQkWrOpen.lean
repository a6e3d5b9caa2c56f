/- Joined texts. -/
import Derived.OpenShut
import Derived.WideShapes
import Derived.ChangeArms
import Derived.Test.YtkahelhoaihajaaQkWrPu
set_option linter.unusedVariables false
namespace Go.Proofs.Ytkahelhoaihajaa.Wr
open Go.RowKit Go.Proofs.Ytkahelhoaihajaa.Gn Go.Proofs.Ytkahelhoaihajaa.Fd Go.Deep Go.ChangeShapes Go.WideShapes
theorem slice_in{P:Program}{w:World}{r:Reach}{b0:Nat}{t e:TypeId}{A:Option Addr}{n c:Nat}(ht:P.underlying t=some (.slice e))(h:Value.okWide P w r b0 t (.slice A n c)):∀ad,A=some ad→ad.block < w.heap.size:=by
 intro ad e
 subst e
 simp only[Value.okWide,ht,Cell.okWide,Cell.ok] at h
 obtain⟨-, -, -, -, row,cells,hs,-⟩:=h
 rcases Nat.lt_or_ge ad.block w.heap.size with h1|h1
 ·exact h1
 ·unfold World.shape? at hs
  rw[Array.getElem?_eq_none h1] at hs
  cases hs
theorem cellsI:Try.prog.cellsOf 3=1:=by kernel_rfl
end Go.Proofs.Ytkahelhoaihajaa.Wr
