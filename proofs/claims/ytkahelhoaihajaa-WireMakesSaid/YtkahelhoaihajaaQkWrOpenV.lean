/- Joined texts. -/
import Derived.ProofKit
import Derived.OpenShut
import Derived.ChangeOld
import Derived.Handed
import Derived.Test.YtkahelhoaihajaaQkWrOpenN
set_option linter.unusedVariables false
namespace Go.Proofs.Ytkahelhoaihajaa.Wr
open Go.RowKit Go.Proofs.Ytkahelhoaihajaa.Gn Go.Proofs.Ytkahelhoaihajaa.Fd Go.Deep Go.ChangeShapes Go.WideShapes
set_option maxRecDepth 100000 in
theorem node_val{w:World}{r:Reach}{b0:Nat}{v:Value}{t:Tv}(hv:Value.okWide Try.prog w r b0 26 v)(h:v.cells.toList=t.row):v=t.val:=by
 have hv':∃cs,v=.agg cs:=by
  have h:=hv
  unfold Value.okWide at h
  rw[Try.underlying26] at h
  obtain⟨cs,rfl,-⟩:=h
  exact⟨cs,rfl⟩
 obtain⟨cs,rfl⟩:=hv'
 have h2:cs.toList=t.row:=by simpa[Value.cells] using h
 show Value.agg cs=.agg t.row.toArray
 rw[←h2]
set_option maxRecDepth 100000 in
theorem handed6{H:Type}{a:Assume}{C:Checked}{os:Os}{f:FuncId}{s:ChangeSpec}{enc:TypeId × Value→H}{fn:Func}{conds:List PathCond}{apart:Bool}{Post:World→Array Value→Value→World→Prop}
  (h:ReturnsInHanded a C os f .any (fun w args=>(s.pre enc C.prog fn conds apart w args∧True)∧sizedMet enc C.prog fn (OpenSpec.ofChange s) apart w args) Post):ReturnsInHanded a C os f .any (s.pre6 enc C.prog fn conds apart) Post:=by
 simp only[and_true] at h
 exact h
set_option maxRecDepth 100000 in
theorem witness_true{H:Type}{a:Assume}{C:Checked}{os:Os}{f:FuncId}{s:ChangeSpec}{enc:TypeId × Value→H}{fn:Func}{conds:List PathCond}{apart:Bool}
  (h:∃(w:World) (tape:Tape) (i:Input),w.os=os∧(w.forCall tape i).Shaped C.prog∧i.vars=[]∧Input.okWide C.prog (w.forCall tape i) .any w.heap.size f i∧s.pre6 enc C.prog fn conds apart (w.forCall tape i).memory i.args∧a.holds C.prog (lone (Frame.enter C.prog f i.args .normal) [] (w.forCall tape i))) :
  ∃(w:World) (tape:Tape) (i:Input),w.os=os∧(w.forCall tape i).Shaped C.prog∧i.vars=[]∧Input.okWide C.prog (w.forCall tape i) .any w.heap.size f i∧((s.pre enc C.prog fn conds apart (w.forCall tape i).memory i.args∧True)∧sizedMet enc C.prog fn (OpenSpec.ofChange s) apart (w.forCall tape i).memory i.args)∧a.holds C.prog (lone (Frame.enter C.prog f i.args .normal) [] (w.forCall tape i)) :=
 let⟨w,t,i,h1,h2,h3,h4,h5,h6⟩:=h
 ⟨w,t,i,h1,h2,h3,h4,⟨⟨h5.1,trivial⟩,h5.2⟩,h6⟩
end Go.Proofs.Ytkahelhoaihajaa.Wr
