/- Joined texts. -/
import Derived.Test.YtheeboehkappiaaQdGnFree
set_option linter.unusedVariables false
namespace Go.Proofs.Ytheeboehkappiaa.Gn
open Go.RowKit Go.Deep
section
variable {P:Program} {ops:Array Oper} {Q:Exit→Act→World→Prop}
theorem wp_val{o:Oper}{a:Act}{w w':World}{K:Act→World→Prop}{v:Value}(h:(execOp a.eval o).run P w=.ok (.value v) w')(hK:K (a.put o.dst v) w'):o.wp P a w K Q:=by
 unfold Oper.wp;rw[h];exact hK
theorem wp_skip{o:Oper}{a:Act}{w w':World}{K:Act→World→Prop}(h:(execOp a.eval o).run P w=.ok .skip w')(hK:K (a.put o.dst undef) w'):o.wp P a w K Q:=by
 unfold Oper.wp;rw[h];exact hK
theorem wp_enter{o:Oper}{a:Act}{w w':World}{K:Act→World→Prop}{f:FuncId}{args:Array Value}(h:(execOp a.eval o).run P w=.ok (.enter f args) w')
  (hc:Calls P f args w' fun e w''=>∃v,e=.returned v∧K (a.put o.dst v) w''):o.wp P a w K Q:=by
 unfold Oper.wp;rw[h]
 exact Calls.mono hc (by rintro e w'' ⟨v,rfl,hk⟩;exact hk)
theorem Each.nil{i:Nat}{p:Nat→Oper→Prop}:Each [] i p:=trivial
theorem Each.cons{i:Nat}{o:Oper}{r:List Oper}{p:Nat→Oper→Prop}(h:p i o)(hr:Each r (i+1) p):Each (o :: r) i p:=⟨h,hr⟩
end
end Go.Proofs.Ytheeboehkappiaa.Gn
