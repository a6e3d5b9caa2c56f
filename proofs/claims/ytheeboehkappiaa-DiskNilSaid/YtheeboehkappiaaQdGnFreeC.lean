/- Joined texts. -/
import Derived.Test.YtheeboehkappiaaQdGnFreeB
set_option linter.unusedVariables false
namespace Go.Proofs.Ytheeboehkappiaa.Gn
open Go.RowKit Go.Deep
section
variable {P:Program} {ops:Array Oper} {Q:Exit→Act→World→Prop}
theorem run_cell_op{op:Oper}{a:Act}{w:World}(ty:TypeId)(x:Operand)(ho:op.op=.load ty x)
  (ad:Addr) (hx:a.eval x=.pointer (some ad)) (v:Value) (hc:w.cell? ad=some v) (d:TypeDesc) (hu:P.underlying ty=some d) (hd:d.isRow=false):(execOp a.eval op).run P w=.ok (.value v) w:=by
 unfold execOp
 have hagg:(isAgg ty).run P w=.ok false w:=by
  unfold isAgg
  simp only[Sem.run_bind,run_underlying hu,Result.andThen_ok]
  cases d <;> first|rfl|cases hd
 simp[ho,hx,Instr.loadAt,Instr.sureAddr,loadVar,hagg,hc]
end
end Go.Proofs.Ytheeboehkappiaa.Gn
