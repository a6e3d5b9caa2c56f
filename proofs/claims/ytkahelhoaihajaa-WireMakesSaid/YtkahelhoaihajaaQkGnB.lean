/- Joined texts. -/
import Derived.OrdersHeld
import Derived.Test.YtkahelhoaihajaaQkGnA
import Derived.Test.YtkahelhoaihajaaQkGnRows
import Derived.Test.YtkahelhoaihajaaQkFaA
set_option linter.unusedVariables false
namespace Go.Proofs.Ytkahelhoaihajaa.Gn
open Go.RowKit Go.Deep
section
variable {P:Program} {ops:Array Oper} {Q:Exit→Act→World→Prop} {md:Region.Mode}
end
end Go.Proofs.Ytkahelhoaihajaa.Gn
namespace Go.Proofs.Ytkahelhoaihajaa.Gn
open Go.RowKit Go.Deep
section
variable {P:Program} {ops:Array Oper} {Q:Exit→Act→World→Prop}
theorem wp_val{o:Oper}{a:Act}{w w':World}{K:Act→World→Prop}{v:Value}(h:(execOp a.eval o).run P w=.ok (.value v) w')(hK:K (a.put o.dst v) w'):o.wp P a w K Q:=by
 unfold Oper.wp;rw[h];exact hK
end
end Go.Proofs.Ytkahelhoaihajaa.Gn
namespace Go.Proofs.Ytkahelhoaihajaa.Gn
open Go.RowKit Go.Deep
section
variable {P:Program} {ops:Array Oper} {Q:Exit→Act→World→Prop}
end
end Go.Proofs.Ytkahelhoaihajaa.Gn
namespace Go.Proofs.Ytkahelhoaihajaa.Gn
open Go.RowKit Go.Deep
section
variable {P:Program}
end
section
variable {P:Program} {c:Code} {Q:Exit→Act→World→Prop} {a:Act}
end
end Go.Proofs.Ytkahelhoaihajaa.Gn
namespace Go.Proofs.Ytkahelhoaihajaa.Gn
open Go.RowKit Go.Deep
section
variable {P:Program} {ops:Array Oper}
section
end
end
end Go.Proofs.Ytkahelhoaihajaa.Gn
namespace Go.Proofs.Ytkahelhoaihajaa.Gn
open Go.RowKit Go.Deep
section
variable {P:Program} {ops:Array Oper} {Q:Exit→Act→World→Prop} {rest:List Oper} {o:Oper} {a:Act} {w w':World}
theorem sq_new(w':World)(v:Value)(hgd:o.guard=none)(h:(execOp a.eval o).run P w=.ok (.value v) w')(hk:wpList P ops Q rest (a.put o.dst v) w'):wpList P ops Q (o :: rest) a w :=
 wpList_plain hgd fun K hK=>wp_val h (hK _ _ hk)
theorem sq_run(v:Value)(hgd:o.guard=none)(h:(execOp a.eval o).run P w=.ok (.value v) w)(hk:wpList P ops Q rest (a.put o.dst v) w):wpList P ops Q (o :: rest) a w:=sq_new w v hgd h hk
theorem sq_done(h:Q .normal a w):wpList P ops Q [] a w:=h
end
end Go.Proofs.Ytkahelhoaihajaa.Gn
