/- Joined texts. -/
import Derived.Test.YtcnlmekjcffohaaDoorQoMkF
import Derived.OrdersHeld
import Derived.Test.YtcnlmekjcffohaaDoorQoGnA
import Derived.Test.YtcnlmekjcffohaaDoorQoGnCat
import Derived.Test.YtcnlmekjcffohaaDoorQoPuA
set_option linter.unusedVariables false
namespace Go.Proofs.YtcnlmekjcffohaaDoor.Mk
open Go.RowKit Go.Proofs.YtcnlmekjcffohaaDoor.Gn Go.Proofs.YtcnlmekjcffohaaDoor.Fd Go.Deep
def holdsB(l:List Nat)(n:Nat)(p:Int):Bool:=rightB l n && (decide (0≤p) && decide (p < (n:Int)))
theorem right_len{l:List Nat}{n:Nat}(h:rightB l n=true):l.length=(n+7) / 8:=by
 unfold rightB at h
 exact of_decide_eq_true (Bool.and_eq_true_iff.1 h).1
set_option maxRecDepth 100000 in
set_option maxHeartbeats 2000000 in
theorem holds_any{A:Option Addr}{n c:Nat}{l:List Nat}{w:World}(h:Pc w (A,l.length,c,l))(hn:n≤4096)(hl:l.length≤100000)(p:Int) :
  Calls Tryd.prog 53 #[.slice A l.length c,.int .i64 (n:Int),.int .i64 p] w fun e w'=>e=.returned (.bool (holdsB l n p))∧Below w.heap.size w w':=by
 have C:=Right_any h hn hl
 unfold holdsB
 clear h
 obtain⟨L,hL⟩:∃L,l.length=L:=⟨_,rfl⟩
 rw[hL] at C ⊢
 rcases hr:rightB l n with _|_
 ·rw[hr] at C
  have C:=Lib.hid C
  clear hL hr hl
  go_enter Tryd.func53,Tryd.ntmps53
  go_wp2_with (go_at_call 56;(with_reducible refine C.out.mono ?_);rintro e w1 ⟨rfl,b1⟩;have D1:=Lib.hid b1;clear b1)
  go_ret
  exact⟨rfl,D1.out⟩
 ·rw[hr] at C
  have C:=Lib.hid C
  clear hL hr hl
  by_cases h0:0≤p
  ·rw[show decide (0≤p)=true from decide_eq_true h0]
   go_enter Tryd.func53,Tryd.ntmps53
   go_wp2_with (go_at_call 56;(with_reducible refine C.out.mono ?_);rintro e w1 ⟨rfl,b1⟩;have D1:=Lib.hid b1;clear b1)
   go_ret
   exact⟨by first|rfl|simp,D1.out⟩
  ·rw[show decide (0≤p)=false from decide_eq_false h0]
   go_enter Tryd.func53,Tryd.ntmps53
   go_wp2_with (go_at_call 56;(with_reducible refine C.out.mono ?_);rintro e w1 ⟨rfl,b1⟩;have D1:=Lib.hid b1;clear b1)
   go_ret
   exact⟨by first|rfl|simp,D1.out⟩
end Go.Proofs.YtcnlmekjcffohaaDoor.Mk
namespace Go.Proofs.YtcnlmekjcffohaaDoor.Gn
open Go.RowKit Go.Deep
section
variable {P:Program} {ops:Array Oper} {Q:Exit→Act→World→Prop}
theorem wp_val{o:Oper}{a:Act}{w w':World}{K:Act→World→Prop}{v:Value}(h:(execOp a.eval o).run P w=.ok (.value v) w')(hK:K (a.put o.dst v) w'):o.wp P a w K Q:=by
 unfold Oper.wp;rw[h];exact hK
end
end Go.Proofs.YtcnlmekjcffohaaDoor.Gn
namespace Go.Proofs.YtcnlmekjcffohaaDoor.Gn
open Go.RowKit Go.Deep
section
variable {P:Program} {ops:Array Oper} {Q:Exit→Act→World→Prop} {rest:List Oper} {o:Oper} {a:Act} {w w':World}
theorem sq_new(w':World)(v:Value)(hgd:o.guard=none)(h:(execOp a.eval o).run P w=.ok (.value v) w')(hk:wpList P ops Q rest (a.put o.dst v) w'):wpList P ops Q (o :: rest) a w :=
 wpList_plain hgd fun K hK=>wp_val h (hK _ _ hk)
theorem sq_run(v:Value)(hgd:o.guard=none)(h:(execOp a.eval o).run P w=.ok (.value v) w)(hk:wpList P ops Q rest (a.put o.dst v) w):wpList P ops Q (o :: rest) a w:=sq_new w v hgd h hk
theorem sq_done(h:Q .normal a w):wpList P ops Q [] a w:=h
end
end Go.Proofs.YtcnlmekjcffohaaDoor.Gn
