/- Joined texts. -/
import Derived.Test.YtbgkdbjineennaaQcDkP
set_option linter.unusedVariables false
namespace Go.Proofs.Ytbgkdbjineennaa.Dk
theorem reach_in{m:M}(hu:m.up=true){p:Nat}(hp:p < m.ss.length):m.reach (p:Int)=0:=by
 unfold M.reach
 rw[if_pos hu,if_neg (by omega)]
theorem span_in{m:M}{a n:Int}(h0:0≤a)(h1:a≤m.ss.length)(h2:n≤((m.ss.length:Int) - a)*64):m.span a n=0:=by
 unfold M.span
 rw[if_neg (by omega),if_neg (by omega)]
theorem stroke_err(m:M):m.stroke.1=0∨m.stroke.1=60:=by
 unfold M.stroke
 split <;> simp
end Go.Proofs.Ytbgkdbjineennaa.Dk
