/- Joined texts. -/
import Derived.Test.YtbgkdbjineennaaQkDkP
set_option linter.unusedVariables false
namespace Go.Proofs.Ytbgkdbjineennaa.Dk
theorem keep_flush(m:M):m.start.flush=(0,m.start.tick.settle):=M.flush_none rfl rfl
theorem keep_lose{n:M}(h:n.hd=[])(c:List Bool):(n.lose c).start.ss=n.ss∧(n.lose c).start.hd=[]:=by
 unfold M.lose
 split
 ·rw[h];exact⟨rfl,rfl⟩
 ·exact⟨rfl,h⟩
theorem keep_all(m:M)(c:List Bool):(((m.start.flush.2).lose c).start).ss=m.start.flush.2.ss∧(((m.start.flush.2).lose c).start).hd=[]:=by
 rw[keep_flush]
 exact keep_lose rfl c
theorem reach_in{m:M}(hu:m.up=true){p:Nat}(hp:p < m.ss.length):m.reach (p:Int)=0:=by
 unfold M.reach
 rw[if_pos hu,if_neg (by omega)]
theorem span_in{m:M}{a n:Int}(h0:0≤a)(h1:a≤m.ss.length)(h2:n≤((m.ss.length:Int) - a)*64):m.span a n=0:=by
 unfold M.span
 rw[if_neg (by omega),if_neg (by omega)]
theorem stroke_err(m:M):m.stroke.1=0∨m.stroke.1=60:=by
 unfold M.stroke
 split <;> simp
end Go.Proofs.Ytbgkdbjineennaa.Dk
