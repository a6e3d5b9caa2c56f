/- Joined texts. -/
import Derived.Lib.AppendZeros
import Derived.Test.YtkahelhoaihajaaQnFaC
import Derived.Test.YtkahelhoaihajaaQnGnRows
set_option linter.unusedVariables false
namespace Go.Proofs.Ytkahelhoaihajaa.Gn
open Go.RowKit Go.Proofs.Ytkahelhoaihajaa.Fd Go.Deep
structure Pc (w:World) (r:Rw):Prop where
 len:r.2.1=r.2.2.2.length
 row:Sl w r.1 r.2.2.2.length (bl r.2.2.2)
 lt:∀x∈r.2.2.2,x < 256
 cap:r.2.2.2.length≤r.2.2.1
 nil:r.1=none→r.2.2.1=0
theorem Pc.below{w w':World}{r:Rw}(h:Pc w r)(hb:Below w.heap.size w w'):Pc w' r:=⟨h.len,h.row.below hb,h.lt,h.cap,h.nil⟩
end Go.Proofs.Ytkahelhoaihajaa.Gn
