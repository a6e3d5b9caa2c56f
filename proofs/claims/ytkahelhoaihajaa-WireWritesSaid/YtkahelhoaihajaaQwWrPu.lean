/- Joined texts. -/
import Derived.Test.YtkahelhoaihajaaQwWrReadB
import Derived.Deep.LoopGhost
import Derived.Test.YtkahelhoaihajaaQwWrKnown
import Derived.Test.YtkahelhoaihajaaQwWrTread
import Derived.Test.YtkahelhoaihajaaQwWrNd
set_option linter.unusedVariables false
namespace Go.Proofs.Ytkahelhoaihajaa.Wr
open Go.RowKit Go.Proofs.Ytkahelhoaihajaa.Gn Go.Proofs.Ytkahelhoaihajaa.Fd Go.Deep
theorem wf_i64{x:Int}(h:(Lit.int .i64 x).wf) : -9223372036854775808≤x∧x≤9223372036854775807:=by
 simpa[Lit.wf,IntKind.min,IntKind.max,IntKind.signed,IntKind.bits] using h
theorem wf_u64{x:Int}(h:(Lit.int .u64 x).wf):0≤x∧x≤18446744073709551615:=by
 simpa[Lit.wf,IntKind.min,IntKind.max,IntKind.signed,IntKind.bits] using h
theorem bl_pc{w:World}{A:Option Addr}{n c:Nat}{l:List Nat}(h:BL w A n c l):Pc w (A,n,c,l):=by
 obtain⟨h1,h2,h3,h4,h5⟩:=h
 have e:l.length=n:=by have:=h1.1;rwa [bl_length] at this
 exact⟨e.symm,by rw[show((A,n,c,l):Rw).2.2.2.length=n from e];exact h1,h3,by rw[show((A,n,c,l):Rw).2.2.2.length=n from e];exact h5,h4⟩
end Go.Proofs.Ytkahelhoaihajaa.Wr
namespace Go.Proofs.Ytkahelhoaihajaa.Wr
open Go.RowKit Go.Proofs.Ytkahelhoaihajaa.Gn Go.Proofs.Ytkahelhoaihajaa.Fd Go.Deep
mutual
def smn:Nd→Prop
 |.mk _ n b ks=>n < 18446744073709551616∧b.length < 18446744073709551616∧ks.length < 18446744073709551616∧smns ks
def smns:List Nd→Prop
 | []=>True
 |t :: ts=>smn t∧smns ts
end
end Go.Proofs.Ytkahelhoaihajaa.Wr
