/- Joined texts. -/
import Derived.Test.YtkahelhoaihajaaQbWrReadB
set_option linter.unusedVariables false
namespace Go.Proofs.Ytkahelhoaihajaa.Wr
open Go.RowKit Go.Proofs.Ytkahelhoaihajaa.Gn Go.Proofs.Ytkahelhoaihajaa.Fd Go.Deep
theorem rcl_low{x:Nat}{t:List Nat}(h:x < 192):rcl (x :: t)=(x,1,0):=by simp[rcl,noC,szC,h]
theorem rcl_good{x y:Nat}{u:List Nat}(h:¬x < 192)(h2:¬199 < x)(h3:¬(y=0∨(x=192∧y < 192)))(h4:¬u.length+2≤x - 191):rcl (x :: y :: u)=(be ((y :: u).take (x - 191)),x - 190,0):=by
 simp only[rcl,noC,szC,if_neg h,if_neg h2,decide_eq_false h3]
 rw[if_neg (by decide),if_neg (by simp;omega),if_neg (by omega),List.drop_succ_cons,List.drop_zero,show x - 190 - 1=x - 191 by omega]
end Go.Proofs.Ytkahelhoaihajaa.Wr
