/- Joined texts. -/
import Derived.Test.YtkahelhoaihajaaQnWrTree
import Derived.Test.YtkahelhoaihajaaQnWrCount
set_option linter.unusedVariables false
namespace Go.Proofs.Ytkahelhoaihajaa.Wr
open Go.RowKit Go.Proofs.Ytkahelhoaihajaa.Gn Go.Proofs.Ytkahelhoaihajaa.Fd Go.Deep
mutual
def wb:Tv→List Nat
 |.mk k n r _ _ ks=>k.toNat :: (if k=1 then cb n else if k=2 then cb r.2.1 ++ r.2.2.2 else cb ks.length ++ wbs ks)
def wbs:List Tv→List Nat
 | []=>[]
 |t :: ts=>wb t ++ wbs ts
end
theorem below_one(u:World)(o:Obj):Below u.heap.size u (u.alloc o):=(Below.refl u.heap.size u).alloc (Nat.le_refl _) o
end Go.Proofs.Ytkahelhoaihajaa.Wr
