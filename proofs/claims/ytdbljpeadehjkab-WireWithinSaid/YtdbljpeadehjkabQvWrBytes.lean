/- Joined texts. -/
import Derived.Test.YtdbljpeadehjkabQvWrTree
import Derived.Test.YtdbljpeadehjkabQvWrCount
set_option linter.unusedVariables false
namespace Go.Proofs.Ytdbljpeadehjkab.Wr
open Go.RowKit Go.Proofs.Ytdbljpeadehjkab.Gn Go.Proofs.Ytdbljpeadehjkab.Fd Go.Deep
mutual
def wb:Tv→List Nat
 |.mk k n r _ _ ks=>k.toNat :: (if k=1 then cb n else if k=2 then cb r.2.1 ++ r.2.2.2 else cb ks.length ++ wbs ks)
def wbs:List Tv→List Nat
 | []=>[]
 |t :: ts=>wb t ++ wbs ts
end
theorem below_one(u:World)(o:Obj):Below u.heap.size u (u.alloc o):=(Below.refl u.heap.size u).alloc (Nat.le_refl _) o
end Go.Proofs.Ytdbljpeadehjkab.Wr
