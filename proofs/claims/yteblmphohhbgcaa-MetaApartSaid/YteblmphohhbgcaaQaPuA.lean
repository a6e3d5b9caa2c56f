/- Joined texts. -/
import Derived.Shelf.Bits.Mul64
import Derived.Shelf.Spec.BitsCarry
import Derived.Deep.QuietTactic
import Derived.BigQuiet
import Derived.Outline
import Derived.BigRegion
import Derived.RegionTactic
import Derived.ChangeAlike
import Derived.Deep.LoopGhost
import Derived.Deep.RegionHeld3
import Derived.Test.YteblmphohhbgcaaProg
import Derived.Test.YteblmphohhbgcaaQaGnA
import Derived.Deep.OwnRows
import Derived.Lib.SmallJoins
import Derived.Lib.AppendZeros
set_option linter.unusedVariables false

namespace Go.Proofs.Yteblmphohhbgcaa.Fd
end Go.Proofs.Yteblmphohhbgcaa.Fd
namespace Go.Proofs.Yteblmphohhbgcaa.Fd
namespace E5
end E5
namespace E5
end E5
end Go.Proofs.Yteblmphohhbgcaa.Fd
namespace Go.Proofs.Yteblmphohhbgcaa.Fd
def by_(n:Nat)(k:Nat):List Nat:=(List.range k).map fun i=>n / 256 ^ i%256
theorem by_lt(n k:Nat):∀x∈by_ n k,x < 256:=by
 intro x hx
 simp only[by_,List.mem_map] at hx
 obtain⟨i,-, rfl⟩:=hx
 exact Nat.mod_lt _ (by decide)
theorem by_length(n k:Nat):(by_ n k).length=k:=by simp[by_]
theorem by_succ(n k:Nat):by_ n (k+1)=(n%256) :: by_ (n / 256) k:=by
 unfold by_
 rw[List.range_succ_eq_map,List.map_cons,List.map_map]
 congr 1
 ·rw[Nat.pow_zero,Nat.div_one]
 ·apply List.map_congr_left
  intro i _
  show n / 256 ^ (i+1)%256=n / 256 / 256 ^ i%256
  rw[Nat.div_div_eq_div_mul,Nat.pow_succ,Nat.mul_comm (256 ^ i)]
end Go.Proofs.Yteblmphohhbgcaa.Fd
namespace Go.Proofs.Yteblmphohhbgcaa.Fd
namespace cg
end cg
end Go.Proofs.Yteblmphohhbgcaa.Fd
namespace Go.Proofs.Yteblmphohhbgcaa.Fd
end Go.Proofs.Yteblmphohhbgcaa.Fd
namespace Go.Proofs.Yteblmphohhbgcaa.Fd
end Go.Proofs.Yteblmphohhbgcaa.Fd
namespace Go.Proofs.Yteblmphohhbgcaa.Fd
end Go.Proofs.Yteblmphohhbgcaa.Fd
namespace Go.Proofs.Yteblmphohhbgcaa.Fd
open Go.RowKit Go.Proofs.Yteblmphohhbgcaa.Gn Go.Shelf
theorem or_add(a b n:Nat)(hb:b < 2 ^ n):a*2 ^ n ||| b=a*2 ^ n+b:=by
 rw[Nat.mul_comm];exact(Nat.two_pow_add_eq_or_of_lt hb a).symm
end Go.Proofs.Yteblmphohhbgcaa.Fd
namespace Go.Proofs.Yteblmphohhbgcaa.Fd
open Go.RowKit Go.Proofs.Yteblmphohhbgcaa.Gn Go.Deep
end Go.Proofs.Yteblmphohhbgcaa.Fd
namespace Go.Proofs.Yteblmphohhbgcaa.Fd
open Go.RowKit Go.Proofs.Yteblmphohhbgcaa.Gn Go.Deep
end Go.Proofs.Yteblmphohhbgcaa.Fd
namespace Go.Proofs.Yteblmphohhbgcaa.Fd
open Go.RowKit Go.Proofs.Yteblmphohhbgcaa.Gn Go.Deep
def z5:Array Value:=#[.int .u64 0,.int .u64 0,.int .u64 0,.int .u64 0,.int .u64 0]
end Go.Proofs.Yteblmphohhbgcaa.Fd
namespace Go.Proofs.Yteblmphohhbgcaa.Fd
open Go.RowKit Go.Proofs.Yteblmphohhbgcaa.Gn Go.Deep
def lay(L:List Nat)(k:Nat):List Nat:=L.take k ++ List.replicate (L.length - k) 0
theorem bl_set(l:List Nat)(k x:Nat):(bl l).toArray.setIfInBounds k (.int .u8 (x:Int))=(bl (l.set k x)).toArray:=by simp[bl,List.setIfInBounds_toArray,List.map_set]
end Go.Proofs.Yteblmphohhbgcaa.Fd
namespace Go.Proofs.Yteblmphohhbgcaa.Fd
open Go.RowKit Go.Proofs.Yteblmphohhbgcaa.Gn Go.Deep
end Go.Proofs.Yteblmphohhbgcaa.Fd
namespace Go.Proofs.Yteblmphohhbgcaa.Gn
open Go.RowKit Go.Deep
abbrev Rw:=Option Addr × Nat × Nat × List Nat
section
variable {H:Type} {enc:TypeId × Value→H} {P:Program} {w:World} {base:Nat} {spare:Nat→Bool} {held:Bool}
end
end Go.Proofs.Yteblmphohhbgcaa.Gn
namespace Go.Proofs.Yteblmphohhbgcaa.Gn
open Go.RowKit Go.Proofs.Yteblmphohhbgcaa.Fd Go.Deep
structure Pc (w:World) (r:Rw):Prop where
 len:r.2.1=r.2.2.2.length
 row:Sl w r.1 r.2.2.2.length (bl r.2.2.2)
 lt:∀x∈r.2.2.2,x < 256
 cap:r.2.2.2.length≤r.2.2.1
 nil:r.1=none→r.2.2.1=0
theorem Pc.below{w w':World}{r:Rw}(h:Pc w r)(hb:Below w.heap.size w w'):Pc w' r:=⟨h.len,h.row.below hb,h.lt,h.cap,h.nil⟩
end Go.Proofs.Yteblmphohhbgcaa.Gn
