/- Joined texts. -/
import Derived.Shelf.Bits.Mul64
import Derived.Shelf.Spec.BitsCarry
import Derived.Deep.QuietTactic
import Derived.BigQuiet
import Derived.Outline
import Derived.BigRegion
import Derived.RegionTactic
import Derived.ChangeAlike
import Derived.Deep.LoopGhost
import Derived.Deep.RegionHeld3
import Derived.Test.YtnnfpmebopgogaaDoorProg
import Derived.Test.YtnnfpmebopgogaaDoorQkGnA
import Derived.Deep.OwnRows
import Derived.Lib.SmallJoins
set_option linter.unusedVariables false

namespace Go.Proofs.YtnnfpmebopgogaaDoor.Fd
end Go.Proofs.YtnnfpmebopgogaaDoor.Fd
namespace Go.Proofs.YtnnfpmebopgogaaDoor.Fd
namespace E5
end E5
namespace E5
end E5
end Go.Proofs.YtnnfpmebopgogaaDoor.Fd
namespace Go.Proofs.YtnnfpmebopgogaaDoor.Fd
def by_(n:Nat)(k:Nat):List Nat:=(List.range k).map fun i=>n / 256 ^ i%256
theorem by_lt(n k:Nat):∀x∈by_ n k,x < 256:=by
 intro x hx
 simp only[by_,List.mem_map] at hx
 obtain⟨i,-, rfl⟩:=hx
 exact Nat.mod_lt _ (by decide)
theorem by_length(n k:Nat):(by_ n k).length=k:=by simp[by_]
theorem by_succ(n k:Nat):by_ n (k+1)=(n%256) :: by_ (n / 256) k:=by
 unfold by_
 rw[List.range_succ_eq_map,List.map_cons,List.map_map]
 congr 1
 ·rw[Nat.pow_zero,Nat.div_one]
 ·apply List.map_congr_left
  intro i _
  show n / 256 ^ (i+1)%256=n / 256 / 256 ^ i%256
  rw[Nat.div_div_eq_div_mul,Nat.pow_succ,Nat.mul_comm (256 ^ i)]
end Go.Proofs.YtnnfpmebopgogaaDoor.Fd
namespace Go.Proofs.YtnnfpmebopgogaaDoor.Fd
namespace cg
end cg
end Go.Proofs.YtnnfpmebopgogaaDoor.Fd
namespace Go.Proofs.YtnnfpmebopgogaaDoor.Fd
end Go.Proofs.YtnnfpmebopgogaaDoor.Fd
namespace Go.Proofs.YtnnfpmebopgogaaDoor.Fd
end Go.Proofs.YtnnfpmebopgogaaDoor.Fd
namespace Go.Proofs.YtnnfpmebopgogaaDoor.Fd
end Go.Proofs.YtnnfpmebopgogaaDoor.Fd
namespace Go.Proofs.YtnnfpmebopgogaaDoor.Fd
open Go.RowKit Go.Proofs.YtnnfpmebopgogaaDoor.Gn Go.Shelf
end Go.Proofs.YtnnfpmebopgogaaDoor.Fd
namespace Go.Proofs.YtnnfpmebopgogaaDoor.Fd
open Go.RowKit Go.Proofs.YtnnfpmebopgogaaDoor.Gn Go.Deep
def nl(l:List Nat):List Value:=l.map fun(x:Nat)=>Value.int .u64 (x:Int)
end Go.Proofs.YtnnfpmebopgogaaDoor.Fd
namespace Go.Proofs.YtnnfpmebopgogaaDoor.Fd
open Go.RowKit Go.Proofs.YtnnfpmebopgogaaDoor.Gn Go.Deep
end Go.Proofs.YtnnfpmebopgogaaDoor.Fd
namespace Go.Proofs.YtnnfpmebopgogaaDoor.Fd
open Go.RowKit Go.Proofs.YtnnfpmebopgogaaDoor.Gn Go.Deep
end Go.Proofs.YtnnfpmebopgogaaDoor.Fd
namespace Go.Proofs.YtnnfpmebopgogaaDoor.Fd
open Go.RowKit Go.Proofs.YtnnfpmebopgogaaDoor.Gn Go.Deep
theorem infob:(Tryd.prog.info? 5).map (fun i=>(i.zero,i.size,i.bytes))=some (some (.int .u8 0),1,8 / 8):=by kernel_rfl
theorem bl_set(l:List Nat)(k x:Nat):(bl l).toArray.setIfInBounds k (.int .u8 (x:Int))=(bl (l.set k x)).toArray:=by simp[bl,List.setIfInBounds_toArray,List.map_set]
end Go.Proofs.YtnnfpmebopgogaaDoor.Fd
namespace Go.Proofs.YtnnfpmebopgogaaDoor.Fd
open Go.RowKit Go.Proofs.YtnnfpmebopgogaaDoor.Gn Go.Deep
end Go.Proofs.YtnnfpmebopgogaaDoor.Fd
namespace Go.Proofs.YtnnfpmebopgogaaDoor.Gn
open Go.RowKit Go.Deep
abbrev Rw:=Option Addr × Nat × Nat × List Nat
def rwv(r:Rw):Value:=.slice r.1 r.2.1 r.2.2.1
def LL(w:World)(a:Option Addr)(len:Nat)(rows:List Rw):Prop :=
 Sl w a len (rows.map rwv)∧∀r∈rows,BL w r.1 r.2.1 r.2.2.1 r.2.2.2∧r.2.1≤140737488351232
theorem weights_mem{H:Type}{P:Program}{e:TypeId}{x:Nat}{d:DataW H}(h:x∈d.weights P e):∀(l:List (DataW H)),d∈l→x∈DataW.weightsAll P e l:=by
 intro l
 induction l with
 |nil=>intro h;cases h
 |cons y l ih =>
  intro hm
  rw[DataW.weightsAll]
  rcases List.mem_cons.1 hm with rfl|hm
  ·exact List.mem_append_left _ h
  ·exact List.mem_append_right _ (ih hm)
section
variable {H:Type} {enc:TypeId × Value→H} {P:Program} {w:World} {base:Nat} {spare:Nat→Bool} {held:Bool}
end
end Go.Proofs.YtnnfpmebopgogaaDoor.Gn
