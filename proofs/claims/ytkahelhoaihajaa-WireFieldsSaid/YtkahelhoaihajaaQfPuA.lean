/- Joined texts. -/
import Derived.Shelf.Bits.Mul64
import Derived.Shelf.Spec.BitsCarry
import Derived.Deep.QuietTactic
import Derived.BigQuiet
import Derived.Outline
import Derived.BigRegion
import Derived.RegionTactic
import Derived.ChangeAlike
import Derived.Deep.LoopGhost
import Derived.Deep.RegionHeld3
import Derived.Test.YtkahelhoaihajaaProg
import Derived.Test.YtkahelhoaihajaaQfGnA
import Derived.Deep.OwnRows
import Derived.Lib.SmallJoins
import Derived.Lib.AppendZeros
import Derived.OrdersHeld
set_option linter.unusedVariables false

namespace Go.Proofs.Ytkahelhoaihajaa.Fd
end Go.Proofs.Ytkahelhoaihajaa.Fd
namespace Go.Proofs.Ytkahelhoaihajaa.Fd
namespace E5
end E5
namespace E5
end E5
end Go.Proofs.Ytkahelhoaihajaa.Fd
namespace Go.Proofs.Ytkahelhoaihajaa.Fd
def by_(n:Nat)(k:Nat):List Nat:=(List.range k).map fun i=>n / 256 ^ i%256
theorem by_lt(n k:Nat):∀x∈by_ n k,x < 256:=by
 intro x hx
 simp only[by_,List.mem_map] at hx
 obtain⟨i,-, rfl⟩:=hx
 exact Nat.mod_lt _ (by decide)
theorem by_length(n k:Nat):(by_ n k).length=k:=by simp[by_]
theorem by_succ(n k:Nat):by_ n (k+1)=(n%256) :: by_ (n / 256) k:=by
 unfold by_
 rw[List.range_succ_eq_map,List.map_cons,List.map_map]
 congr 1
 ·rw[Nat.pow_zero,Nat.div_one]
 ·apply List.map_congr_left
  intro i _
  show n / 256 ^ (i+1)%256=n / 256 / 256 ^ i%256
  rw[Nat.div_div_eq_div_mul,Nat.pow_succ,Nat.mul_comm (256 ^ i)]
end Go.Proofs.Ytkahelhoaihajaa.Fd
namespace Go.Proofs.Ytkahelhoaihajaa.Fd
namespace cg
end cg
end Go.Proofs.Ytkahelhoaihajaa.Fd
namespace Go.Proofs.Ytkahelhoaihajaa.Fd
end Go.Proofs.Ytkahelhoaihajaa.Fd
namespace Go.Proofs.Ytkahelhoaihajaa.Fd
end Go.Proofs.Ytkahelhoaihajaa.Fd
namespace Go.Proofs.Ytkahelhoaihajaa.Fd
end Go.Proofs.Ytkahelhoaihajaa.Fd
namespace Go.Proofs.Ytkahelhoaihajaa.Fd
open Go.RowKit Go.Proofs.Ytkahelhoaihajaa.Gn Go.Shelf
theorem or_add(a b n:Nat)(hb:b < 2 ^ n):a*2 ^ n ||| b=a*2 ^ n+b:=by
 rw[Nat.mul_comm];exact(Nat.two_pow_add_eq_or_of_lt hb a).symm
end Go.Proofs.Ytkahelhoaihajaa.Fd
namespace Go.Proofs.Ytkahelhoaihajaa.Fd
open Go.RowKit Go.Proofs.Ytkahelhoaihajaa.Gn Go.Deep
end Go.Proofs.Ytkahelhoaihajaa.Fd
namespace Go.Proofs.Ytkahelhoaihajaa.Fd
open Go.RowKit Go.Proofs.Ytkahelhoaihajaa.Gn Go.Deep
end Go.Proofs.Ytkahelhoaihajaa.Fd
namespace Go.Proofs.Ytkahelhoaihajaa.Fd
open Go.RowKit Go.Proofs.Ytkahelhoaihajaa.Gn Go.Deep
end Go.Proofs.Ytkahelhoaihajaa.Fd
namespace Go.Proofs.Ytkahelhoaihajaa.Fd
open Go.RowKit Go.Proofs.Ytkahelhoaihajaa.Gn Go.Deep
def lay(L:List Nat)(k:Nat):List Nat:=L.take k ++ List.replicate (L.length - k) 0
theorem bl_set(l:List Nat)(k x:Nat):(bl l).toArray.setIfInBounds k (.int .u8 (x:Int))=(bl (l.set k x)).toArray:=by simp[bl,List.setIfInBounds_toArray,List.map_set]
end Go.Proofs.Ytkahelhoaihajaa.Fd
namespace Go.Proofs.Ytkahelhoaihajaa.Fd
open Go.RowKit Go.Proofs.Ytkahelhoaihajaa.Gn Go.Deep
end Go.Proofs.Ytkahelhoaihajaa.Fd
namespace Go.Proofs.Ytkahelhoaihajaa.Gn
open Go.RowKit Go.Deep
abbrev Rw:=Option Addr × Nat × Nat × List Nat
theorem weights_mem{H:Type}{P:Program}{e:TypeId}{x:Nat}{d:DataW H}(h:x∈d.weights P e):∀(l:List (DataW H)),d∈l→x∈DataW.weightsAll P e l:=by
 intro l
 induction l with
 |nil=>intro h;cases h
 |cons y l ih =>
  intro hm
  rw[DataW.weightsAll]
  rcases List.mem_cons.1 hm with rfl|hm
  ·exact List.mem_append_left _ h
  ·exact List.mem_append_right _ (ih hm)
section
variable {H:Type} {enc:TypeId × Value→H} {P:Program} {w:World} {base:Nat} {spare:Nat→Bool} {held:Bool}
end
end Go.Proofs.Ytkahelhoaihajaa.Gn
namespace Go.Proofs.Ytkahelhoaihajaa.Gn
open Go.RowKit Go.Proofs.Ytkahelhoaihajaa.Fd Go.Deep
structure Pc (w:World) (r:Rw):Prop where
 len:r.2.1=r.2.2.2.length
 row:Sl w r.1 r.2.2.2.length (bl r.2.2.2)
 lt:∀x∈r.2.2.2,x < 256
 cap:r.2.2.2.length≤r.2.2.1
 nil:r.1=none→r.2.2.1=0
theorem Pc.below{w w':World}{r:Rw}(h:Pc w r)(hb:Below w.heap.size w w'):Pc w' r:=⟨h.len,h.row.below hb,h.lt,h.cap,h.nil⟩
end Go.Proofs.Ytkahelhoaihajaa.Gn
namespace Go.Proofs.Ytkahelhoaihajaa.Gn
open Go.RowKit Go.Deep
section
variable {P:Program} {ops:Array Oper} {Q:Exit→Act→World→Prop} {md:Region.Mode}
end
end Go.Proofs.Ytkahelhoaihajaa.Gn
namespace Go.Proofs.Ytkahelhoaihajaa.Gn
open Go.RowKit Go.Deep
section
variable {P:Program} {ops:Array Oper} {Q:Exit→Act→World→Prop}
theorem wp_val{o:Oper}{a:Act}{w w':World}{K:Act→World→Prop}{v:Value}(h:(execOp a.eval o).run P w=.ok (.value v) w')(hK:K (a.put o.dst v) w'):o.wp P a w K Q:=by
 unfold Oper.wp;rw[h];exact hK
end
end Go.Proofs.Ytkahelhoaihajaa.Gn
namespace Go.Proofs.Ytkahelhoaihajaa.Gn
open Go.RowKit Go.Deep
section
variable {P:Program} {ops:Array Oper} {Q:Exit→Act→World→Prop}
end
end Go.Proofs.Ytkahelhoaihajaa.Gn
namespace Go.Proofs.Ytkahelhoaihajaa.Gn
open Go.RowKit Go.Deep
section
variable {P:Program}
end
section
variable {P:Program} {c:Code} {Q:Exit→Act→World→Prop} {a:Act}
end
end Go.Proofs.Ytkahelhoaihajaa.Gn
namespace Go.Proofs.Ytkahelhoaihajaa.Gn
open Go.RowKit Go.Deep
section
variable {P:Program} {ops:Array Oper}
section
end
end
end Go.Proofs.Ytkahelhoaihajaa.Gn
namespace Go.Proofs.Ytkahelhoaihajaa.Gn
open Go.RowKit Go.Deep
section
variable {P:Program} {ops:Array Oper} {Q:Exit→Act→World→Prop} {rest:List Oper} {o:Oper} {a:Act} {w w':World}
theorem sq_new(w':World)(v:Value)(hgd:o.guard=none)(h:(execOp a.eval o).run P w=.ok (.value v) w')(hk:wpList P ops Q rest (a.put o.dst v) w'):wpList P ops Q (o :: rest) a w :=
 wpList_plain hgd fun K hK=>wp_val h (hK _ _ hk)
theorem sq_run(v:Value)(hgd:o.guard=none)(h:(execOp a.eval o).run P w=.ok (.value v) w)(hk:wpList P ops Q rest (a.put o.dst v) w):wpList P ops Q (o :: rest) a w:=sq_new w v hgd h hk
theorem sq_done(h:Q .normal a w):wpList P ops Q [] a w:=h
end
end Go.Proofs.Ytkahelhoaihajaa.Gn
