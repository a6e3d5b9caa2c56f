/- Joined texts. -/
import Derived.RangeFuncOwn
import Derived.RangeFuncCalls
import Derived.OrdersIn
import Derived.ControlIn
import Derived.OwnWalk
import Derived.Test.YtbgkdbjineennaaQcGnB
import Derived.Shelf.Bits.Mul64
import Derived.Shelf.Spec.BitsCarry
import Derived.Deep.QuietTactic
import Derived.BigQuiet
import Derived.Outline
import Derived.BigRegion
import Derived.RegionTactic
import Derived.ChangeAlike
import Derived.Deep.LoopGhost
import Derived.Deep.RegionHeld3
import Derived.Test.YtbgkdbjineennaaProg
import Derived.Test.YtbgkdbjineennaaQcGnA
import Derived.Deep.OwnRows
import Derived.Lib.SmallJoins
import Derived.Lib.AppendZeros
set_option linter.unusedVariables false
namespace Go.Proofs.Ytbgkdbjineennaa.Gn
open Go.RowKit Go.Deep
section
variable {P:Program}
theorem want{o:Oper}(h:o.guard=none)(y:Nat→Option Bool){p q:Prop}(hp:p):if Region.wanted o y=true then p else q:=by
 rw[if_pos (by unfold Region.wanted;rw[h])];exact hp
section
variable {ops:Array Oper} {a:Act} {T:Nat→Value→World→Prop} {J:(Nat→Bool)→(Nat→Value)→World→Prop} {Chg:World→World→Prop} {i:Nat} {o:Oper}
structure OX (P:Program) (ops:Array Oper) (a:Act) (T:Nat→Value→World→Prop) (J:(Nat→Bool)→(Nat→Value)→World→Prop) (Chg:World→World→Prop) (i:Nat) (o:Oper):Prop where
 out:Owes P ops a T J Chg i o
theorem each_ox{l:List Oper}:∀ {k:Nat},Each l k (OX P ops a T J Chg)→Each l k (Owes P ops a T J Chg):=by
 induction l with
 |nil=>intro k _;trivial
 |cons o l ih=>intro k h;exact⟨h.1.out,ih h.2⟩
end
end
end Go.Proofs.Ytbgkdbjineennaa.Gn

namespace Go.Proofs.Ytbgkdbjineennaa.Fd
end Go.Proofs.Ytbgkdbjineennaa.Fd
namespace Go.Proofs.Ytbgkdbjineennaa.Fd
structure E5 where
 a:Nat
 b:Nat
 c:Nat
 d:Nat
 e:Nat
namespace E5
def sum(x:E5):Nat:=x.a+x.b+x.c+x.d+x.e
end E5
namespace E5
end E5
end Go.Proofs.Ytbgkdbjineennaa.Fd
namespace Go.Proofs.Ytbgkdbjineennaa.Fd
end Go.Proofs.Ytbgkdbjineennaa.Fd
namespace Go.Proofs.Ytbgkdbjineennaa.Fd
namespace cg
end cg
end Go.Proofs.Ytbgkdbjineennaa.Fd
namespace Go.Proofs.Ytbgkdbjineennaa.Fd
end Go.Proofs.Ytbgkdbjineennaa.Fd
namespace Go.Proofs.Ytbgkdbjineennaa.Fd
end Go.Proofs.Ytbgkdbjineennaa.Fd
namespace Go.Proofs.Ytbgkdbjineennaa.Fd
end Go.Proofs.Ytbgkdbjineennaa.Fd
namespace Go.Proofs.Ytbgkdbjineennaa.Fd
open Go.RowKit Go.Proofs.Ytbgkdbjineennaa.Gn Go.Shelf
def wv(t:Nat):Value:=.agg #[.int .u64 ((t / 18446744073709551616:Nat):Int),.int .u64 ((t%18446744073709551616:Nat):Int)]
end Go.Proofs.Ytbgkdbjineennaa.Fd
namespace Go.Proofs.Ytbgkdbjineennaa.Fd
open Go.RowKit Go.Proofs.Ytbgkdbjineennaa.Gn Go.Deep
end Go.Proofs.Ytbgkdbjineennaa.Fd
namespace Go.Proofs.Ytbgkdbjineennaa.Fd
open Go.RowKit Go.Proofs.Ytbgkdbjineennaa.Gn Go.Deep
end Go.Proofs.Ytbgkdbjineennaa.Fd
namespace Go.Proofs.Ytbgkdbjineennaa.Fd
open Go.RowKit Go.Proofs.Ytbgkdbjineennaa.Gn Go.Deep
end Go.Proofs.Ytbgkdbjineennaa.Fd
namespace Go.Proofs.Ytbgkdbjineennaa.Fd
open Go.RowKit Go.Proofs.Ytbgkdbjineennaa.Gn Go.Deep
theorem infob:(Try.prog.info? 5).map (fun i=>(i.zero,i.size,i.bytes))=some (some (.int .u8 0),1,8 / 8):=by kernel_rfl
end Go.Proofs.Ytbgkdbjineennaa.Fd
namespace Go.Proofs.Ytbgkdbjineennaa.Fd
open Go.RowKit Go.Proofs.Ytbgkdbjineennaa.Gn Go.Deep
end Go.Proofs.Ytbgkdbjineennaa.Fd
namespace Go.Proofs.Ytbgkdbjineennaa.Gn
open Go.RowKit Go.Deep
theorem weights_mem{H:Type}{P:Program}{e:TypeId}{x:Nat}{d:DataW H}(h:x∈d.weights P e):∀(l:List (DataW H)),d∈l→x∈DataW.weightsAll P e l:=by
 intro l
 induction l with
 |nil=>intro h;cases h
 |cons y l ih =>
  intro hm
  rw[DataW.weightsAll]
  rcases List.mem_cons.1 hm with rfl|hm
  ·exact List.mem_append_left _ h
  ·exact List.mem_append_right _ (ih hm)
section
variable {H:Type} {enc:TypeId × Value→H} {P:Program} {w:World} {base:Nat} {spare:Nat→Bool} {held:Bool}
end
end Go.Proofs.Ytbgkdbjineennaa.Gn
namespace Go.Proofs.Ytbgkdbjineennaa.Gn
open Go.RowKit Go.Deep
theorem foldl_set_spl:∀(vs:List Value) (k off:Nat) (cs:Array Value),(vs.zipIdx k).foldl (fun cs (p:Value × Nat)=>cs.setIfInBounds (off+p.2) p.1) cs=spl cs (off+k) vs:=by
 intro vs
 induction vs with
 |nil=>intro k off cs;rfl
 |cons v r ih =>
  intro k off cs
  rw[List.zipIdx_cons,List.foldl_cons,ih,spl]
  rfl
theorem fold_arr(vs:Array Value)(off:Nat)(cs:Array Value):vs.zipIdx.foldl (fun cs (p:Value × Nat)=>cs.setIfInBounds (off+p.2) p.1) cs=spl cs off vs.toList:=by
 rw[←Array.foldl_toList,Array.toList_zipIdx]
 exact foldl_set_spl vs.toList 0 off cs
section
variable {P:Program} {ops:Array Oper} {Q:Exit→Act→World→Prop} {rest:List Oper} {o:Oper} {a:Act} {w w':World}
theorem sq_new(w':World)(v:Value)(hgd:o.guard=none)(h:(execOp a.eval o).run P w=.ok (.value v) w')(hk:wpList P ops Q rest (a.put o.dst v) w'):wpList P ops Q (o :: rest) a w :=
 wpList_plain hgd fun K hK=>wp_val h (hK _ _ hk)
theorem sq_run(v:Value)(hgd:o.guard=none)(h:(execOp a.eval o).run P w=.ok (.value v) w)(hk:wpList P ops Q rest (a.put o.dst v) w):wpList P ops Q (o :: rest) a w:=sq_new w v hgd h hk
theorem sq_store(g:Nat)(t:TypeId)(cs vs:Array Value)(hb:Bl w g t cs)(ty:TypeId)(x y:Operand)(hgd:o.guard=none)(ho:o.op=.store ty x y)(hx:a.eval x=.pointer (some ⟨g,0,none⟩))(hy:a.eval y=.agg vs)(hz:cs.size=vs.size)(hi:(P.info? ty).map (·.size)=some vs.size)(h1:∀v∈vs.toList,v.oneCell'=true)
  (hk:∀w',Bl w' g t vs→w.grownBy w' (some g)→wpList P ops Q rest (a.put o.dst undef) w'):wpList P ops Q (o :: rest) a w:=by
 refine wpList_store_bl hgd ty x y ho g 0 vs hx hy t cs hb (by omega) hi h1 fun w' h2 h3=>?_
 rw[spl_all _ _ (by simpa using hz)] at h2
 exact hk w' (by simpa using h2) h3
theorem sq_done(h:Q .normal a w):wpList P ops Q [] a w:=h
end
end Go.Proofs.Ytbgkdbjineennaa.Gn
