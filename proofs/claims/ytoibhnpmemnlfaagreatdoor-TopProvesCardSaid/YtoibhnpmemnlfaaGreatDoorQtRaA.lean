/- Joined texts. -/
import Derived.Deep.LoopGhost
import Derived.Deep.OwnRows
import Derived.Deep.QuietTactic
import Derived.BigQuiet
import Derived.Test.YtoibhnpmemnlfaaGreatDoorQtFaA
import Derived.Test.YtoibhnpmemnlfaaGreatDoorQtPuA
import Derived.Laws.CopyOwn
import Derived.Deep.Cut
import Derived.StillTailTactics
import Derived.Test.YtoibhnpmemnlfaaGreatDoorQtAvN
set_option linter.unusedVariables false
namespace Go.Proofs.YtoibhnpmemnlfaaGreatDoor.Fd
open Go.RowKit Go.Proofs.YtoibhnpmemnlfaaGreatDoor.Gn Go.Deep
theorem nl_at(l:List Nat)(k:Nat):(nl l)[k]?=l[k]?.map fun(x:Nat)=>Value.int .u64 (x:Int):=by simp[nl]
theorem nlu_set(l:List Nat)(k x:Nat):(nl l).toArray.setIfInBounds k (.int .u64 (x:Int))=(nl (l.set k x)).toArray:=by simp[nl,List.setIfInBounds_toArray,List.map_set]
theorem nl_cell{w:World}{g:Nat}{t:TypeId}{l:List Nat}(h:Bl w g t (nl l).toArray){k:Nat}(hk:k < l.length):w.cell? ⟨g,k,none⟩=some (.int .u64 ((l.getD k 0:Nat):Int)):=by
 refine h.cell_ ?_
 rw[List.getElem?_toArray,nl_at,List.getElem?_eq_getElem hk]
 simp[List.getD_eq_getElem?_getD,List.getElem?_eq_getElem hk]
end Go.Proofs.YtoibhnpmemnlfaaGreatDoor.Fd
namespace Go.Proofs.YtoibhnpmemnlfaaGreatDoor.Fd
open Go.RowKit Go.Proofs.YtoibhnpmemnlfaaGreatDoor.Gn Go.Deep
end Go.Proofs.YtoibhnpmemnlfaaGreatDoor.Fd
namespace Go.Proofs.YtoibhnpmemnlfaaGreatDoor.Fd
open Go.RowKit Go.Proofs.YtoibhnpmemnlfaaGreatDoor.Gn Go.Deep
end Go.Proofs.YtoibhnpmemnlfaaGreatDoor.Fd
namespace Go.Proofs.YtoibhnpmemnlfaaGreatDoor.Fd
open Go.RowKit Go.Proofs.YtoibhnpmemnlfaaGreatDoor.Gn Go.Deep
end Go.Proofs.YtoibhnpmemnlfaaGreatDoor.Fd
namespace Go.Proofs.YtoibhnpmemnlfaaGreatDoor.Fd
open Go.RowKit Go.Proofs.YtoibhnpmemnlfaaGreatDoor.Gn Go.Deep
end Go.Proofs.YtoibhnpmemnlfaaGreatDoor.Fd
namespace Go.Proofs.YtoibhnpmemnlfaaGreatDoor.Fd
open Go.RowKit Go.Proofs.YtoibhnpmemnlfaaGreatDoor.Gn Go.Deep
def hzB(B:Nat)(x:E5)(j:Nat):Nat:=(x.l.drop j).foldr (fun a s=>a+s*B) 0
def b51:Nat:=2251799813685248
attribute [irreducible] b51
def hz(x:E5)(j:Nat):Nat:=hzB b51 x j
end Go.Proofs.YtoibhnpmemnlfaaGreatDoor.Fd
namespace Go.Proofs.YtoibhnpmemnlfaaGreatDoor.Fd
open Go.RowKit Go.Proofs.YtoibhnpmemnlfaaGreatDoor.Gn Go.Deep
def hf(m i:Nat):List Nat:=(List.range i).map fun j=>(m / 2) / 65536 ^ j%65536
end Go.Proofs.YtoibhnpmemnlfaaGreatDoor.Fd
namespace Go.Proofs.YtoibhnpmemnlfaaGreatDoor.Fd
open Go.RowKit Go.Proofs.YtoibhnpmemnlfaaGreatDoor.Gn Go.Deep
end Go.Proofs.YtoibhnpmemnlfaaGreatDoor.Fd
namespace Go.Proofs.YtoibhnpmemnlfaaGreatDoor.Av
open Go.RowKit Go.Proofs.YtoibhnpmemnlfaaGreatDoor.Gn Go.Proofs.YtoibhnpmemnlfaaGreatDoor.Fd Go.Deep
theorem two_args{O:Nat→Prop}{w:World}{x y:DV}{vs:List Value}(hl:vs.length=2)(h:DV.reps O w [x,y] 0 (fun i v=>vs[i]?=some v)):∃u v,vs=[u,v]∧x.rep O w u∧y.rep O w v:=by
 obtain⟨⟨u,h1,h2⟩,⟨v,h3,h4⟩,-⟩:=h
 match vs,hl with
 | [a,b],_=>simp at h1 h3;subst h1 h3;exact⟨_,_,rfl,h2,h4⟩
theorem one_arg{O:Nat→Prop}{w:World}{x:DV}{vs:List Value}(hl:vs.length=1)(h:DV.reps O w [x] 0 (fun i v=>vs[i]?=some v)):∃u,vs=[u]∧x.rep O w u:=by
 obtain⟨⟨u,h1,h2⟩,-⟩:=h
 match vs,hl with
 | [a],_=>simp at h1;subst h1;exact⟨_,rfl,h2⟩
end Go.Proofs.YtoibhnpmemnlfaaGreatDoor.Av
