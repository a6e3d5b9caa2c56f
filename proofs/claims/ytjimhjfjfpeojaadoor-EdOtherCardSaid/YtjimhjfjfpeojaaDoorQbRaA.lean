/- Joined texts. -/
import Derived.Deep.LoopGhost
import Derived.Deep.OwnRows
import Derived.Deep.QuietTactic
import Derived.BigQuiet
import Derived.Test.YtjimhjfjfpeojaaDoorQbFaA
import Derived.Test.YtjimhjfjfpeojaaDoorQbPuA
set_option linter.unusedVariables false
namespace Go.Proofs.YtjimhjfjfpeojaaDoor.Fd
open Go.RowKit Go.Proofs.YtjimhjfjfpeojaaDoor.Gn Go.Deep
theorem nl_at(l:List Nat)(k:Nat):(nl l)[k]?=l[k]?.map fun(x:Nat)=>Value.int .u64 (x:Int):=by simp[nl]
theorem nlu_set(l:List Nat)(k x:Nat):(nl l).toArray.setIfInBounds k (.int .u64 (x:Int))=(nl (l.set k x)).toArray:=by simp[nl,List.setIfInBounds_toArray,List.map_set]
theorem sl_len{w:World}{A:Option Addr}{n:Nat}{l:List Nat}(h:Sl w A n (nl l)):l.length=n:=by simpa[nl] using h.1
theorem sl_num{w:World}{ad:Addr}{n:Nat}{l:List Nat}(h:Sl w (some ad) n (nl l)){p:Nat}(hp:p < n):w.cell? (ad.add p)=some (.int .u64 ((l.getD p 0:Nat):Int)):=by
 have hl:=sl_len h
 obtain⟨a,e,hc⟩:=h.2 p (.int .u64 ((l.getD p 0:Nat):Int)) (by
  rw[nl_at,List.getElem?_eq_getElem (by omega)]
  simp[List.getD_eq_getElem?_getD,List.getElem?_eq_getElem (show p < l.length by omega)])
 cases e
 exact hc
theorem nl_cell{w:World}{g:Nat}{t:TypeId}{l:List Nat}(h:Bl w g t (nl l).toArray){k:Nat}(hk:k < l.length):w.cell? ⟨g,k,none⟩=some (.int .u64 ((l.getD k 0:Nat):Int)):=by
 refine h.cell_ ?_
 rw[List.getElem?_toArray,nl_at,List.getElem?_eq_getElem hk]
 simp[List.getD_eq_getElem?_getD,List.getElem?_eq_getElem hk]
theorem nl_sl{w:World}{g n:Nat}{t:TypeId}{l:List Nat}(h:Bl w g t (nl l).toArray)(hn:l.length=n):Sl w (some ⟨g,0,none⟩) n (nl l) :=
 Sl.of_bl h 0 n _ (by simp[nl,hn]) (fun k v hv=>by rw[Nat.zero_add];simpa using hv)
def RetN(n:Nat)(w:World)(e:Ending)(w':World):Prop:=∃A k c,e=.returned (.slice A k c)∧Sl w' A k (nl (dg n))∧k≤c∧Below w.heap.size w w'
end Go.Proofs.YtjimhjfjfpeojaaDoor.Fd
namespace Go.Proofs.YtjimhjfjfpeojaaDoor.Fd
open Go.RowKit Go.Proofs.YtjimhjfjfpeojaaDoor.Gn Go.Deep
end Go.Proofs.YtjimhjfjfpeojaaDoor.Fd
namespace Go.Proofs.YtjimhjfjfpeojaaDoor.Fd
open Go.RowKit Go.Proofs.YtjimhjfjfpeojaaDoor.Gn Go.Deep
end Go.Proofs.YtjimhjfjfpeojaaDoor.Fd
namespace Go.Proofs.YtjimhjfjfpeojaaDoor.Fd
open Go.RowKit Go.Proofs.YtjimhjfjfpeojaaDoor.Gn Go.Deep
end Go.Proofs.YtjimhjfjfpeojaaDoor.Fd
