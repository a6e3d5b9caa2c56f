/- Joined texts. -/
import Derived.LaidMore
import Derived.Lib.LaidTab
import Derived.Stop.LaidErr
import Derived.Deep.DeepHandedRow
import Derived.Test.YtnnfpmebopgogaaDoorCards
import Derived.Test.YtnnfpmebopgogaaDoorQsSaE
set_option linter.unusedVariables false
namespace Go.Proofs.YtnnfpmebopgogaaDoor.Sh
open Go.RowKit Go.Proofs.YtnnfpmebopgogaaDoor.Gn Go.Deep Go.Proofs.YtnnfpmebopgogaaDoor
theorem gSt : Tryd.prog.globalNamed "imprimatur/sha2.starts" = some 0 := by kernel_rfl
theorem gCo : Tryd.prog.globalNamed "imprimatur/sha2.constants" = some 1 := by kernel_rfl
theorem tSt:(Tryd.prog.globals[0]?).map (·.type)=some 118:=by kernel_rfl
theorem tCo:(Tryd.prog.globals[1]?).map (·.type)=some 136:=by kernel_rfl
theorem c64:Tryd.prog.cellsOf 97=1:=by kernel_rfl
theorem c8:Tryd.prog.cellsOf 118=8:=by kernel_rfl
theorem c80:Tryd.prog.cellsOf 136=80:=by kernel_rfl
def ints(l:List Nat):List Int:=l.map fun(x:Nat)=>(x:Int)
theorem ints_length(l:List Nat):(ints l).length=l.length:=by simp[ints]
theorem laid_st:(Rows.laid_imprimatur_sha2_starts:DataW Unit)=Lib.tabData .u64 (ints sc):=by kernel_rfl
theorem laid_co:(Rows.laid_imprimatur_sha2_constants:DataW Unit)=Lib.tabData .u64 (ints kc):=by kernel_rfl
theorem ints_getD(l:List Nat)(i:Nat):(ints l).getD i 0=((l.getD i 0:Nat):Int):=by
 simp only[ints,List.getD_eq_getElem?_getD,List.getElem?_map]
 cases l[i]? <;> rfl
theorem tab_of_laid {W : World} (h : laidMetH Tryd.prog [("imprimatur/sha2.starts", Rows.laid_imprimatur_sha2_starts), ("imprimatur/sha2.constants", Rows.laid_imprimatur_sha2_constants)] W) : Tab W := by
 rw[MakeChecks.laidMetH_plain _ _ _ (by kernel_rfl),laid_st,laid_co] at h
 have h1:=Lib.tabIs_of_head gSt tSt Tryd.underlying118 Tryd.underlying97 c64 c8 h
 have h2:=Lib.tabIs_of_head gCo tCo Tryd.underlying136 Tryd.underlying97 c64 c80 h.tail
 exact⟨fun t ht=>by rw[h2.cell gCo t (by rw[ints_length];exact ht),ints_getD],fun t ht=>by rw[h1.cell gSt t (by rw[ints_length];exact ht),ints_getD]⟩
end Go.Proofs.YtnnfpmebopgogaaDoor.Sh
