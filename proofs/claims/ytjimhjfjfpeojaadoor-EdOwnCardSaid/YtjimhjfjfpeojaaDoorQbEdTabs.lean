/- Joined texts. -/
import Derived.SevenTiedAt
import Derived.LaidMore
import Derived.Lib.LaidTab
import Derived.Stop.LaidErr
import Derived.Deep.DeepHandedRow
import Derived.Test.YtjimhjfjfpeojaaDoorQbEdA
import Derived.Test.YtjimhjfjfpeojaaDoorQbFaE
import Derived.Test.YtjimhjfjfpeojaaDoorQbSaB
import Derived.Test.YtjimhjfjfpeojaaDoorRows
set_option linter.unusedVariables false
namespace Go.Proofs.YtjimhjfjfpeojaaDoor.Ed
open Go.RowKit Go.Proofs.YtjimhjfjfpeojaaDoor.Gn Go.Proofs.YtjimhjfjfpeojaaDoor.Fd Go.Deep Go.Proofs.YtjimhjfjfpeojaaDoor
theorem gSt : Tryd.prog.globalNamed "imprimatur/sha2.starts" = some 3 := by kernel_rfl
theorem gCo : Tryd.prog.globalNamed "imprimatur/sha2.constants" = some 8 := by kernel_rfl
theorem gD : Tryd.prog.globalNamed "imprimatur/ed.d" = some 2 := by kernel_rfl
theorem gD2 : Tryd.prog.globalNamed "imprimatur/ed.twiceD" = some 5 := by kernel_rfl
theorem gBx : Tryd.prog.globalNamed "imprimatur/ed.baseX" = some 0 := by kernel_rfl
theorem gBy : Tryd.prog.globalNamed "imprimatur/ed.baseY" = some 1 := by kernel_rfl
theorem tSt:(Tryd.prog.globals[3]?).map (·.type)=some 67:=by kernel_rfl
theorem tCo:(Tryd.prog.globals[8]?).map (·.type)=some 132:=by kernel_rfl
theorem tD:(Tryd.prog.globals[2]?).map (·.type)=some 38:=by kernel_rfl
theorem tD2:(Tryd.prog.globals[5]?).map (·.type)=some 38:=by kernel_rfl
theorem tBx:(Tryd.prog.globals[0]?).map (·.type)=some 38:=by kernel_rfl
theorem tBy:(Tryd.prog.globals[1]?).map (·.type)=some 38:=by kernel_rfl
theorem c8:Tryd.prog.cellsOf 67=8:=by kernel_rfl
theorem c80:Tryd.prog.cellsOf 132=80:=by kernel_rfl
theorem ints_length(l:List Nat):(ints l).length=l.length:=by simp[ints]
theorem ints_getD(l:List Nat)(i:Nat):(ints l).getD i 0=((l.getD i 0:Nat):Int):=by
 simp only[ints,List.getD_eq_getElem?_getD,List.getElem?_map]
 cases l[i]? <;> rfl
theorem laid_st:(Rows.laid_imprimatur_sha2_starts:DataW Unit)=Lib.tabData .u64 (ints Sh.sc):=by kernel_rfl
theorem laid_co:(Rows.laid_imprimatur_sha2_constants:DataW Unit)=Lib.tabData .u64 (ints Sh.kc):=by kernel_rfl
theorem laid_d:(Rows.laid_imprimatur_ed_d:DataW Unit)=Lib.tabData .u64 (ints (el dn).l):=by kernel_rfl
theorem laid_d2:(Rows.laid_imprimatur_ed_twiceD:DataW Unit)=Lib.tabData .u64 (ints (el nd2).l):=by kernel_rfl
theorem laid_bx:(Rows.laid_imprimatur_ed_baseX:DataW Unit)=Lib.tabData .u64 (ints (el nbx).l):=by kernel_rfl
theorem laid_by:(Rows.laid_imprimatur_ed_baseY:DataW Unit)=Lib.tabData .u64 (ints (el nby).l):=by kernel_rfl
theorem c5_of{W:World}{g n:Nat}(h:∀k,k < 5→W.cell? ⟨g,k,none⟩=some (.int .u64 ((ints (el n).l).getD k 0))):C5 W g (el n):=⟨h 0 (by decide),h 1 (by decide),h 2 (by decide),h 3 (by decide),h 4 (by decide)⟩
theorem el_len(n k:Nat)(h:k < 5):k < (ints (el n).l).length:=by simpa[ints,E5.l] using h
end Go.Proofs.YtjimhjfjfpeojaaDoor.Ed
