/- Joined texts. -/
import Derived.SevenTiedAt
import Derived.LaidMore
import Derived.Lib.LaidTab
import Derived.Stop.LaidErr
import Derived.Deep.DeepHandedRow
import Derived.Test.YtoibhnpmemnlfaaGreatDoorQtEdA
import Derived.Test.YtoibhnpmemnlfaaGreatDoorQtFaE
import Derived.Test.YtoibhnpmemnlfaaGreatDoorQtSaB
import Derived.Test.YtoibhnpmemnlfaaGreatDoorRows
import Derived.Test.YtoibhnpmemnlfaaGreatDoorQtFsJoin
set_option linter.unusedVariables false
namespace Go.Proofs.YtoibhnpmemnlfaaGreatDoor.Ed
open Go.RowKit Go.Proofs.YtoibhnpmemnlfaaGreatDoor.Gn Go.Proofs.YtoibhnpmemnlfaaGreatDoor.Fd Go.Deep Go.Proofs.YtoibhnpmemnlfaaGreatDoor
theorem gSt : Tryz.prog.globalNamed "imprimatur/sha2.starts" = some 5 := by kernel_rfl
theorem gCo : Tryz.prog.globalNamed "imprimatur/sha2.constants" = some 8 := by kernel_rfl
theorem gD : Tryz.prog.globalNamed "imprimatur/ed.d" = some 3 := by kernel_rfl
theorem gD2 : Tryz.prog.globalNamed "imprimatur/ed.twiceD" = some 2 := by kernel_rfl
theorem gBx : Tryz.prog.globalNamed "imprimatur/ed.baseX" = some 0 := by kernel_rfl
theorem gBy : Tryz.prog.globalNamed "imprimatur/ed.baseY" = some 1 := by kernel_rfl
theorem tSt:(Tryz.prog.globals[5]?).map (·.type)=some 53:=by kernel_rfl
theorem tCo:(Tryz.prog.globals[8]?).map (·.type)=some 131:=by kernel_rfl
theorem tD:(Tryz.prog.globals[3]?).map (·.type)=some 31:=by kernel_rfl
theorem tD2:(Tryz.prog.globals[2]?).map (·.type)=some 31:=by kernel_rfl
theorem tBx:(Tryz.prog.globals[0]?).map (·.type)=some 31:=by kernel_rfl
theorem tBy:(Tryz.prog.globals[1]?).map (·.type)=some 31:=by kernel_rfl
theorem c8:Tryz.prog.cellsOf 53=8:=by kernel_rfl
theorem c80:Tryz.prog.cellsOf 131=80:=by kernel_rfl
theorem ints_length(l:List Nat):(ints l).length=l.length:=by simp[ints]
theorem ints_getD(l:List Nat)(i:Nat):(ints l).getD i 0=((l.getD i 0:Nat):Int):=by
 simp only[ints,List.getD_eq_getElem?_getD,List.getElem?_map]
 cases l[i]? <;> rfl
theorem laid_st:(Rows.laid_imprimatur_sha2_starts:DataW Unit)=Lib.tabData .u64 (ints Sh.sc):=by kernel_rfl
theorem laid_co:(Rows.laid_imprimatur_sha2_constants:DataW Unit)=Lib.tabData .u64 (ints Sh.kc):=by kernel_rfl
theorem laid_d:(Rows.laid_imprimatur_ed_d:DataW Unit)=Lib.tabData .u64 (ints (el dn).l):=by kernel_rfl
theorem laid_d2:(Rows.laid_imprimatur_ed_twiceD:DataW Unit)=Lib.tabData .u64 (ints (el nd2).l):=by kernel_rfl
theorem laid_bx:(Rows.laid_imprimatur_ed_baseX:DataW Unit)=Lib.tabData .u64 (ints (el nbx).l):=by kernel_rfl
theorem laid_by:(Rows.laid_imprimatur_ed_baseY:DataW Unit)=Lib.tabData .u64 (ints (el nby).l):=by kernel_rfl
theorem c5_of{W:World}{g n:Nat}(h:∀k,k < 5→W.cell? ⟨g,k,none⟩=some (.int .u64 ((ints (el n).l).getD k 0))):C5 W g (el n):=⟨h 0 (by decide),h 1 (by decide),h 2 (by decide),h 3 (by decide),h 4 (by decide)⟩
theorem el_len(n k:Nat)(h:k < 5):k < (ints (el n).l).length:=by simpa[ints,E5.l] using h
end Go.Proofs.YtoibhnpmemnlfaaGreatDoor.Ed
namespace Go.Proofs.YtoibhnpmemnlfaaGreatDoor.Ed
open Go.RowKit Go.Proofs.YtoibhnpmemnlfaaGreatDoor.Gn Go.Proofs.YtoibhnpmemnlfaaGreatDoor.Fd Go.Deep Go.Proofs.YtoibhnpmemnlfaaGreatDoor
theorem tabs_of_laidF {W : World} (h : laidMetH Tryz.prog [("imprimatur/sha2.starts", Rows.laid_imprimatur_sha2_starts), ("imprimatur/sha2.constants", Rows.laid_imprimatur_sha2_constants), ("imprimatur/field.rootOfLess1", Rows.laid_imprimatur_field_rootOfLess1), ("imprimatur/field.order", Rows.laid_imprimatur_field_order), ("imprimatur/ed.d", Rows.laid_imprimatur_ed_d), ("imprimatur/ed.twiceD", Rows.laid_imprimatur_ed_twiceD), ("imprimatur/ed.baseX", Rows.laid_imprimatur_ed_baseX), ("imprimatur/ed.baseY", Rows.laid_imprimatur_ed_baseY)] W) : TabE W ∧ Sh.Tab W ∧ TabL W := by
 rw[MakeChecks.laidMetH_plain _ _ _ (by kernel_rfl),laid_st,laid_co,laid_im,laid_or,laid_d,laid_d2,laid_bx,laid_by] at h
 have h1:=Lib.tabIs_of_head gSt tSt Tryz.underlying53 Tryz.underlying29 c64 c8 h
 have h2:=Lib.tabIs_of_head gCo tCo Tryz.underlying131 Tryz.underlying29 c64 c80 h.tail
 have h3:=Lib.tabIs_of_head gIm tIm Tryz.underlying31 Tryz.underlying29 c64 c5 h.tail.tail
 have h8:=Lib.tabIs_of_head gOr tOr Tryz.underlying51 Tryz.underlying29 c64 c4 h.tail.tail.tail
 have h4:=Lib.tabIs_of_head gD tD Tryz.underlying31 Tryz.underlying29 c64 c5 h.tail.tail.tail.tail
 have h5:=Lib.tabIs_of_head gD2 tD2 Tryz.underlying31 Tryz.underlying29 c64 c5 h.tail.tail.tail.tail.tail
 have h6:=Lib.tabIs_of_head gBx tBx Tryz.underlying31 Tryz.underlying29 c64 c5 h.tail.tail.tail.tail.tail.tail
 have h7:=Lib.tabIs_of_head gBy tBy Tryz.underlying31 Tryz.underlying29 c64 c5 h.tail.tail.tail.tail.tail.tail.tail
 exact⟨⟨c5_of fun k hk=>h3.cell gIm k (el_len _ k hk),c5_of fun k hk=>h4.cell gD k (el_len _ k hk),c5_of fun k hk=>h5.cell gD2 k (el_len _ k hk),c5_of fun k hk=>h6.cell gBx k (el_len _ k hk),c5_of fun k hk=>h7.cell gBy k (el_len _ k hk)⟩,
  ⟨fun t ht=>by rw[h2.cell gCo t (by rw[ints_length];exact ht),ints_getD],fun t ht=>by rw[h1.cell gSt t (by rw[ints_length];exact ht),ints_getD]⟩,
  h8.cell gOr 0 (by decide),h8.cell gOr 1 (by decide),h8.cell gOr 2 (by decide),h8.cell gOr 3 (by decide)⟩
end Go.Proofs.YtoibhnpmemnlfaaGreatDoor.Ed
