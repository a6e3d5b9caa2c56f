/-
  DERIVED. GIVEN WITH THE SEED: THE PROGRAM's TIES (one call each: nine closed facts by the kernel) AND EACH ROW's TIE, after the 31st guide's Derived/Test/Toyas{Tie, Card}.lean. No idea stands in it: it is a product of the set-up. Laid BY PROGRAM, IN A SANDBOX (cutbox-door.mjs). By AI agents, Wed Nov 11 2026. No macro, syntax, notation, axiom, sorry.
-/
import Derived.Test.YtoibhnpmemnlfaaGreatDoorRows
import Derived.LaidByTextLater
import Derived.SevenTiedAt
import Derived.LaidSub
import Derived.LaidOnce
namespace Go.Proofs.YtoibhnpmemnlfaaGreatDoor
open Go
set_option maxRecDepth 100000
theorem seatTie1 : Tryz.prog.laidByTextLater [("imprimatur/sha2.starts", Rows.laid_imprimatur_sha2_starts), ("imprimatur/sha2.constants", Rows.laid_imprimatur_sha2_constants), ("imprimatur/field.rootOfLess1", Rows.laid_imprimatur_field_rootOfLess1), ("imprimatur/field.order", Rows.laid_imprimatur_field_order), ("imprimatur/ed.d", Rows.laid_imprimatur_ed_d), ("imprimatur/ed.twiceD", Rows.laid_imprimatur_ed_twiceD), ("imprimatur/ed.baseX", Rows.laid_imprimatur_ed_baseX), ("imprimatur/ed.baseY", Rows.laid_imprimatur_ed_baseY)] [.data, .data, .data, .data, .data, .data, .data, .data] true :=
  Program.laidByTextLater_by_one 49 8 81 (by kernel_rfl) (by kernel_rfl) (by kernel_rfl) (by kernel_rfl) (by kernel_rfl) (by kernel_rfl) (fun _ _ => by kernel_rfl)
theorem noOwnUnsafe : Tryz.pinned.checked.prog.headLifts.contains "ownunsafe" = false := by kernel_rfl
theorem tie : Tryz.prog.laidByTextLater [("imprimatur/sha2.starts", Rows.laid_imprimatur_sha2_starts), ("imprimatur/sha2.constants", Rows.laid_imprimatur_sha2_constants), ("imprimatur/field.rootOfLess1", Rows.laid_imprimatur_field_rootOfLess1), ("imprimatur/field.order", Rows.laid_imprimatur_field_order), ("imprimatur/ed.d", Rows.laid_imprimatur_ed_d), ("imprimatur/ed.twiceD", Rows.laid_imprimatur_ed_twiceD), ("imprimatur/ed.baseX", Rows.laid_imprimatur_ed_baseX), ("imprimatur/ed.baseY", Rows.laid_imprimatur_ed_baseY)] [.data, .data, .data, .data, .data, .data, .data, .data] true :=
  Program.laidByTextLater.sub seatTie1 ["imprimatur/sha2.starts", "imprimatur/sha2.constants", "imprimatur/field.rootOfLess1", "imprimatur/field.order", "imprimatur/ed.d", "imprimatur/ed.twiceD", "imprimatur/ed.baseX", "imprimatur/ed.baseY"] (by kernel_rfl) (by kernel_rfl)
theorem topProves_row_tie : Rows.topProvesRow.laidByTextAt .later Tryz.pinned [.data, .data, .data, .data, .data, .data, .data, .data] true :=
  OpenClaim.laidByTextAt_later rfl rfl tie noOwnUnsafe
theorem topProvesUpto_row_tie : Rows.topProvesUptoRow.laidByTextAt .later Tryz.pinned [.data, .data, .data, .data, .data, .data, .data, .data] true :=
  OpenClaim.laidByTextAt_later rfl rfl tie noOwnUnsafe
end Go.Proofs.YtoibhnpmemnlfaaGreatDoor
