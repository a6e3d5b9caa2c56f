/-
  DERIVED. GIVEN WITH THE SEED: THE CARDS: each row of YtoibhnpmemnlfaaGreatDoorRows.lean that lists a variable, with what it lists TIED to the program's text (the seventh form; the later family's looks); each row that meets fmt, with fmt's text TOLD by the authors' own Lean function (tested against real Go, not proved from fmt's source: count such statements apart). THE CARD IS WHAT COUNTS. Prove the row's statement (the work); the ties are given (YtoibhnpmemnlfaaGreatDoorTie.lean); close each card by the builder's one call (the guide's Derived/Test/ToyasCard.lean, 'card_holds'). Laid BY PROGRAM, IN A SANDBOX (cutbox-door.mjs). By AI agents, Wed Nov 11 2026. No macro, syntax, notation, axiom, sorry.
-/
import Derived.Test.YtoibhnpmemnlfaaGreatDoorRows
import GoSem.ClaimSeven
namespace Go.Proofs.YtoibhnpmemnlfaaGreatDoor
namespace Rows

/-- THE TIED CARD OF 'imprimaturtop.TopProves'. -/
def topProvesCard : Claim7 := { stood := { row := topProvesRow, standIns := [], harness := (true, "1109445c6390f345933382308ee0fa309b152ba1b056c769211a8e727f578ff2"), looks := false }, kinds := [], alts := [], laidByText := true, laidKinds := [.data, .data, .data, .data, .data, .data, .data, .data], laidTests := true, laidLooks := .later }
def TopProvesCardSaid : Prop := Claim7.holds Tryz.pinned (.plain (OpenSpec.ofChange topProvesSpec)) topProvesCard

/-- THE SECOND FORM's CARD OF 'imprimaturtop.TopProves'. -/
def topProvesUptoCard : Claim7 := { stood := { row := topProvesUptoRow, standIns := [], harness := (true, "1109445c6390f345933382308ee0fa309b152ba1b056c769211a8e727f578ff2"), looks := false }, kinds := [], alts := [], laidByText := true, laidKinds := [.data, .data, .data, .data, .data, .data, .data, .data], laidTests := true, laidLooks := .later }
def TopProvesUptoCardSaid : Prop := Claim7.holds Tryz.pinned (.plain (OpenSpec.upto topProvesSpec)) topProvesUptoCard
end Rows
end Go.Proofs.YtoibhnpmemnlfaaGreatDoor
