/-
  DERIVED. GIVEN WITH THE SEED: THE CARDS: each row of YtmfpckbahgpojaaDoorRows.lean that lists a variable, with what it lists TIED to the program's text (the seventh form; the later family's looks); each row that meets fmt, with fmt's text TOLD by the authors' own Lean function (tested against real Go, not proved from fmt's source: count such statements apart). THE CARD IS WHAT COUNTS. Prove the row's statement (the work); the ties are given (YtmfpckbahgpojaaDoorTie.lean); close each card by the builder's one call (the guide's Derived/Test/ToyasCard.lean, 'card_holds'). Laid BY PROGRAM, IN A SANDBOX (cutbox-door.mjs). By AI agents, Wed Nov 11 2026. No macro, syntax, notation, axiom, sorry.
-/
import Derived.Test.YtmfpckbahgpojaaDoorRows
import GoSem.ClaimSeven
namespace Go.Proofs.YtmfpckbahgpojaaDoor
namespace Rows

/-- THE TIED CARD OF 'imprimaturlaw06.MerkleCuts'. -/
def merkleCutsCard : Claim7 := { stood := { row := merkleCutsRow, standIns := [], harness := (true, "40b5c171842a1e2f6253bcd344e5fcab5c34a1f6d37c509c5d02a40e272eb084"), looks := false }, kinds := [], alts := [], laidByText := true, laidKinds := [.data, .data], laidTests := true, laidLooks := .later }
def MerkleCutsCardSaid : Prop := Claim7.holds Tryd.pinned (.plain (OpenSpec.ofChange merkleCutsSpec)) merkleCutsCard

/-- THE TIED CARD OF 'imprimaturlaw06.MerkleMaps'. -/
def merkleMapsCard : Claim7 := { stood := { row := merkleMapsRow, standIns := [], harness := (true, "40b5c171842a1e2f6253bcd344e5fcab5c34a1f6d37c509c5d02a40e272eb084"), looks := false }, kinds := [], alts := [], laidByText := true, laidKinds := [.data, .data], laidTests := true, laidLooks := .later }
def MerkleMapsCardSaid : Prop := Claim7.holds Tryd.pinned (.plain (OpenSpec.ofChange merkleMapsSpec)) merkleMapsCard

/-- THE TIED CARD OF 'imprimaturlaw06.MerkleWhole'. -/
def merkleWholeCard : Claim7 := { stood := { row := merkleWholeRow, standIns := [], harness := (true, "40b5c171842a1e2f6253bcd344e5fcab5c34a1f6d37c509c5d02a40e272eb084"), looks := false }, kinds := [], alts := [], laidByText := true, laidKinds := [.data, .data], laidTests := true, laidLooks := .later }
def MerkleWholeCardSaid : Prop := Claim7.holds Tryd.pinned (.plain (OpenSpec.ofChange merkleWholeSpec)) merkleWholeCard

/-- THE TIED CARD OF 'imprimaturlaw06.MerklePuts'. -/
def merklePutsCard : Claim7 := { stood := { row := merklePutsRow, standIns := [], harness := (true, "40b5c171842a1e2f6253bcd344e5fcab5c34a1f6d37c509c5d02a40e272eb084"), looks := false }, kinds := [], alts := [], laidByText := true, laidKinds := [.data, .data], laidTests := true, laidLooks := .later }
def MerklePutsCardSaid : Prop := Claim7.holds Tryd.pinned (.plain (OpenSpec.ofChange merklePutsSpec)) merklePutsCard

/-- THE SECOND FORM's CARD OF 'imprimaturlaw06.MerkleCuts'. -/
def merkleCutsUptoCard : Claim7 := { stood := { row := merkleCutsUptoRow, standIns := [], harness := (true, "40b5c171842a1e2f6253bcd344e5fcab5c34a1f6d37c509c5d02a40e272eb084"), looks := false }, kinds := [], alts := [], laidByText := true, laidKinds := [.data, .data], laidTests := true, laidLooks := .later }
def MerkleCutsUptoCardSaid : Prop := Claim7.holds Tryd.pinned (.plain (OpenSpec.upto merkleCutsSpec)) merkleCutsUptoCard

/-- THE SECOND FORM's CARD OF 'imprimaturlaw06.MerkleMaps'. -/
def merkleMapsUptoCard : Claim7 := { stood := { row := merkleMapsUptoRow, standIns := [], harness := (true, "40b5c171842a1e2f6253bcd344e5fcab5c34a1f6d37c509c5d02a40e272eb084"), looks := false }, kinds := [], alts := [], laidByText := true, laidKinds := [.data, .data], laidTests := true, laidLooks := .later }
def MerkleMapsUptoCardSaid : Prop := Claim7.holds Tryd.pinned (.plain (OpenSpec.upto merkleMapsSpec)) merkleMapsUptoCard

/-- THE SECOND FORM's CARD OF 'imprimaturlaw06.MerkleWhole'. -/
def merkleWholeUptoCard : Claim7 := { stood := { row := merkleWholeUptoRow, standIns := [], harness := (true, "40b5c171842a1e2f6253bcd344e5fcab5c34a1f6d37c509c5d02a40e272eb084"), looks := false }, kinds := [], alts := [], laidByText := true, laidKinds := [.data, .data], laidTests := true, laidLooks := .later }
def MerkleWholeUptoCardSaid : Prop := Claim7.holds Tryd.pinned (.plain (OpenSpec.upto merkleWholeSpec)) merkleWholeUptoCard

/-- THE SECOND FORM's CARD OF 'imprimaturlaw06.MerklePuts'. -/
def merklePutsUptoCard : Claim7 := { stood := { row := merklePutsUptoRow, standIns := [], harness := (true, "40b5c171842a1e2f6253bcd344e5fcab5c34a1f6d37c509c5d02a40e272eb084"), looks := false }, kinds := [], alts := [], laidByText := true, laidKinds := [.data, .data], laidTests := true, laidLooks := .later }
def MerklePutsUptoCardSaid : Prop := Claim7.holds Tryd.pinned (.plain (OpenSpec.upto merklePutsSpec)) merklePutsUptoCard
end Rows
end Go.Proofs.YtmfpckbahgpojaaDoor
