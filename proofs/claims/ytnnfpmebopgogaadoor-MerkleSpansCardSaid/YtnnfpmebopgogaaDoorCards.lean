/-
  DERIVED. GIVEN WITH THE SEED: THE CARDS: each row of YtnnfpmebopgogaaDoorRows.lean that lists a variable, with what it lists TIED to the program's text (the seventh form; the later family's looks); each row that meets fmt, with fmt's text TOLD by the authors' own Lean function (tested against real Go, not proved from fmt's source: count such statements apart). THE CARD IS WHAT COUNTS. Prove the row's statement (the work); the ties are given (YtnnfpmebopgogaaDoorTie.lean); close each card by the builder's one call (the guide's Derived/Test/ToyasCard.lean, 'card_holds'). Laid BY PROGRAM, IN A SANDBOX (cutbox-door.mjs). By AI agents, Wed Nov 11 2026. No macro, syntax, notation, axiom, sorry.
-/
import Derived.Test.YtnnfpmebopgogaaDoorRows
import GoSem.ClaimSeven
namespace Go.Proofs.YtnnfpmebopgogaaDoor
namespace Rows

/-- THE TIED CARD OF 'imprimaturlaw06.MerkleRoots'. -/
def merkleRootsCard : Claim7 := { stood := { row := merkleRootsRow, standIns := [], harness := (true, "43638770d3b19d0c8520db9ae9ca42da73e01a2cfd2ecc35f521c8eaf1caba08"), looks := false }, kinds := [], alts := [], laidByText := true, laidKinds := [.data, .data], laidTests := true, laidLooks := .later }
def MerkleRootsCardSaid : Prop := Claim7.holds Tryd.pinned (.plain (OpenSpec.ofChange merkleRootsSpec)) merkleRootsCard

/-- THE TIED CARD OF 'imprimaturlaw06.MerkleOnly'. -/
def merkleOnlyCard : Claim7 := { stood := { row := merkleOnlyRow, standIns := [], harness := (true, "43638770d3b19d0c8520db9ae9ca42da73e01a2cfd2ecc35f521c8eaf1caba08"), looks := false }, kinds := [], alts := [], laidByText := true, laidKinds := [.data, .data], laidTests := true, laidLooks := .later }
def MerkleOnlyCardSaid : Prop := Claim7.holds Tryd.pinned (.plain (OpenSpec.ofChange merkleOnlySpec)) merkleOnlyCard

/-- THE TIED CARD OF 'imprimaturlaw06.MerkleRanges'. -/
def merkleRangesCard : Claim7 := { stood := { row := merkleRangesRow, standIns := [], harness := (true, "43638770d3b19d0c8520db9ae9ca42da73e01a2cfd2ecc35f521c8eaf1caba08"), looks := false }, kinds := [], alts := [], laidByText := true, laidKinds := [.data, .data], laidTests := true, laidLooks := .later }
def MerkleRangesCardSaid : Prop := Claim7.holds Tryd.pinned (.plain (OpenSpec.ofChange merkleRangesSpec)) merkleRangesCard

/-- THE TIED CARD OF 'imprimaturlaw06.MerkleSpans'. -/
def merkleSpansCard : Claim7 := { stood := { row := merkleSpansRow, standIns := [], harness := (true, "43638770d3b19d0c8520db9ae9ca42da73e01a2cfd2ecc35f521c8eaf1caba08"), looks := false }, kinds := [], alts := [], laidByText := true, laidKinds := [.data, .data], laidTests := true, laidLooks := .later }
def MerkleSpansCardSaid : Prop := Claim7.holds Tryd.pinned (.plain (OpenSpec.ofChange merkleSpansSpec)) merkleSpansCard

/-- THE SECOND FORM's CARD OF 'imprimaturlaw06.MerkleRoots'. -/
def merkleRootsUptoCard : Claim7 := { stood := { row := merkleRootsUptoRow, standIns := [], harness := (true, "43638770d3b19d0c8520db9ae9ca42da73e01a2cfd2ecc35f521c8eaf1caba08"), looks := false }, kinds := [], alts := [], laidByText := true, laidKinds := [.data, .data], laidTests := true, laidLooks := .later }
def MerkleRootsUptoCardSaid : Prop := Claim7.holds Tryd.pinned (.plain (OpenSpec.upto merkleRootsSpec)) merkleRootsUptoCard

/-- THE SECOND FORM's CARD OF 'imprimaturlaw06.MerkleOnly'. -/
def merkleOnlyUptoCard : Claim7 := { stood := { row := merkleOnlyUptoRow, standIns := [], harness := (true, "43638770d3b19d0c8520db9ae9ca42da73e01a2cfd2ecc35f521c8eaf1caba08"), looks := false }, kinds := [], alts := [], laidByText := true, laidKinds := [.data, .data], laidTests := true, laidLooks := .later }
def MerkleOnlyUptoCardSaid : Prop := Claim7.holds Tryd.pinned (.plain (OpenSpec.upto merkleOnlySpec)) merkleOnlyUptoCard

/-- THE SECOND FORM's CARD OF 'imprimaturlaw06.MerkleRanges'. -/
def merkleRangesUptoCard : Claim7 := { stood := { row := merkleRangesUptoRow, standIns := [], harness := (true, "43638770d3b19d0c8520db9ae9ca42da73e01a2cfd2ecc35f521c8eaf1caba08"), looks := false }, kinds := [], alts := [], laidByText := true, laidKinds := [.data, .data], laidTests := true, laidLooks := .later }
def MerkleRangesUptoCardSaid : Prop := Claim7.holds Tryd.pinned (.plain (OpenSpec.upto merkleRangesSpec)) merkleRangesUptoCard

/-- THE SECOND FORM's CARD OF 'imprimaturlaw06.MerkleSpans'. -/
def merkleSpansUptoCard : Claim7 := { stood := { row := merkleSpansUptoRow, standIns := [], harness := (true, "43638770d3b19d0c8520db9ae9ca42da73e01a2cfd2ecc35f521c8eaf1caba08"), looks := false }, kinds := [], alts := [], laidByText := true, laidKinds := [.data, .data], laidTests := true, laidLooks := .later }
def MerkleSpansUptoCardSaid : Prop := Claim7.holds Tryd.pinned (.plain (OpenSpec.upto merkleSpansSpec)) merkleSpansUptoCard
end Rows
end Go.Proofs.YtnnfpmebopgogaaDoor
