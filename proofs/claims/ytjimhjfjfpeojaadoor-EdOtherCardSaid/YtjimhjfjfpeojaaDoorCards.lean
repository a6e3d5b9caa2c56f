/-
  DERIVED. GIVEN WITH THE SEED: THE CARDS: each row of YtjimhjfjfpeojaaDoorRows.lean that lists a variable, with what it lists TIED to the program's text (the seventh form; the later family's looks); each row that meets fmt, with fmt's text TOLD by the authors' own Lean function (tested against real Go, not proved from fmt's source: count such statements apart). THE CARD IS WHAT COUNTS. Prove the row's statement (the work); the ties are given (YtjimhjfjfpeojaaDoorTie.lean); close each card by the builder's one call (the guide's Derived/Test/ToyasCard.lean, 'card_holds'). Laid BY PROGRAM, IN A SANDBOX (cutbox-door.mjs). By AI agents, Wed Nov 11 2026. No macro, syntax, notation, axiom, sorry.
-/
import Derived.Test.YtjimhjfjfpeojaaDoorRows
import GoSem.ClaimSeven
namespace Go.Proofs.YtjimhjfjfpeojaaDoor
namespace Rows

/-- THE TIED CARD OF 'imprimaturlaw05.EdOwn'. -/
def edOwnCard : Claim7 := { stood := { row := edOwnRow, standIns := [], harness := (true, "e3681793bbf0a2d078eb4042a4e0bf173492eaa95f571cb15d799400e04caeef"), looks := false }, kinds := [], alts := [], laidByText := true, laidKinds := [.data, .data, .data, .data, .data, .data, .data, .data], laidTests := true, laidLooks := .later }
def EdOwnCardSaid : Prop := Claim7.holds Tryd.pinned (.plain (OpenSpec.ofChange edOwnSpec)) edOwnCard

/-- THE TIED CARD OF 'imprimaturlaw05.EdOther'. -/
def edOtherCard : Claim7 := { stood := { row := edOtherRow, standIns := [], harness := (true, "e3681793bbf0a2d078eb4042a4e0bf173492eaa95f571cb15d799400e04caeef"), looks := false }, kinds := [], alts := [], laidByText := true, laidKinds := [.data, .data, .data, .data, .data, .data, .data, .data], laidTests := true, laidLooks := .later }
def EdOtherCardSaid : Prop := Claim7.holds Tryd.pinned (.plain (OpenSpec.ofChange edOtherSpec)) edOtherCard

/-- THE TIED CARD OF 'imprimaturlaw05.EdLong'. -/
def edLongCard : Claim7 := { stood := { row := edLongRow, standIns := [], harness := (true, "e3681793bbf0a2d078eb4042a4e0bf173492eaa95f571cb15d799400e04caeef"), looks := false }, kinds := [], alts := [], laidByText := true, laidKinds := [.data, .data, .data, .data, .data, .data, .data, .data], laidTests := true, laidLooks := .later }
def EdLongCardSaid : Prop := Claim7.holds Tryd.pinned (.plain (OpenSpec.ofChange edLongSpec)) edLongCard

/-- THE SECOND FORM's CARD OF 'imprimaturlaw05.EdOwn'. -/
def edOwnUptoCard : Claim7 := { stood := { row := edOwnUptoRow, standIns := [], harness := (true, "e3681793bbf0a2d078eb4042a4e0bf173492eaa95f571cb15d799400e04caeef"), looks := false }, kinds := [], alts := [], laidByText := true, laidKinds := [.data, .data, .data, .data, .data, .data, .data, .data], laidTests := true, laidLooks := .later }
def EdOwnUptoCardSaid : Prop := Claim7.holds Tryd.pinned (.plain (OpenSpec.upto edOwnSpec)) edOwnUptoCard

/-- THE SECOND FORM's CARD OF 'imprimaturlaw05.EdOther'. -/
def edOtherUptoCard : Claim7 := { stood := { row := edOtherUptoRow, standIns := [], harness := (true, "e3681793bbf0a2d078eb4042a4e0bf173492eaa95f571cb15d799400e04caeef"), looks := false }, kinds := [], alts := [], laidByText := true, laidKinds := [.data, .data, .data, .data, .data, .data, .data, .data], laidTests := true, laidLooks := .later }
def EdOtherUptoCardSaid : Prop := Claim7.holds Tryd.pinned (.plain (OpenSpec.upto edOtherSpec)) edOtherUptoCard

/-- THE SECOND FORM's CARD OF 'imprimaturlaw05.EdLong'. -/
def edLongUptoCard : Claim7 := { stood := { row := edLongUptoRow, standIns := [], harness := (true, "e3681793bbf0a2d078eb4042a4e0bf173492eaa95f571cb15d799400e04caeef"), looks := false }, kinds := [], alts := [], laidByText := true, laidKinds := [.data, .data, .data, .data, .data, .data, .data, .data], laidTests := true, laidLooks := .later }
def EdLongUptoCardSaid : Prop := Claim7.holds Tryd.pinned (.plain (OpenSpec.upto edLongSpec)) edLongUptoCard
end Rows
end Go.Proofs.YtjimhjfjfpeojaaDoor
