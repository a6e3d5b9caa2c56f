/-
  DERIVED. GIVEN WITH THE SEED: THE CARDS: each row of YtjimhjfjfpeojaaGreatDoorRows.lean that lists a variable, with what it lists TIED to the program's text (the seventh form; the later family's looks); each row that meets fmt, with fmt's text TOLD by the authors' own Lean function (tested against real Go, not proved from fmt's source: count such statements apart). THE CARD IS WHAT COUNTS. Prove the row's statement (the work); the ties are given (YtjimhjfjfpeojaaGreatDoorTie.lean); close each card by the builder's one call (the guide's Derived/Test/ToyasCard.lean, 'card_holds'). Laid BY PROGRAM, IN A SANDBOX (cutbox-door.mjs). By AI agents, Wed Nov 11 2026. No macro, syntax, notation, axiom, sorry.
-/
import Derived.Test.YtjimhjfjfpeojaaGreatDoorRows
import GoSem.ClaimSeven
namespace Go.Proofs.YtjimhjfjfpeojaaGreatDoor
namespace Rows

/-- THE TIED CARD OF 'imprimaturlaw05.EdReads'. -/
def edReadsCard : Claim7 := { stood := { row := edReadsRow, standIns := [], harness := (true, "e256e9e8bd896a60bb28718a1a6546ca9417b6408d37da01f1c229b716c0e3d9"), looks := false }, kinds := [], alts := [], laidByText := true, laidKinds := [.data, .data, .data, .data, .data, .data, .data], laidTests := true, laidLooks := .later }
def EdReadsCardSaid : Prop := Claim7.holds Tryz.pinned (.plain (OpenSpec.ofChange edReadsSpec)) edReadsCard

/-- THE TIED CARD OF 'imprimaturlaw05.EdOn'. -/
def edOnCard : Claim7 := { stood := { row := edOnRow, standIns := [], harness := (true, "e256e9e8bd896a60bb28718a1a6546ca9417b6408d37da01f1c229b716c0e3d9"), looks := false }, kinds := [], alts := [], laidByText := true, laidKinds := [.data, .data, .data, .data, .data, .data, .data], laidTests := true, laidLooks := .later }
def EdOnCardSaid : Prop := Claim7.holds Tryz.pinned (.plain (OpenSpec.ofChange edOnSpec)) edOnCard

/-- THE TIED CARD OF 'imprimaturlaw05.EdAdds'. -/
def edAddsCard : Claim7 := { stood := { row := edAddsRow, standIns := [], harness := (true, "e256e9e8bd896a60bb28718a1a6546ca9417b6408d37da01f1c229b716c0e3d9"), looks := false }, kinds := [], alts := [], laidByText := true, laidKinds := [.data, .data, .data, .data, .data, .data, .data], laidTests := true, laidLooks := .later }
def EdAddsCardSaid : Prop := Claim7.holds Tryz.pinned (.plain (OpenSpec.ofChange edAddsSpec)) edAddsCard

/-- THE TIED CARD OF 'imprimaturlaw05.EdMuls'. -/
def edMulsCard : Claim7 := { stood := { row := edMulsRow, standIns := [], harness := (true, "e256e9e8bd896a60bb28718a1a6546ca9417b6408d37da01f1c229b716c0e3d9"), looks := false }, kinds := [], alts := [], laidByText := true, laidKinds := [.data, .data, .data, .data, .data, .data, .data], laidTests := true, laidLooks := .later }
def EdMulsCardSaid : Prop := Claim7.holds Tryz.pinned (.plain (OpenSpec.ofChange edMulsSpec)) edMulsCard

/-- THE TIED CARD OF 'imprimaturlaw05.EdSigns'. -/
def edSignsCard : Claim7 := { stood := { row := edSignsRow, standIns := [], harness := (true, "e256e9e8bd896a60bb28718a1a6546ca9417b6408d37da01f1c229b716c0e3d9"), looks := false }, kinds := [], alts := [], laidByText := true, laidKinds := [.data, .data, .data, .data, .data, .data], laidTests := true, laidLooks := .later }
def EdSignsCardSaid : Prop := Claim7.holds Tryz.pinned (.plain (OpenSpec.ofChange edSignsSpec)) edSignsCard

/-- THE TIED CARD OF 'imprimaturlaw05.EdVerifies'. -/
def edVerifiesCard : Claim7 := { stood := { row := edVerifiesRow, standIns := [], harness := (true, "e256e9e8bd896a60bb28718a1a6546ca9417b6408d37da01f1c229b716c0e3d9"), looks := false }, kinds := [], alts := [], laidByText := true, laidKinds := [.data, .data, .data, .data, .data, .data, .data, .data], laidTests := true, laidLooks := .later }
def EdVerifiesCardSaid : Prop := Claim7.holds Tryz.pinned (.plain (OpenSpec.ofChange edVerifiesSpec)) edVerifiesCard

/-- THE TIED CARD OF 'imprimaturlaw05.EdGroup'. -/
def edGroupCard : Claim7 := { stood := { row := edGroupRow, standIns := [], harness := (true, "e256e9e8bd896a60bb28718a1a6546ca9417b6408d37da01f1c229b716c0e3d9"), looks := false }, kinds := [], alts := [], laidByText := true, laidKinds := [.data, .data, .data, .data, .data, .data, .data], laidTests := true, laidLooks := .later }
def EdGroupCardSaid : Prop := Claim7.holds Tryz.pinned (.plain (OpenSpec.ofChange edGroupSpec)) edGroupCard

/-- THE TIED CARD OF 'imprimaturlaw05.EdShares'. -/
def edSharesCard : Claim7 := { stood := { row := edSharesRow, standIns := [], harness := (true, "e256e9e8bd896a60bb28718a1a6546ca9417b6408d37da01f1c229b716c0e3d9"), looks := false }, kinds := [], alts := [], laidByText := true, laidKinds := [.data, .data, .data, .data, .data, .data, .data], laidTests := true, laidLooks := .later }
def EdSharesCardSaid : Prop := Claim7.holds Tryz.pinned (.plain (OpenSpec.ofChange edSharesSpec)) edSharesCard

/-- THE SECOND FORM's CARD OF 'imprimaturlaw05.EdReads'. -/
def edReadsUptoCard : Claim7 := { stood := { row := edReadsUptoRow, standIns := [], harness := (true, "e256e9e8bd896a60bb28718a1a6546ca9417b6408d37da01f1c229b716c0e3d9"), looks := false }, kinds := [], alts := [], laidByText := true, laidKinds := [.data, .data, .data, .data, .data, .data, .data], laidTests := true, laidLooks := .later }
def EdReadsUptoCardSaid : Prop := Claim7.holds Tryz.pinned (.plain (OpenSpec.upto edReadsSpec)) edReadsUptoCard

/-- THE SECOND FORM's CARD OF 'imprimaturlaw05.EdOn'. -/
def edOnUptoCard : Claim7 := { stood := { row := edOnUptoRow, standIns := [], harness := (true, "e256e9e8bd896a60bb28718a1a6546ca9417b6408d37da01f1c229b716c0e3d9"), looks := false }, kinds := [], alts := [], laidByText := true, laidKinds := [.data, .data, .data, .data, .data, .data, .data], laidTests := true, laidLooks := .later }
def EdOnUptoCardSaid : Prop := Claim7.holds Tryz.pinned (.plain (OpenSpec.upto edOnSpec)) edOnUptoCard

/-- THE SECOND FORM's CARD OF 'imprimaturlaw05.EdAdds'. -/
def edAddsUptoCard : Claim7 := { stood := { row := edAddsUptoRow, standIns := [], harness := (true, "e256e9e8bd896a60bb28718a1a6546ca9417b6408d37da01f1c229b716c0e3d9"), looks := false }, kinds := [], alts := [], laidByText := true, laidKinds := [.data, .data, .data, .data, .data, .data, .data], laidTests := true, laidLooks := .later }
def EdAddsUptoCardSaid : Prop := Claim7.holds Tryz.pinned (.plain (OpenSpec.upto edAddsSpec)) edAddsUptoCard

/-- THE SECOND FORM's CARD OF 'imprimaturlaw05.EdMuls'. -/
def edMulsUptoCard : Claim7 := { stood := { row := edMulsUptoRow, standIns := [], harness := (true, "e256e9e8bd896a60bb28718a1a6546ca9417b6408d37da01f1c229b716c0e3d9"), looks := false }, kinds := [], alts := [], laidByText := true, laidKinds := [.data, .data, .data, .data, .data, .data, .data], laidTests := true, laidLooks := .later }
def EdMulsUptoCardSaid : Prop := Claim7.holds Tryz.pinned (.plain (OpenSpec.upto edMulsSpec)) edMulsUptoCard

/-- THE SECOND FORM's CARD OF 'imprimaturlaw05.EdSigns'. -/
def edSignsUptoCard : Claim7 := { stood := { row := edSignsUptoRow, standIns := [], harness := (true, "e256e9e8bd896a60bb28718a1a6546ca9417b6408d37da01f1c229b716c0e3d9"), looks := false }, kinds := [], alts := [], laidByText := true, laidKinds := [.data, .data, .data, .data, .data, .data], laidTests := true, laidLooks := .later }
def EdSignsUptoCardSaid : Prop := Claim7.holds Tryz.pinned (.plain (OpenSpec.upto edSignsSpec)) edSignsUptoCard

/-- THE SECOND FORM's CARD OF 'imprimaturlaw05.EdVerifies'. -/
def edVerifiesUptoCard : Claim7 := { stood := { row := edVerifiesUptoRow, standIns := [], harness := (true, "e256e9e8bd896a60bb28718a1a6546ca9417b6408d37da01f1c229b716c0e3d9"), looks := false }, kinds := [], alts := [], laidByText := true, laidKinds := [.data, .data, .data, .data, .data, .data, .data, .data], laidTests := true, laidLooks := .later }
def EdVerifiesUptoCardSaid : Prop := Claim7.holds Tryz.pinned (.plain (OpenSpec.upto edVerifiesSpec)) edVerifiesUptoCard

/-- THE SECOND FORM's CARD OF 'imprimaturlaw05.EdGroup'. -/
def edGroupUptoCard : Claim7 := { stood := { row := edGroupUptoRow, standIns := [], harness := (true, "e256e9e8bd896a60bb28718a1a6546ca9417b6408d37da01f1c229b716c0e3d9"), looks := false }, kinds := [], alts := [], laidByText := true, laidKinds := [.data, .data, .data, .data, .data, .data, .data], laidTests := true, laidLooks := .later }
def EdGroupUptoCardSaid : Prop := Claim7.holds Tryz.pinned (.plain (OpenSpec.upto edGroupSpec)) edGroupUptoCard

/-- THE SECOND FORM's CARD OF 'imprimaturlaw05.EdShares'. -/
def edSharesUptoCard : Claim7 := { stood := { row := edSharesUptoRow, standIns := [], harness := (true, "e256e9e8bd896a60bb28718a1a6546ca9417b6408d37da01f1c229b716c0e3d9"), looks := false }, kinds := [], alts := [], laidByText := true, laidKinds := [.data, .data, .data, .data, .data, .data, .data], laidTests := true, laidLooks := .later }
def EdSharesUptoCardSaid : Prop := Claim7.holds Tryz.pinned (.plain (OpenSpec.upto edSharesSpec)) edSharesUptoCard
end Rows
end Go.Proofs.YtjimhjfjfpeojaaGreatDoor
