/-
  DERIVED. GIVEN WITH THE SEED: THE CARDS: each row of YteechlkccmcpfaaDoorRows.lean that lists a variable, with what it lists TIED to the program's text (the seventh form; the later family's looks); each row that meets fmt, with fmt's text TOLD by the authors' own Lean function (tested against real Go, not proved from fmt's source: count such statements apart). THE CARD IS WHAT COUNTS. Prove the row's statement (the work); the ties are given (YteechlkccmcpfaaDoorTie.lean); close each card by the builder's one call (the guide's Derived/Test/ToyasCard.lean, 'card_holds'). Laid BY PROGRAM, IN A SANDBOX (cutbox-door.mjs). By AI agents, Wed Nov 11 2026. No macro, syntax, notation, axiom, sorry.
-/
import Derived.Test.YteechlkccmcpfaaDoorRows
import GoSem.ClaimSeven
namespace Go.Proofs.YteechlkccmcpfaaDoor
namespace Rows

/-- THE TIED CARD OF 'imprimaturlaw04.FieldBack'. -/
def fieldBackCard : Claim7 := { stood := { row := fieldBackRow, standIns := [], harness := (true, "3ce0b5d333a5c404b372538f6617f85150447fea07008287734e46097ee0517c"), looks := false }, kinds := [], alts := [], laidByText := true, laidKinds := [.data], laidTests := true, laidLooks := .later }
def FieldBackCardSaid : Prop := Claim7.holds Tryd.pinned (.plain (OpenSpec.ofChange fieldBackSpec)) fieldBackCard

/-- THE TIED CARD OF 'imprimaturlaw04.FieldReads'. -/
def fieldReadsCard : Claim7 := { stood := { row := fieldReadsRow, standIns := [], harness := (true, "3ce0b5d333a5c404b372538f6617f85150447fea07008287734e46097ee0517c"), looks := false }, kinds := [], alts := [], laidByText := true, laidKinds := [.data], laidTests := true, laidLooks := .later }
def FieldReadsCardSaid : Prop := Claim7.holds Tryd.pinned (.plain (OpenSpec.ofChange fieldReadsSpec)) fieldReadsCard

/-- THE TIED CARD OF 'imprimaturlaw04.FieldSums'. -/
def fieldSumsCard : Claim7 := { stood := { row := fieldSumsRow, standIns := [], harness := (true, "3ce0b5d333a5c404b372538f6617f85150447fea07008287734e46097ee0517c"), looks := false }, kinds := [], alts := [], laidByText := true, laidKinds := [.data], laidTests := true, laidLooks := .later }
def FieldSumsCardSaid : Prop := Claim7.holds Tryd.pinned (.plain (OpenSpec.ofChange fieldSumsSpec)) fieldSumsCard

/-- THE TIED CARD OF 'imprimaturlaw04.FieldProducts'. -/
def fieldProductsCard : Claim7 := { stood := { row := fieldProductsRow, standIns := [], harness := (true, "3ce0b5d333a5c404b372538f6617f85150447fea07008287734e46097ee0517c"), looks := false }, kinds := [], alts := [], laidByText := true, laidKinds := [.data], laidTests := true, laidLooks := .later }
def FieldProductsCardSaid : Prop := Claim7.holds Tryd.pinned (.plain (OpenSpec.ofChange fieldProductsSpec)) fieldProductsCard

/-- THE TIED CARD OF 'imprimaturlaw04.FieldSame'. -/
def fieldSameCard : Claim7 := { stood := { row := fieldSameRow, standIns := [], harness := (true, "3ce0b5d333a5c404b372538f6617f85150447fea07008287734e46097ee0517c"), looks := false }, kinds := [], alts := [], laidByText := true, laidKinds := [.data], laidTests := true, laidLooks := .later }
def FieldSameCardSaid : Prop := Claim7.holds Tryd.pinned (.plain (OpenSpec.ofChange fieldSameSpec)) fieldSameCard

/-- THE TIED CARD OF 'imprimaturlaw04.FieldPowers'. -/
def fieldPowersCard : Claim7 := { stood := { row := fieldPowersRow, standIns := [], harness := (true, "3ce0b5d333a5c404b372538f6617f85150447fea07008287734e46097ee0517c"), looks := false }, kinds := [], alts := [], laidByText := true, laidKinds := [.data], laidTests := true, laidLooks := .later }
def FieldPowersCardSaid : Prop := Claim7.holds Tryd.pinned (.plain (OpenSpec.ofChange fieldPowersSpec)) fieldPowersCard

/-- THE TIED CARD OF 'imprimaturlaw04.FieldRoots'. -/
def fieldRootsCard : Claim7 := { stood := { row := fieldRootsRow, standIns := [], harness := (true, "3ce0b5d333a5c404b372538f6617f85150447fea07008287734e46097ee0517c"), looks := false }, kinds := [], alts := [], laidByText := true, laidKinds := [.data], laidTests := true, laidLooks := .later }
def FieldRootsCardSaid : Prop := Claim7.holds Tryd.pinned (.plain (OpenSpec.ofChange fieldRootsSpec)) fieldRootsCard

/-- THE TIED CARD OF 'imprimaturlaw04.FieldScalars'. -/
def fieldScalarsCard : Claim7 := { stood := { row := fieldScalarsRow, standIns := [], harness := (true, "3ce0b5d333a5c404b372538f6617f85150447fea07008287734e46097ee0517c"), looks := false }, kinds := [], alts := [], laidByText := true, laidKinds := [.data, .data], laidTests := true, laidLooks := .later }
def FieldScalarsCardSaid : Prop := Claim7.holds Tryd.pinned (.plain (OpenSpec.ofChange fieldScalarsSpec)) fieldScalarsCard

/-- THE TIED CARD OF 'imprimaturlaw04.FieldTimes'. -/
def fieldTimesCard : Claim7 := { stood := { row := fieldTimesRow, standIns := [], harness := (true, "3ce0b5d333a5c404b372538f6617f85150447fea07008287734e46097ee0517c"), looks := false }, kinds := [], alts := [], laidByText := true, laidKinds := [.data, .data], laidTests := true, laidLooks := .later }
def FieldTimesCardSaid : Prop := Claim7.holds Tryd.pinned (.plain (OpenSpec.ofChange fieldTimesSpec)) fieldTimesCard

/-- THE TIED CARD OF 'imprimaturlaw04.FieldShares'. -/
def fieldSharesCard : Claim7 := { stood := { row := fieldSharesRow, standIns := [], harness := (true, "3ce0b5d333a5c404b372538f6617f85150447fea07008287734e46097ee0517c"), looks := false }, kinds := [], alts := [], laidByText := true, laidKinds := [.data, .data], laidTests := true, laidLooks := .later }
def FieldSharesCardSaid : Prop := Claim7.holds Tryd.pinned (.plain (OpenSpec.ofChange fieldSharesSpec)) fieldSharesCard

/-- THE SECOND FORM's CARD OF 'imprimaturlaw04.FieldBack'. -/
def fieldBackUptoCard : Claim7 := { stood := { row := fieldBackUptoRow, standIns := [], harness := (true, "3ce0b5d333a5c404b372538f6617f85150447fea07008287734e46097ee0517c"), looks := false }, kinds := [], alts := [], laidByText := true, laidKinds := [.data], laidTests := true, laidLooks := .later }
def FieldBackUptoCardSaid : Prop := Claim7.holds Tryd.pinned (.plain (OpenSpec.upto fieldBackSpec)) fieldBackUptoCard

/-- THE SECOND FORM's CARD OF 'imprimaturlaw04.FieldReads'. -/
def fieldReadsUptoCard : Claim7 := { stood := { row := fieldReadsUptoRow, standIns := [], harness := (true, "3ce0b5d333a5c404b372538f6617f85150447fea07008287734e46097ee0517c"), looks := false }, kinds := [], alts := [], laidByText := true, laidKinds := [.data], laidTests := true, laidLooks := .later }
def FieldReadsUptoCardSaid : Prop := Claim7.holds Tryd.pinned (.plain (OpenSpec.upto fieldReadsSpec)) fieldReadsUptoCard

/-- THE SECOND FORM's CARD OF 'imprimaturlaw04.FieldSums'. -/
def fieldSumsUptoCard : Claim7 := { stood := { row := fieldSumsUptoRow, standIns := [], harness := (true, "3ce0b5d333a5c404b372538f6617f85150447fea07008287734e46097ee0517c"), looks := false }, kinds := [], alts := [], laidByText := true, laidKinds := [.data], laidTests := true, laidLooks := .later }
def FieldSumsUptoCardSaid : Prop := Claim7.holds Tryd.pinned (.plain (OpenSpec.upto fieldSumsSpec)) fieldSumsUptoCard

/-- THE SECOND FORM's CARD OF 'imprimaturlaw04.FieldProducts'. -/
def fieldProductsUptoCard : Claim7 := { stood := { row := fieldProductsUptoRow, standIns := [], harness := (true, "3ce0b5d333a5c404b372538f6617f85150447fea07008287734e46097ee0517c"), looks := false }, kinds := [], alts := [], laidByText := true, laidKinds := [.data], laidTests := true, laidLooks := .later }
def FieldProductsUptoCardSaid : Prop := Claim7.holds Tryd.pinned (.plain (OpenSpec.upto fieldProductsSpec)) fieldProductsUptoCard

/-- THE SECOND FORM's CARD OF 'imprimaturlaw04.FieldSame'. -/
def fieldSameUptoCard : Claim7 := { stood := { row := fieldSameUptoRow, standIns := [], harness := (true, "3ce0b5d333a5c404b372538f6617f85150447fea07008287734e46097ee0517c"), looks := false }, kinds := [], alts := [], laidByText := true, laidKinds := [.data], laidTests := true, laidLooks := .later }
def FieldSameUptoCardSaid : Prop := Claim7.holds Tryd.pinned (.plain (OpenSpec.upto fieldSameSpec)) fieldSameUptoCard

/-- THE SECOND FORM's CARD OF 'imprimaturlaw04.FieldPowers'. -/
def fieldPowersUptoCard : Claim7 := { stood := { row := fieldPowersUptoRow, standIns := [], harness := (true, "3ce0b5d333a5c404b372538f6617f85150447fea07008287734e46097ee0517c"), looks := false }, kinds := [], alts := [], laidByText := true, laidKinds := [.data], laidTests := true, laidLooks := .later }
def FieldPowersUptoCardSaid : Prop := Claim7.holds Tryd.pinned (.plain (OpenSpec.upto fieldPowersSpec)) fieldPowersUptoCard

/-- THE SECOND FORM's CARD OF 'imprimaturlaw04.FieldRoots'. -/
def fieldRootsUptoCard : Claim7 := { stood := { row := fieldRootsUptoRow, standIns := [], harness := (true, "3ce0b5d333a5c404b372538f6617f85150447fea07008287734e46097ee0517c"), looks := false }, kinds := [], alts := [], laidByText := true, laidKinds := [.data], laidTests := true, laidLooks := .later }
def FieldRootsUptoCardSaid : Prop := Claim7.holds Tryd.pinned (.plain (OpenSpec.upto fieldRootsSpec)) fieldRootsUptoCard

/-- THE SECOND FORM's CARD OF 'imprimaturlaw04.FieldScalars'. -/
def fieldScalarsUptoCard : Claim7 := { stood := { row := fieldScalarsUptoRow, standIns := [], harness := (true, "3ce0b5d333a5c404b372538f6617f85150447fea07008287734e46097ee0517c"), looks := false }, kinds := [], alts := [], laidByText := true, laidKinds := [.data, .data], laidTests := true, laidLooks := .later }
def FieldScalarsUptoCardSaid : Prop := Claim7.holds Tryd.pinned (.plain (OpenSpec.upto fieldScalarsSpec)) fieldScalarsUptoCard

/-- THE SECOND FORM's CARD OF 'imprimaturlaw04.FieldTimes'. -/
def fieldTimesUptoCard : Claim7 := { stood := { row := fieldTimesUptoRow, standIns := [], harness := (true, "3ce0b5d333a5c404b372538f6617f85150447fea07008287734e46097ee0517c"), looks := false }, kinds := [], alts := [], laidByText := true, laidKinds := [.data, .data], laidTests := true, laidLooks := .later }
def FieldTimesUptoCardSaid : Prop := Claim7.holds Tryd.pinned (.plain (OpenSpec.upto fieldTimesSpec)) fieldTimesUptoCard

/-- THE SECOND FORM's CARD OF 'imprimaturlaw04.FieldShares'. -/
def fieldSharesUptoCard : Claim7 := { stood := { row := fieldSharesUptoRow, standIns := [], harness := (true, "3ce0b5d333a5c404b372538f6617f85150447fea07008287734e46097ee0517c"), looks := false }, kinds := [], alts := [], laidByText := true, laidKinds := [.data, .data], laidTests := true, laidLooks := .later }
def FieldSharesUptoCardSaid : Prop := Claim7.holds Tryd.pinned (.plain (OpenSpec.upto fieldSharesSpec)) fieldSharesUptoCard
end Rows
end Go.Proofs.YteechlkccmcpfaaDoor
