/-
  No cell of these rows narrows 'for every input' (looked for: loops, veiled, ifaces, maps, wideKeys, modest, calm, conditions, laid).
  DERIVED. THE GIVEN ROWS OF THIS SEAT. 3 by the template 'for every input the law returns true; each argument reads behind the call as it read before'; 0 by the template 'total and deterministic' (their statements: YteblmphohhbgcaaTotals.lean).
  GIVEN WITH THE SEED: the statements are not yours to turn. If you find one false, say at which input.
  Laid BY PROGRAM, IN A SANDBOX (cutbox-rows.mjs): the forced cells as the released guide's own fill.sh prints them over the translation 9445b21b068f98a7… (all of the seat's roots in one cut). By AI agents, Wed Nov 11 2026. No macro, syntax, notation, axiom, sorry.
-/
import Derived.Test.YteblmphohhbgcaaChecked
import GoSem.Claim
import GoSem.ClaimJoined
import GoSem.ClaimMapViews
import Derived.JoinedTies
import Derived.KernelRfl
namespace Go.Proofs.Yteblmphohhbgcaa
/- THE CELL 'sum', in the pinned program and in every row, IS THE sha256 OF THE DUMP (.gsa) THAT YteblmphohhbgcaaProg.lean LOADS. Nothing in Lean hashes anything: it is a label: what it is worth is what the hold of that sum in a sandbox is worth. -/
noncomputable def Try.pinned : Pinned := { name := "yteblmphohhbgcaa", sum := "9445b21b068f98a7eb313770bd50f379579c16ed39244509f9c9f76722327ff0", checked := Try.checked }
namespace Rows
def none {H : Type} : Left H := { results := [], args := [] }

/-- 'imprimaturlaw09.MetaBack': WHATEVER THE INPUT: true; the input reads as it did. -/
def metaBackSpec : ChangeSpec := { name := "metaBack", fn := fun _ => fun
  | [d1, d2, d3] => { results := [.lit (.bool true)], args := [d1, d2, d3] }
  | _ => none }
def metaBackRow : OpenClaim := { program := "yteblmphohhbgcaa", sum := "9445b21b068f98a7eb313770bd50f379579c16ed39244509f9c9f76722327ff0", func := "imprimatur/imprimaturlaw09.MetaBack", spec := "metaBack", inPlace := ["internal/bytealg.Compare"], unfollowed := true, recurses := true, apart := false }
def MetaBackSaid : Prop := metaBackRow.holds Try.pinned (OpenSpec.ofChange metaBackSpec)

/-- ITS FALSE NEIGHBOUR: 'it returns false'. Refute it at one input. -/
def metaBackWrong : ChangeSpec := { name := "metaBack", fn := fun _ => fun
  | [d1, d2, d3] => { results := [.lit (.bool false)], args := [d1, d2, d3] }
  | _ => none }
def MetaBackWrongFalsely : Prop := metaBackRow.holds Try.pinned (OpenSpec.ofChange metaBackWrong)

/-- 'imprimaturlaw09.MetaApart': WHATEVER THE INPUT: true; the input reads as it did. -/
def metaApartSpec : ChangeSpec := { name := "metaApart", fn := fun _ => fun
  | [d1, d2, d3, d4] => { results := [.lit (.bool true)], args := [d1, d2, d3, d4] }
  | _ => none }
def metaApartRow : OpenClaim := { program := "yteblmphohhbgcaa", sum := "9445b21b068f98a7eb313770bd50f379579c16ed39244509f9c9f76722327ff0", func := "imprimatur/imprimaturlaw09.MetaApart", spec := "metaApart", inPlace := ["internal/bytealg.Compare"], unfollowed := true, recurses := true, apart := false }
def MetaApartSaid : Prop := metaApartRow.holds Try.pinned (OpenSpec.ofChange metaApartSpec)

/-- ITS FALSE NEIGHBOUR: 'it returns false'. Refute it at one input. -/
def metaApartWrong : ChangeSpec := { name := "metaApart", fn := fun _ => fun
  | [d1, d2, d3, d4] => { results := [.lit (.bool false)], args := [d1, d2, d3, d4] }
  | _ => none }
def MetaApartWrongFalsely : Prop := metaApartRow.holds Try.pinned (OpenSpec.ofChange metaApartWrong)

/-- 'imprimaturlaw09.MetaCut': WHATEVER THE INPUT: true; the input reads as it did. -/
def metaCutSpec : ChangeSpec := { name := "metaCut", fn := fun _ => fun
  | [d1, d2, d3, d4] => { results := [.lit (.bool true)], args := [d1, d2, d3, d4] }
  | _ => none }
def metaCutRow : OpenClaim := { program := "yteblmphohhbgcaa", sum := "9445b21b068f98a7eb313770bd50f379579c16ed39244509f9c9f76722327ff0", func := "imprimatur/imprimaturlaw09.MetaCut", spec := "metaCut", inPlace := ["internal/bytealg.Compare"], unfollowed := true, recurses := true, apart := false }
def MetaCutSaid : Prop := metaCutRow.holds Try.pinned (OpenSpec.ofChange metaCutSpec)

/-- ITS FALSE NEIGHBOUR: 'it returns false'. Refute it at one input. -/
def metaCutWrong : ChangeSpec := { name := "metaCut", fn := fun _ => fun
  | [d1, d2, d3, d4] => { results := [.lit (.bool false)], args := [d1, d2, d3, d4] }
  | _ => none }
def MetaCutWrongFalsely : Prop := metaCutRow.holds Try.pinned (OpenSpec.ofChange metaCutWrong)

/- THE SECOND FORM. 'bulk': how many values and letters a reading holds, each counted each time it is reached (what is shared counts as often as it is met; a slice's spare places count too). A statement '..UptoSaid' is the law's where the arguments, and the package variables that the reading takes, are together of bulk at most 1048576: NARROWER than '..Said'. Prove '..Said' where nothing that the law and all that it calls make is longer than what came in: it says more and counts as full. Else prove '..UptoSaid'. A law counts once. -/
mutual
def uptoBulk {H : Type} : DataW H → Nat
  | .lit (.string bytes) => bytes.length + 1
  | .lit _ => 1
  | .nil => 1
  | .ptr d => uptoBulk d + 1
  | .slice elems spare => uptoBulkAll elems + uptoBulkAll spare + 1
  | .agg parts => uptoBulkAll parts + 1
  | .iface _ d => uptoBulk d + 1
  | .map entries => uptoBulkEntries entries + 1
  | .held _ => 1
def uptoBulkAll {H : Type} : List (DataW H) → Nat
  | [] => 0
  | d :: r => uptoBulk d + uptoBulkAll r
def uptoBulkEntries {H : Type} : List (Lit × DataW H) → Nat
  | [] => 0
  | x :: r => uptoBulkEntry x + uptoBulkEntries r
def uptoBulkEntry {H : Type} : Lit × DataW H → Nat
  | (.string bytes, d) => bytes.length + uptoBulk d + 1
  | (_, d) => uptoBulk d + 1
 end
def uptoSmall : (H : Type) → List (DataW H) → Bool := fun _ ds => decide (uptoBulkAll ds ≤ 1048576)
def OpenSpec.upto (s : _root_.Go.ChangeSpec) : _root_.Go.OpenSpec := { _root_.Go.OpenSpec.ofChange s with cond := some uptoSmall }

/-- 'imprimaturlaw09.MetaBack', WHERE WHAT IT READS IS OF BULK AT MOST 1048576: true; the input reads as it did. -/
def metaBackUptoRow : OpenClaim := { program := "yteblmphohhbgcaa", sum := "9445b21b068f98a7eb313770bd50f379579c16ed39244509f9c9f76722327ff0", func := "imprimatur/imprimaturlaw09.MetaBack", spec := "metaBack", inPlace := ["internal/bytealg.Compare"], unfollowed := true, recurses := true, apart := false, narrowed := true }
def MetaBackUptoSaid : Prop := metaBackUptoRow.holds Try.pinned (OpenSpec.upto metaBackSpec)

/-- 'imprimaturlaw09.MetaApart', WHERE WHAT IT READS IS OF BULK AT MOST 1048576: true; the input reads as it did. -/
def metaApartUptoRow : OpenClaim := { program := "yteblmphohhbgcaa", sum := "9445b21b068f98a7eb313770bd50f379579c16ed39244509f9c9f76722327ff0", func := "imprimatur/imprimaturlaw09.MetaApart", spec := "metaApart", inPlace := ["internal/bytealg.Compare"], unfollowed := true, recurses := true, apart := false, narrowed := true }
def MetaApartUptoSaid : Prop := metaApartUptoRow.holds Try.pinned (OpenSpec.upto metaApartSpec)

/-- 'imprimaturlaw09.MetaCut', WHERE WHAT IT READS IS OF BULK AT MOST 1048576: true; the input reads as it did. -/
def metaCutUptoRow : OpenClaim := { program := "yteblmphohhbgcaa", sum := "9445b21b068f98a7eb313770bd50f379579c16ed39244509f9c9f76722327ff0", func := "imprimatur/imprimaturlaw09.MetaCut", spec := "metaCut", inPlace := ["internal/bytealg.Compare"], unfollowed := true, recurses := true, apart := false, narrowed := true }
def MetaCutUptoSaid : Prop := metaCutUptoRow.holds Try.pinned (OpenSpec.upto metaCutSpec)

end Rows
end Go.Proofs.Yteblmphohhbgcaa
