/-
  No cell of these rows narrows 'for every input' (looked for: loops, veiled, ifaces, maps, wideKeys, modest, calm, conditions, laid).
  DERIVED. THE GIVEN ROWS OF THIS SEAT. 4 by the template 'for every input the law returns true; each argument reads behind the call as it read before'; 0 by the template 'total and deterministic' (their statements: YteblmphohhbgcaaGreatTotals.lean).
  GIVEN WITH THE SEED: the statements are not yours to turn. If you find one false, say at which input.
  Laid BY PROGRAM, IN A SANDBOX (cutbox-rows.mjs): the forced cells as the released guide's own fill.sh prints them over the translation ab2e595392efc9ff… (all of the seat's roots in one cut). By AI agents, Wed Nov 11 2026. No macro, syntax, notation, axiom, sorry.
-/
import Derived.Test.YteblmphohhbgcaaGreatChecked
import GoSem.Claim
import GoSem.ClaimJoined
import GoSem.ClaimMapViews
import Derived.JoinedTies
import Derived.KernelRfl
namespace Go.Proofs.YteblmphohhbgcaaGreat
/- THE CELL 'sum', in the pinned program and in every row, IS THE sha256 OF THE DUMP (.gsa) THAT YteblmphohhbgcaaGreatProg.lean LOADS. Nothing in Lean hashes anything: it is a label: what it is worth is what the hold of that sum in a sandbox is worth. -/
noncomputable def Tryz.pinned : Pinned := { name := "yteblmphohhbgcaagreat", sum := "ab2e595392efc9ff6e655e8028c2ca8de0fd238400db791f2e3114070ee5bd90", checked := Tryz.checked }
namespace Rows
def none {H : Type} : Left H := { results := [], args := [] }

/-- 'imprimaturlaw09.MetaRoots': WHATEVER THE INPUT: true; the input reads as it did. -/
def metaRootsSpec : ChangeSpec := { name := "metaRoots", fn := fun _ => fun
  | [d1, d2] => { results := [.lit (.bool true)], args := [d1, d2] }
  | _ => none }
def metaRootsRow : OpenClaim := { program := "yteblmphohhbgcaagreat", sum := "ab2e595392efc9ff6e655e8028c2ca8de0fd238400db791f2e3114070ee5bd90", func := "imprimatur/imprimaturlaw09.MetaRoots", spec := "metaRoots", inPlace := ["internal/bytealg.Compare"], unfollowed := true, recurses := true, apart := false }
def MetaRootsSaid : Prop := metaRootsRow.holds Tryz.pinned (OpenSpec.ofChange metaRootsSpec)

/-- ITS FALSE NEIGHBOUR: 'it returns false'. Refute it at one input. -/
def metaRootsWrong : ChangeSpec := { name := "metaRoots", fn := fun _ => fun
  | [d1, d2] => { results := [.lit (.bool false)], args := [d1, d2] }
  | _ => none }
def MetaRootsWrongFalsely : Prop := metaRootsRow.holds Tryz.pinned (OpenSpec.ofChange metaRootsWrong)

/-- 'imprimaturlaw09.MetaTimes': WHATEVER THE INPUT: true; the input reads as it did. -/
def metaTimesSpec : ChangeSpec := { name := "metaTimes", fn := fun _ => fun
  | [d1, d2] => { results := [.lit (.bool true)], args := [d1, d2] }
  | _ => none }
def metaTimesRow : OpenClaim := { program := "yteblmphohhbgcaagreat", sum := "ab2e595392efc9ff6e655e8028c2ca8de0fd238400db791f2e3114070ee5bd90", func := "imprimatur/imprimaturlaw09.MetaTimes", spec := "metaTimes", inPlace := ["internal/bytealg.Compare"], unfollowed := true, recurses := true, apart := false }
def MetaTimesSaid : Prop := metaTimesRow.holds Tryz.pinned (OpenSpec.ofChange metaTimesSpec)

/-- ITS FALSE NEIGHBOUR: 'it returns false'. Refute it at one input. -/
def metaTimesWrong : ChangeSpec := { name := "metaTimes", fn := fun _ => fun
  | [d1, d2] => { results := [.lit (.bool false)], args := [d1, d2] }
  | _ => none }
def MetaTimesWrongFalsely : Prop := metaTimesRow.holds Tryz.pinned (OpenSpec.ofChange metaTimesWrong)

/-- 'imprimaturlaw09.MetaTargets': WHATEVER THE INPUT: true; the input reads as it did. -/
def metaTargetsSpec : ChangeSpec := { name := "metaTargets", fn := fun _ => fun
  | [d1, d2] => { results := [.lit (.bool true)], args := [d1, d2] }
  | _ => none }
def metaTargetsRow : OpenClaim := { program := "yteblmphohhbgcaagreat", sum := "ab2e595392efc9ff6e655e8028c2ca8de0fd238400db791f2e3114070ee5bd90", func := "imprimatur/imprimaturlaw09.MetaTargets", spec := "metaTargets", inPlace := ["internal/bytealg.Compare"], unfollowed := true, recurses := true, apart := false }
def MetaTargetsSaid : Prop := metaTargetsRow.holds Tryz.pinned (OpenSpec.ofChange metaTargetsSpec)

/-- ITS FALSE NEIGHBOUR: 'it returns false'. Refute it at one input. -/
def metaTargetsWrong : ChangeSpec := { name := "metaTargets", fn := fun _ => fun
  | [d1, d2] => { results := [.lit (.bool false)], args := [d1, d2] }
  | _ => none }
def MetaTargetsWrongFalsely : Prop := metaTargetsRow.holds Tryz.pinned (OpenSpec.ofChange metaTargetsWrong)

/-- 'imprimaturlaw09.MetaSigned': WHATEVER THE INPUT: true; the input reads as it did. -/
def metaSignedSpec : ChangeSpec := { name := "metaSigned", fn := fun _ => fun
  | [d1, d2] => { results := [.lit (.bool true)], args := [d1, d2] }
  | _ => none }
def metaSignedRow : OpenClaim := { program := "yteblmphohhbgcaagreat", sum := "ab2e595392efc9ff6e655e8028c2ca8de0fd238400db791f2e3114070ee5bd90", func := "imprimatur/imprimaturlaw09.MetaSigned", spec := "metaSigned", inPlace := ["internal/bytealg.Compare"], unfollowed := true, recurses := true, apart := false }
def MetaSignedSaid : Prop := metaSignedRow.holds Tryz.pinned (OpenSpec.ofChange metaSignedSpec)

/-- ITS FALSE NEIGHBOUR: 'it returns false'. Refute it at one input. -/
def metaSignedWrong : ChangeSpec := { name := "metaSigned", fn := fun _ => fun
  | [d1, d2] => { results := [.lit (.bool false)], args := [d1, d2] }
  | _ => none }
def MetaSignedWrongFalsely : Prop := metaSignedRow.holds Tryz.pinned (OpenSpec.ofChange metaSignedWrong)

/- THE SECOND FORM. 'bulk': how many values and letters a reading holds, each counted each time it is reached (what is shared counts as often as it is met; a slice's spare places count too). A statement '..UptoSaid' is the law's where the arguments, and the package variables that the reading takes, are together of bulk at most 1048576: NARROWER than '..Said'. Prove '..Said' where nothing that the law and all that it calls make is longer than what came in: it says more and counts as full. Else prove '..UptoSaid'. A law counts once. -/
mutual
def uptoBulk {H : Type} : DataW H → Nat
  | .lit (.string bytes) => bytes.length + 1
  | .lit _ => 1
  | .nil => 1
  | .ptr d => uptoBulk d + 1
  | .slice elems spare => uptoBulkAll elems + uptoBulkAll spare + 1
  | .agg parts => uptoBulkAll parts + 1
  | .iface _ d => uptoBulk d + 1
  | .map entries => uptoBulkEntries entries + 1
  | .held _ => 1
def uptoBulkAll {H : Type} : List (DataW H) → Nat
  | [] => 0
  | d :: r => uptoBulk d + uptoBulkAll r
def uptoBulkEntries {H : Type} : List (Lit × DataW H) → Nat
  | [] => 0
  | x :: r => uptoBulkEntry x + uptoBulkEntries r
def uptoBulkEntry {H : Type} : Lit × DataW H → Nat
  | (.string bytes, d) => bytes.length + uptoBulk d + 1
  | (_, d) => uptoBulk d + 1
 end
def uptoSmall : (H : Type) → List (DataW H) → Bool := fun _ ds => decide (uptoBulkAll ds ≤ 1048576)
def OpenSpec.upto (s : _root_.Go.ChangeSpec) : _root_.Go.OpenSpec := { _root_.Go.OpenSpec.ofChange s with cond := some uptoSmall }

/-- 'imprimaturlaw09.MetaRoots', WHERE WHAT IT READS IS OF BULK AT MOST 1048576: true; the input reads as it did. -/
def metaRootsUptoRow : OpenClaim := { program := "yteblmphohhbgcaagreat", sum := "ab2e595392efc9ff6e655e8028c2ca8de0fd238400db791f2e3114070ee5bd90", func := "imprimatur/imprimaturlaw09.MetaRoots", spec := "metaRoots", inPlace := ["internal/bytealg.Compare"], unfollowed := true, recurses := true, apart := false, narrowed := true }
def MetaRootsUptoSaid : Prop := metaRootsUptoRow.holds Tryz.pinned (OpenSpec.upto metaRootsSpec)

/-- 'imprimaturlaw09.MetaTimes', WHERE WHAT IT READS IS OF BULK AT MOST 1048576: true; the input reads as it did. -/
def metaTimesUptoRow : OpenClaim := { program := "yteblmphohhbgcaagreat", sum := "ab2e595392efc9ff6e655e8028c2ca8de0fd238400db791f2e3114070ee5bd90", func := "imprimatur/imprimaturlaw09.MetaTimes", spec := "metaTimes", inPlace := ["internal/bytealg.Compare"], unfollowed := true, recurses := true, apart := false, narrowed := true }
def MetaTimesUptoSaid : Prop := metaTimesUptoRow.holds Tryz.pinned (OpenSpec.upto metaTimesSpec)

/-- 'imprimaturlaw09.MetaTargets', WHERE WHAT IT READS IS OF BULK AT MOST 1048576: true; the input reads as it did. -/
def metaTargetsUptoRow : OpenClaim := { program := "yteblmphohhbgcaagreat", sum := "ab2e595392efc9ff6e655e8028c2ca8de0fd238400db791f2e3114070ee5bd90", func := "imprimatur/imprimaturlaw09.MetaTargets", spec := "metaTargets", inPlace := ["internal/bytealg.Compare"], unfollowed := true, recurses := true, apart := false, narrowed := true }
def MetaTargetsUptoSaid : Prop := metaTargetsUptoRow.holds Tryz.pinned (OpenSpec.upto metaTargetsSpec)

/-- 'imprimaturlaw09.MetaSigned', WHERE WHAT IT READS IS OF BULK AT MOST 1048576: true; the input reads as it did. -/
def metaSignedUptoRow : OpenClaim := { program := "yteblmphohhbgcaagreat", sum := "ab2e595392efc9ff6e655e8028c2ca8de0fd238400db791f2e3114070ee5bd90", func := "imprimatur/imprimaturlaw09.MetaSigned", spec := "metaSigned", inPlace := ["internal/bytealg.Compare"], unfollowed := true, recurses := true, apart := false, narrowed := true }
def MetaSignedUptoSaid : Prop := metaSignedUptoRow.holds Tryz.pinned (OpenSpec.upto metaSignedSpec)

end Rows
end Go.Proofs.YteblmphohhbgcaaGreat
