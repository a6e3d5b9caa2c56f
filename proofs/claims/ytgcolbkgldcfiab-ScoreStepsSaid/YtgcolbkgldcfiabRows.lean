/-
  No cell of these rows narrows 'for every input' (looked for: loops, veiled, ifaces, maps, wideKeys, modest, calm, conditions, laid).
  DERIVED. THE GIVEN ROWS OF THIS SEAT. 2 by the template 'for every input the law returns true; each argument reads behind the call as it read before'; 0 by the template 'total and deterministic' (their statements: YtgcolbkgldcfiabTotals.lean).
  GIVEN WITH THE SEED: the statements are not yours to turn. If you find one false, say at which input.
  Laid BY PROGRAM, IN A SANDBOX (cutbox-rows.mjs): the forced cells as the released guide's own fill.sh prints them over the translation 7f44b25acac9bdf1… (all of the seat's roots in one cut). By AI agents, Wed Nov 11 2026. No macro, syntax, notation, axiom, sorry.
-/
import Derived.Test.YtgcolbkgldcfiabChecked
import GoSem.Claim
import GoSem.ClaimJoined
import GoSem.ClaimMapViews
import Derived.JoinedTies
import Derived.KernelRfl
namespace Go.Proofs.Ytgcolbkgldcfiab
/- THE CELL 'sum', in the pinned program and in every row, IS THE sha256 OF THE DUMP (.gsa) THAT YtgcolbkgldcfiabProg.lean LOADS. Nothing in Lean hashes anything: it is a label: what it is worth is what the hold of that sum in a sandbox is worth. -/
noncomputable def Try.pinned : Pinned := { name := "ytgcolbkgldcfiab", sum := "7f44b25acac9bdf138ebfe6ae3bd3c31514af2cec29001001191ecbd649fcbaf", checked := Try.checked }
namespace Rows
def none {H : Type} : Left H := { results := [], args := [] }

/-- 'imprimaturlaw01.ScoreSteps': WHATEVER THE INPUT: true; the input reads as it did. -/
def scoreStepsSpec : ChangeSpec := { name := "scoreSteps", fn := fun _ => fun
  | [d1, d2, d3, d4] => { results := [.lit (.bool true)], args := [d1, d2, d3, d4] }
  | _ => none }
def scoreStepsRow : OpenClaim := { program := "ytgcolbkgldcfiab", sum := "7f44b25acac9bdf138ebfe6ae3bd3c31514af2cec29001001191ecbd649fcbaf", func := "imprimatur/imprimaturlaw01.ScoreSteps", spec := "scoreSteps", inPlace := ["math.Float64bits", "math.Float64frombits"], recurses := true, apart := false }
def ScoreStepsSaid : Prop := scoreStepsRow.holds Try.pinned (OpenSpec.ofChange scoreStepsSpec)

/-- ITS FALSE NEIGHBOUR: 'it returns false'. Refute it at one input. -/
def scoreStepsWrong : ChangeSpec := { name := "scoreSteps", fn := fun _ => fun
  | [d1, d2, d3, d4] => { results := [.lit (.bool false)], args := [d1, d2, d3, d4] }
  | _ => none }
def ScoreStepsWrongFalsely : Prop := scoreStepsRow.holds Try.pinned (OpenSpec.ofChange scoreStepsWrong)

/-- 'imprimaturlaw01.ScoreWalks': WHATEVER THE INPUT: true; the input reads as it did. -/
def scoreWalksSpec : ChangeSpec := { name := "scoreWalks", fn := fun _ => fun
  | [d1, d2, d3, d4] => { results := [.lit (.bool true)], args := [d1, d2, d3, d4] }
  | _ => none }
def scoreWalksRow : OpenClaim := { program := "ytgcolbkgldcfiab", sum := "7f44b25acac9bdf138ebfe6ae3bd3c31514af2cec29001001191ecbd649fcbaf", func := "imprimatur/imprimaturlaw01.ScoreWalks", spec := "scoreWalks", inPlace := ["math.Float64bits", "math.Float64frombits"], apart := false }
def ScoreWalksSaid : Prop := scoreWalksRow.holds Try.pinned (OpenSpec.ofChange scoreWalksSpec)

/-- ITS FALSE NEIGHBOUR: 'it returns false'. Refute it at one input. -/
def scoreWalksWrong : ChangeSpec := { name := "scoreWalks", fn := fun _ => fun
  | [d1, d2, d3, d4] => { results := [.lit (.bool false)], args := [d1, d2, d3, d4] }
  | _ => none }
def ScoreWalksWrongFalsely : Prop := scoreWalksRow.holds Try.pinned (OpenSpec.ofChange scoreWalksWrong)

/- THE SECOND FORM. 'bulk': how many values and letters a reading holds, each counted each time it is reached (what is shared counts as often as it is met; a slice's spare places count too). A statement '..UptoSaid' is the law's where the arguments, and the package variables that the reading takes, are together of bulk at most 1048576: NARROWER than '..Said'. Prove '..Said' where nothing that the law and all that it calls make is longer than what came in: it says more and counts as full. Else prove '..UptoSaid'. A law counts once. -/
mutual
def uptoBulk {H : Type} : DataW H → Nat
  | .lit (.string bytes) => bytes.length + 1
  | .lit _ => 1
  | .nil => 1
  | .ptr d => uptoBulk d + 1
  | .slice elems spare => uptoBulkAll elems + uptoBulkAll spare + 1
  | .agg parts => uptoBulkAll parts + 1
  | .iface _ d => uptoBulk d + 1
  | .map entries => uptoBulkEntries entries + 1
  | .held _ => 1
def uptoBulkAll {H : Type} : List (DataW H) → Nat
  | [] => 0
  | d :: r => uptoBulk d + uptoBulkAll r
def uptoBulkEntries {H : Type} : List (Lit × DataW H) → Nat
  | [] => 0
  | x :: r => uptoBulkEntry x + uptoBulkEntries r
def uptoBulkEntry {H : Type} : Lit × DataW H → Nat
  | (.string bytes, d) => bytes.length + uptoBulk d + 1
  | (_, d) => uptoBulk d + 1
 end
def uptoSmall : (H : Type) → List (DataW H) → Bool := fun _ ds => decide (uptoBulkAll ds ≤ 1048576)
def OpenSpec.upto (s : _root_.Go.ChangeSpec) : _root_.Go.OpenSpec := { _root_.Go.OpenSpec.ofChange s with cond := some uptoSmall }

/-- 'imprimaturlaw01.ScoreSteps', WHERE WHAT IT READS IS OF BULK AT MOST 1048576: true; the input reads as it did. -/
def scoreStepsUptoRow : OpenClaim := { program := "ytgcolbkgldcfiab", sum := "7f44b25acac9bdf138ebfe6ae3bd3c31514af2cec29001001191ecbd649fcbaf", func := "imprimatur/imprimaturlaw01.ScoreSteps", spec := "scoreSteps", inPlace := ["math.Float64bits", "math.Float64frombits"], recurses := true, apart := false, narrowed := true }
def ScoreStepsUptoSaid : Prop := scoreStepsUptoRow.holds Try.pinned (OpenSpec.upto scoreStepsSpec)

/-- 'imprimaturlaw01.ScoreWalks', WHERE WHAT IT READS IS OF BULK AT MOST 1048576: true; the input reads as it did. -/
def scoreWalksUptoRow : OpenClaim := { program := "ytgcolbkgldcfiab", sum := "7f44b25acac9bdf138ebfe6ae3bd3c31514af2cec29001001191ecbd649fcbaf", func := "imprimatur/imprimaturlaw01.ScoreWalks", spec := "scoreWalks", inPlace := ["math.Float64bits", "math.Float64frombits"], apart := false, narrowed := true }
def ScoreWalksUptoSaid : Prop := scoreWalksUptoRow.holds Try.pinned (OpenSpec.upto scoreWalksSpec)

end Rows
end Go.Proofs.Ytgcolbkgldcfiab
