/-
  The walks of the laws of layer 1 that only take numbers.
-/
import Derived.Test.YtgcolbkgldcfiabScKnown
namespace Go.Proofs.Ytgcolbkgldcfiab.Sc
open Go.RowKit
set_option linter.unusedVariables false

theorem wf_f64 {b : Nat} (h : (Lit.float .f64 b).wf = true) : b < 18446744073709551616 := by
  simpa [Lit.wf] using h
theorem wf_u64 {b : Int} (h : (Lit.int .u64 b).wf = true) : 0 ≤ b ∧ b < 18446744073709551616 := by
  have : 0 ≤ b ∧ b ≤ 18446744073709551615 := by simpa [Lit.wf, IntKind.min, IntKind.max, IntKind.signed, IntKind.bits] using h
  omega
theorem beq_int (a : Int) : (a == a) = true := by simp

end Go.Proofs.Ytgcolbkgldcfiab.Sc
