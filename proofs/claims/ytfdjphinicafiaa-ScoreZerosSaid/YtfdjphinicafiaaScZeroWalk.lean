/-
  The walk of the law that zeros play no part in a total.
-/
import Derived.Test.YtfdjphinicafiaaScZeros
import Derived.Test.YtfdjphinicafiaaScZeroLaw
namespace Go.Proofs.Ytfdjphinicafiaa.Sc
open Go.RowKit Go.Deep
set_option linter.unusedVariables false

theorem walk_scoreZeros {w : World} (A : Option Addr) (n c : Nat) (l : List Nat) (hf : FLC w A n c l) (at_ : Int) (wat : (Lit.int .i64 at_).wf = true) (a : Nat) (wa : (Lit.float .f64 a).wf = true) (b : Nat) (wb : (Lit.float .f64 b).wf = true) :
    Calls Try.prog 14 #[.slice A n c, .int .i64 at_, .float .f64 a, .float .f64 b] w fun e w' => e = .returned (.bool true) ∧ Below w.heap.size w w' := by
  obtain ⟨⟨hs, hn, hl⟩, hc, hnil⟩ := hf
  by_cases h : 300 < n
  · clear hs hl hnil
    go_enter Try.func14, Try.ntmps14
    go_wp2_with (go_at_call 21; refine (known_any _).mono ?_; rintro e w' ⟨rfl, hb⟩)
    go_ret
    exact ⟨rfl, hb⟩
  · have hat : -9223372036854775808 ≤ at_ ∧ at_ ≤ 9223372036854775807 := by simpa [Lit.wf, IntKind.min, IntKind.max, IntKind.signed, IntKind.bits] using wat
    obtain ⟨k, hk⟩ : ∃ k : Nat, (k : Int) = at_ % ((n : Int) + 1) := ⟨(at_ % ((n : Int) + 1)).toNat, Int.toNat_of_nonneg (Int.emod_nonneg _ (by omega))⟩
    have hkn : k ≤ n := by
      have := Int.emod_lt_of_pos at_ (show 0 < (n : Int) + 1 by omega)
      omega
    have ha := wf_f64 wa
    have hb := wf_f64 wb
    obtain ⟨m1, m2⟩ := mid_between a b ha hb
    exact zeros_core l A n c at_ a b w (by omega) k hkn hc (Lib.hid hl) (Lib.hid ha) (Lib.hid hb) (midX a b) (midE a b) (Lib.hid m1) (Lib.hid (fun w => mid_any a b w ha hb)) m2 (Lib.hid hnil) (Lib.hid hs) (fun w => by
      have := among_any at_ ((n : Int) + 1) w (by omega) (by omega) hat.1 hat.2
      rw [← hk] at this
      exact this)
end Go.Proofs.Ytfdjphinicafiaa.Sc
