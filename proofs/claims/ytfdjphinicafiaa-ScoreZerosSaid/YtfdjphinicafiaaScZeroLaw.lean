/-
  The law that zeros play no part in a total: what lies half way, what comes in, the whole walk.
-/
import Derived.Test.YtfdjphinicafiaaScByteLaws
namespace Go.Proofs.Ytfdjphinicafiaa.Sc
open Go.RowKit Go.Deep
set_option linter.unusedVariables false

theorem mid_between (a b : Nat) (ha : a < 18446744073709551616) (hb : b < 18446744073709551616) :
    midX a b < 18446744073709551616 ∧ ((midE a b == 0) = false ∨ ((midE a b == 0) = true ∧ ((cmp (midX a b) a == 1) && (cmp (midX a b) b == 1)) = false ∧ ((cmp a (midX a b) == 1) && (cmp b (midX a b) == 1)) = false)) := by
  cases va : valid a
  · obtain ⟨h1, h2⟩ := mid_bad (a := a) (b := b) (.inl va)
    rw [h1, h2]
    exact ⟨by decide, .inl rfl⟩
  cases vb : valid b
  · obtain ⟨h1, h2⟩ := mid_bad (a := a) (b := b) (.inr vb)
    rw [h1, h2]
    exact ⟨by decide, .inl rfl⟩
  obtain ⟨a1, a2⟩ := code_valid ha va
  obtain ⟨b1, b2⟩ := code_valid hb vb
  obtain ⟨m, hm⟩ : ∃ m, m = lo a b + (hi a b - lo a b) / 2 := ⟨_, rfl⟩
  have hx : midX a b = num m := by unfold midX; rw [va, vb, hm]; rfl
  have he : midE a b = 0 := by unfold midE; rw [va, vb]; rfl
  have hlo : min (code a) (code b) ≤ m ∧ m ≤ max (code a) (code b) := by rw [hm]; unfold lo hi; omega
  clear hm
  have hr : 4503599627370495 ≤ m ∧ m ≤ 18442240474082181120 := by omega
  have hc : code (num m) = m := code_num m (.inr hr)
  rw [hx, he]
  refine ⟨num_lt _ (by omega), .inr ⟨rfl, ?_, ?_⟩⟩
  · rw [cmp_one, cmp_one, hc, ← Bool.decide_and, decide_eq_false_iff_not]; omega
  · rw [cmp_one, cmp_one, hc, ← Bool.decide_and, decide_eq_false_iff_not]; omega
section
variable {H : Type} {enc : TypeId × Value → H} {P : Program} {w : World} {base : Nat} {spare : Nat → Bool} {held : Bool}
/-- As FL, with what a slice's room says. -/
def FLC (w : World) (a : Option Addr) (len cap : Nat) (l : List Nat) : Prop := FL w a len l ∧ len ≤ cap ∧ (a = none → cap = 0)
theorem open_flc {t e : TypeId} {a : Option Addr} {len cap : Nat} {d : DataW H} {ps : List MemPlace} (ht : P.underlying t = some (.slice e)) (he : P.underlying e = some (.float .f64)) (hc : P.cellsOf e = 1)
    (hp : ∀ x ∈ ps, x.block < w.heap.size) (h : DataW.Trod enc P w base spare held t (.slice a len cap) d ps) : ∃ l : List Nat, FLC w a len cap l := by
  obtain ⟨l, hl⟩ := open_fl ht he hc hp h
  refine ⟨l, hl, ?_⟩
  obtain ⟨fuel, hf⟩ := h
  rcases open_slice1 ht hc hf with ⟨hcs, -⟩ | ⟨x, l, c, m, n, V, D, Pl, hcs, hb, hl, hm, hmm, -, hx⟩
  · simp [Value.cells] at hcs
    obtain ⟨rfl, rfl, rfl⟩ := hcs
    exact ⟨Nat.le_refl _, fun _ => rfl⟩
  · simp [Value.cells] at hcs
    obtain ⟨rfl, rfl, rfl⟩ := hcs
    have hle : len ≤ m := by rw [hmm]; split <;> omega
    exact ⟨by omega, fun h => by cases h⟩
end
end Go.Proofs.Ytfdjphinicafiaa.Sc
