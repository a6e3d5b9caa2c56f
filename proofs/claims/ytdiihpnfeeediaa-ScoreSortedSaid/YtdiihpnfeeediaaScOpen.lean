/-
  Slices that come in, opened: nil or not, they read as a list.
-/
import Derived.Test.YtdiihpnfeeediaaScTotal
import Derived.ProofKit
import Derived.OpenShut
import Derived.Deep.Slices
namespace Go.Proofs.Ytdiihpnfeeediaa.Sc
open Go.RowKit Go.ChangeShapes Go.WideShapes Go.ChangeAt Go.Deep
set_option linter.unusedVariables false

theorem cell_lt {w : World} {p : Addr} {v : Value} (h : w.cell? p = some v) : p.block < w.heap.size := by
  unfold World.cell? at h
  rcases Nat.lt_or_ge p.block w.heap.size with h1 | h1
  · exact h1
  · rw [Array.getElem?_eq_none h1] at h
    split at h <;> simp_all
theorem Sl.below {w w' : World} {A : Option Addr} {n : Nat} {xs : List Value} (h : Sl w A n xs) (hb : Below w.heap.size w w') : Sl w' A n xs :=
  h.keep fun p ⟨v, hv⟩ => hb.cell (cell_lt hv)
section
variable {H : Type} {enc : TypeId × Value → H} {P : Program} {w : World} {base : Nat} {spare : Nat → Bool} {held : Bool}
theorem trod_float {k : FloatKind} {t : TypeId} {fuel : Nat} {v : Value} {x : DataW H × List MemPlace} (ht : P.underlying t = some (.float k)) (h : DataW.trod enc P w base spare held fuel t [v] = some x) : ∃ b, v = .float k b ∧ (Lit.float k b).wf = true := by
  cases fuel with
  | zero => simp [DataW.trod] at h
  | succ n =>
    unfold DataW.trod at h
    rw [ht] at h
    split at h <;> simp_all
theorem open_row {t e : TypeId} {a : Option Addr} {len cap : Nat} {d : DataW H} {ps : List MemPlace} (ht : P.underlying t = some (.slice e)) (hc : P.cellsOf e = 1) (h : DataW.Trod enc P w base spare held t (.slice a len cap) d ps) :
    ∃ vs : List Value, Sl w a len vs ∧ len ≤ maxLen ∧ ∀ v ∈ vs, ∃ n y, DataW.trod enc P w base spare held n e [v] = some y := by
  obtain ⟨fuel, hf⟩ := h
  rcases open_slice1 ht hc hf with ⟨hcs, -⟩ | ⟨x, l, c, m, n, V, D, Pl, hcs, hb, hl, hm, hmm, -, hx⟩
  · simp [Value.cells] at hcs
    obtain ⟨rfl, rfl, rfl⟩ := hcs
    exact ⟨[], ⟨rfl, fun k v h => by simp at h⟩, Nat.zero_le _, fun v hv => by simp at hv⟩
  · simp [Value.cells] at hcs
    obtain ⟨rfl, rfl, rfl⟩ := hcs
    have hle : len ≤ m := by rw [hmm]; split <;> omega
    refine ⟨(List.range len).map V, ⟨by simp, fun k v h => ?_⟩, by omega, fun v hv => ?_⟩
    · have hk : k < len := by
        rcases Nat.lt_or_ge k len with h1 | h1
        · exact h1
        · rw [List.getElem?_eq_none (by simpa using h1)] at h; simp at h
      rw [List.getElem?_map, List.getElem?_range hk] at h
      simp at h; subst h
      exact ⟨x, rfl, (hx k (by omega)).1⟩
    · simp at hv
      obtain ⟨i, hi, rfl⟩ := hv
      exact ⟨n, _, (hx i (by omega)).2⟩
/-- A slice of numbers that came in. -/
def FL (w : World) (a : Option Addr) (len : Nat) (l : List Nat) : Prop := Sl w a len (fl l) ∧ len ≤ 9223372036854775807 ∧ ∀ x ∈ l, x < 18446744073709551616
theorem open_fl {t e : TypeId} {a : Option Addr} {len cap : Nat} {d : DataW H} {ps : List MemPlace} (ht : P.underlying t = some (.slice e)) (he : P.underlying e = some (.float .f64)) (hc : P.cellsOf e = 1)
    (_ : ∀ x ∈ ps, x.block < w.heap.size) (h : DataW.Trod enc P w base spare held t (.slice a len cap) d ps) : ∃ l : List Nat, FL w a len l := by
  obtain ⟨vs, hs, hm, hv⟩ := open_row ht hc h
  have : ∀ us : List Value, (∀ v ∈ us, v ∈ vs) → ∃ l : List Nat, us = fl l ∧ ∀ x ∈ l, x < 18446744073709551616 := by
    intro us
    induction us with
    | nil => intro _; exact ⟨[], rfl, by simp⟩
    | cons u us ih =>
      intro hu
      obtain ⟨l, rfl, hl⟩ := ih fun v hv => hu v (List.mem_cons_of_mem _ hv)
      obtain ⟨n, y, hy⟩ := hv u (hu u List.mem_cons_self)
      obtain ⟨b, rfl, hw⟩ := trod_float he hy
      refine ⟨b :: l, rfl, fun x hx => ?_⟩
      rcases List.mem_cons.1 hx with rfl | hx
      · simpa [Lit.wf] using hw
      · exact hl x hx
  obtain ⟨l, rfl, hl⟩ := this vs fun _ h => h
  exact ⟨l, hs, by unfold maxLen at hm; omega, hl⟩
end
end Go.Proofs.Ytdiihpnfeeediaa.Sc
