/-
  An element that came in.
-/
import Derived.Test.YteechlkccmcpfaaDoorFdKnown
import Derived.OpenShut
import Derived.WideShapes
import Derived.ChangeArms
namespace Go.Proofs.YteechlkccmcpfaaDoor.Fd
open Go.RowKit Go.Proofs.YteechlkccmcpfaaDoor.Gn Go.Deep Go.ChangeShapes Go.WideShapes
set_option linter.unusedVariables false

theorem open_e5 {H : Type} {enc : TypeId × Value → H} {w : World} {base : Nat} {spare : Nat → Bool} {held : Bool} {r : Reach} {b0 : Nat} {v : Value} {d : DataW H} {ps : List MemPlace}
    (hv : Value.okWide Tryd.prog w r b0 24 v) (h : DataW.Trod enc Tryd.prog w base spare held 24 v d ps) : ∃ x : E5, v = .agg x.v ∧ x.ok := by
  have hv' := hv
  simp only [Value.okWide, Tryd.underlying24] at hv'
  obtain ⟨cs, rfl, hsz, -⟩ := hv'
  obtain ⟨l⟩ := cs
  have hl : l.length = 5 := hsz.trans c5
  match l, hl with
  | [p0, p1, p2, p3, p4], _ =>
    obtain ⟨fuel, hf⟩ := h
    obtain ⟨xs, m, -, -, -, hx, hg⟩ := DataW.trod_array Tryd.underlying24 hf
    rw [c64] at hg
    match xs, hx with
    | [y0, y1, y2, y3, y4], _ =>
      have key : ∀ (p : Value) (y : DataW H × List MemPlace), DataW.trod enc Tryd.prog w base spare held m 22 [p] = some y → ∃ n : Nat, p = .int .u64 (n : Int) ∧ n < 18446744073709551616 := by
        intro p y hp
        obtain ⟨n, hn, -, hw⟩ := DataW.trod_int Tryd.underlying22 hp
        have hw' : 0 ≤ n ∧ n ≤ 18446744073709551615 := by simpa [Lit.wf, IntKind.min, IntKind.max, IntKind.signed, IntKind.bits] using hw
        refine ⟨n.toNat, ?_, by omega⟩
        have : p = .int .u64 n := by simpa using hn
        rw [this, Int.toNat_of_nonneg hw'.1]
      obtain ⟨a, ha, la⟩ := key p0 y0 (by simpa [Value.cells] using hg 0 (by decide))
      obtain ⟨b, hb, lb⟩ := key p1 y1 (by simpa [Value.cells] using hg 1 (by decide))
      obtain ⟨c, hc, lc⟩ := key p2 y2 (by simpa [Value.cells] using hg 2 (by decide))
      obtain ⟨d, hd, ld⟩ := key p3 y3 (by simpa [Value.cells] using hg 3 (by decide))
      obtain ⟨e, he, le⟩ := key p4 y4 (by simpa [Value.cells] using hg 4 (by decide))
      exact ⟨⟨a, b, c, d, e⟩, by rw [ha, hb, hc, hd, he]; rfl, la, lb, lc, ld, le⟩
/-- A walk's world that is Below and holds the table. -/
theorem ret_true {w : World} {K : Ending → World → Prop} (h : K (.returned (.bool true)) w) : K (.returned (.bool true)) w := h
end Go.Proofs.YteechlkccmcpfaaDoor.Fd
