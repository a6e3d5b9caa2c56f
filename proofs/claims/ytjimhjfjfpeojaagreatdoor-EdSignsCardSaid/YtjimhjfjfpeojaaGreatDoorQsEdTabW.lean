/-
  What the row's condition gives the walk of EdSigns: the laid tables that it reads.
-/
import Derived.Test.YtjimhjfjfpeojaaGreatDoorQsAvEdSigns
import Derived.Test.YtjimhjfjfpeojaaGreatDoorRows
import Derived.SevenTiedAt
import Derived.LaidMore
import Derived.Lib.LaidTab
import Derived.Stop.LaidErr
import Derived.Deep.DeepHandedRow
namespace Go.Proofs.YtjimhjfjfpeojaaGreatDoor.Tw
open Go.RowKit Go.Proofs.YtjimhjfjfpeojaaGreatDoor.Gn Go.Proofs.YtjimhjfjfpeojaaGreatDoor.Fd Go.Proofs.YtjimhjfjfpeojaaGreatDoor.Ed Go.Deep Go.Proofs.YtjimhjfjfpeojaaGreatDoor
set_option linter.unusedVariables false
theorem gSt : Tryz.prog.globalNamed "imprimatur/sha2.starts" = some 5 := by kernel_rfl
theorem gCo : Tryz.prog.globalNamed "imprimatur/sha2.constants" = some 8 := by kernel_rfl
theorem gOr : Tryz.prog.globalNamed "imprimatur/field.order" = some 7 := by kernel_rfl
theorem gD2 : Tryz.prog.globalNamed "imprimatur/ed.twiceD" = some 1 := by kernel_rfl
theorem gBx : Tryz.prog.globalNamed "imprimatur/ed.baseX" = some 2 := by kernel_rfl
theorem gBy : Tryz.prog.globalNamed "imprimatur/ed.baseY" = some 3 := by kernel_rfl
theorem tSt : (Tryz.prog.globals[5]?).map (·.type) = some 97 := by kernel_rfl
theorem tCo : (Tryz.prog.globals[8]?).map (·.type) = some 170 := by kernel_rfl
theorem tOr : (Tryz.prog.globals[7]?).map (·.type) = some 108 := by kernel_rfl
theorem tD2 : (Tryz.prog.globals[1]?).map (·.type) = some 26 := by kernel_rfl
theorem tBx : (Tryz.prog.globals[2]?).map (·.type) = some 26 := by kernel_rfl
theorem tBy : (Tryz.prog.globals[3]?).map (·.type) = some 26 := by kernel_rfl
theorem c64 : Tryz.prog.cellsOf 24 = 1 := by kernel_rfl
theorem c4 : Tryz.prog.cellsOf 108 = 4 := by kernel_rfl
theorem c5 : Tryz.prog.cellsOf 26 = 5 := by kernel_rfl
theorem c8 : Tryz.prog.cellsOf 97 = 8 := by kernel_rfl
theorem c80 : Tryz.prog.cellsOf 170 = 80 := by kernel_rfl
def ints (l : List Nat) : List Int := l.map fun (x : Nat) => (x : Int)
theorem ints_length (l : List Nat) : (ints l).length = l.length := by simp [ints]
theorem ints_getD (l : List Nat) (i : Nat) : (ints l).getD i 0 = ((l.getD i 0 : Nat) : Int) := by
  simp only [ints, List.getD_eq_getElem?_getD, List.getElem?_map]
  cases l[i]? <;> rfl
theorem laid_st : (Rows.laid_imprimatur_sha2_starts : DataW Unit) = Lib.tabData .u64 (ints Sh.sc) := by kernel_rfl
theorem laid_co : (Rows.laid_imprimatur_sha2_constants : DataW Unit) = Lib.tabData .u64 (ints Sh.kc) := by kernel_rfl
theorem laid_or : (Rows.laid_imprimatur_field_order : DataW Unit) = Lib.tabData .u64 (ints [6346243789798364141, 1503914060200516822, 0, 1152921504606846976]) := by kernel_rfl
theorem laid_d2 : (Rows.laid_imprimatur_ed_twiceD : DataW Unit) = Lib.tabData .u64 (ints (el nd2).l) := by kernel_rfl
theorem laid_bx : (Rows.laid_imprimatur_ed_baseX : DataW Unit) = Lib.tabData .u64 (ints (el nbx).l) := by kernel_rfl
theorem laid_by : (Rows.laid_imprimatur_ed_baseY : DataW Unit) = Lib.tabData .u64 (ints (el nby).l) := by kernel_rfl
theorem c5_of {W : World} {g n : Nat} (h : ∀ k, k < 5 → W.cell? ⟨g, k, none⟩ = some (.int .u64 ((ints (el n).l).getD k 0))) : C5 W g (el n) := ⟨h 0 (by decide), h 1 (by decide), h 2 (by decide), h 3 (by decide), h 4 (by decide)⟩
theorem el_len (n k : Nat) (h : k < 5) : k < (ints (el n).l).length := by simpa [ints, E5.l] using h
theorem tabs_of_laidW {W : World} (h : laidMetH Tryz.prog [("imprimatur/sha2.starts", Rows.laid_imprimatur_sha2_starts), ("imprimatur/sha2.constants", Rows.laid_imprimatur_sha2_constants), ("imprimatur/field.order", Rows.laid_imprimatur_field_order), ("imprimatur/ed.twiceD", Rows.laid_imprimatur_ed_twiceD), ("imprimatur/ed.baseX", Rows.laid_imprimatur_ed_baseX), ("imprimatur/ed.baseY", Rows.laid_imprimatur_ed_baseY)] W) : TabE W ∧ Sh.Tab W ∧ TabL W := by
  rw [MakeChecks.laidMetH_plain _ _ _ (by kernel_rfl), laid_st, laid_co, laid_or, laid_d2, laid_bx, laid_by] at h
  have h1 := Lib.tabIs_of_head gSt tSt Tryz.underlying97 Tryz.underlying24 c64 c8 h
  have h2 := Lib.tabIs_of_head gCo tCo Tryz.underlying170 Tryz.underlying24 c64 c80 h.tail
  have h8 := Lib.tabIs_of_head gOr tOr Tryz.underlying108 Tryz.underlying24 c64 c4 h.tail.tail
  have h5 := Lib.tabIs_of_head gD2 tD2 Tryz.underlying26 Tryz.underlying24 c64 c5 h.tail.tail.tail
  have h6 := Lib.tabIs_of_head gBx tBx Tryz.underlying26 Tryz.underlying24 c64 c5 h.tail.tail.tail.tail
  have h7 := Lib.tabIs_of_head gBy tBy Tryz.underlying26 Tryz.underlying24 c64 c5 h.tail.tail.tail.tail.tail
  exact ⟨⟨c5_of fun k hk => h5.cell gD2 k (el_len _ k hk), c5_of fun k hk => h6.cell gBx k (el_len _ k hk), c5_of fun k hk => h7.cell gBy k (el_len _ k hk)⟩,
    ⟨fun t ht => by rw [h2.cell gCo t (by rw [ints_length]; exact ht), ints_getD], fun t ht => by rw [h1.cell gSt t (by rw [ints_length]; exact ht), ints_getD]⟩,
    h8.cell gOr 0 (by decide), h8.cell gOr 1 (by decide), h8.cell gOr 2 (by decide), h8.cell gOr 3 (by decide)⟩
section
variable {H : Type} {enc : TypeId × Value → H} {P : Program} {w : World} {base : Nat} {spare : Nat → Bool} {held : Bool}
theorem open_row {t e : TypeId} {a : Option Addr} {len cap : Nat} {d : DataW H} {ps : List MemPlace} (ht : P.underlying t = some (.slice e)) (hc : P.cellsOf e = 1) (h : DataW.Trod enc P w base spare held t (.slice a len cap) d ps) :
    ∃ vs : List Value, Sl w a len vs ∧ len ≤ maxLen ∧ len ≤ cap ∧ ∀ v ∈ vs, ∃ n y, DataW.trod enc P w base spare held n e [v] = some y := by
  obtain ⟨fuel, hf⟩ := h
  rcases open_slice1 ht hc hf with ⟨hcs, -⟩ | ⟨x, l, c, m, n, V, D, Pl, hcs, hb, hl, hm, hmm, -, hx⟩
  · simp [Value.cells] at hcs
    obtain ⟨rfl, rfl, rfl⟩ := hcs
    exact ⟨[], ⟨rfl, fun k v h => by simp at h⟩, Nat.zero_le _, Nat.le_refl _, fun v hv => by simp at hv⟩
  · simp [Value.cells] at hcs
    obtain ⟨rfl, rfl, rfl⟩ := hcs
    have hle : len ≤ m := by rw [hmm]; split <;> omega
    refine ⟨(List.range len).map V, ⟨by simp, fun k v h => ?_⟩, by omega, by omega, fun v hv => ?_⟩
    · have hk : k < len := by
        rcases Nat.lt_or_ge k len with h1 | h1
        · exact h1
        · rw [List.getElem?_eq_none (by simpa using h1)] at h; simp at h
      rw [List.getElem?_map, List.getElem?_range hk] at h
      simp at h; subst h
      exact ⟨x, rfl, (hx k (by omega)).1⟩
    · simp at hv
      obtain ⟨i, hi, rfl⟩ := hv
      exact ⟨n, _, (hx i (by omega)).2⟩
theorem open_bl {t e : TypeId} {a : Option Addr} {len cap : Nat} {d : DataW H} {ps : List MemPlace} (ht : P.underlying t = some (.slice e)) (he : P.underlying e = some (.int .u8)) (hc : P.cellsOf e = 1)
    (_ : ∀ x ∈ ps, x.block < w.heap.size) (h : DataW.Trod enc P w base spare held t (.slice a len cap) d ps) : ∃ l : List Nat, BL w a len cap l := by
  obtain ⟨vs, hs, hm, hlc, hv⟩ := open_row ht hc h
  have hnil : a = none → cap = 0 := by
    rintro rfl
    obtain ⟨fuel, hf⟩ := h
    rcases open_slice1 ht hc hf with ⟨hcs, -⟩ | ⟨x, l, c, m, n, V, D, Pl, hcs, -⟩
    · simp [Value.cells] at hcs; exact hcs.2
    · simp [Value.cells] at hcs
  have : ∀ us : List Value, (∀ v ∈ us, v ∈ vs) → ∃ l : List Nat, us = bl l ∧ ∀ x ∈ l, x < 256 := by
    intro us
    induction us with
    | nil => intro _; exact ⟨[], rfl, by simp⟩
    | cons u us ih =>
      intro hu
      obtain ⟨l, rfl, hl⟩ := ih fun v hv => hu v (List.mem_cons_of_mem _ hv)
      obtain ⟨n, y, hy⟩ := hv u (hu u List.mem_cons_self)
      obtain ⟨b, hb, -, hw⟩ := DataW.trod_int he hy
      have hw' : 0 ≤ b ∧ b ≤ 255 := by simpa [Lit.wf, IntKind.min, IntKind.max, IntKind.signed, IntKind.bits] using hw
      refine ⟨b.toNat :: l, ?_, fun x hx => ?_⟩
      · have : u = .int .u8 b := by simpa using hb
        rw [this]; simp [bl]; omega
      · rcases List.mem_cons.1 hx with rfl | hx
        · omega
        · exact hl x hx
  obtain ⟨l, rfl, hl⟩ := this vs fun _ h => h
  exact ⟨l, hs, by unfold maxLen at hm; omega, hl, hnil, hlc⟩
end
end Go.Proofs.YtjimhjfjfpeojaaGreatDoor.Tw
