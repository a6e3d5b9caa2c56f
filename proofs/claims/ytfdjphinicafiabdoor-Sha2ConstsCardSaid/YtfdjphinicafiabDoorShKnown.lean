/-
  What the laws ask of fixed calls; the tables out of the rows' condition; the law on a hash that is not there.
-/
import Derived.Test.YtfdjphinicafiabDoorCards
import Derived.Test.YtfdjphinicafiabDoorShSum
import Derived.LaidMore
import Derived.Lib.LaidTab
import Derived.Stop.LaidErr
import Derived.Deep.DeepHandedRow
namespace Go.Proofs.YtfdjphinicafiabDoor.Sh
open Go.RowKit Go.Proofs.YtfdjphinicafiabDoor.Gn Go.Deep Go.Proofs.YtfdjphinicafiabDoor
set_option linter.unusedVariables false
attribute [local go_sem ↓] Go.wp_at_zero Go.wp_at_succ

theorem gSt : Tryd.prog.globalNamed "imprimatur/sha2.starts" = some 1 := by kernel_rfl
theorem gCo : Tryd.prog.globalNamed "imprimatur/sha2.constants" = some 0 := by kernel_rfl
theorem tSt : (Tryd.prog.globals[1]?).map (·.type) = some 58 := by kernel_rfl
theorem tCo : (Tryd.prog.globals[0]?).map (·.type) = some 55 := by kernel_rfl
theorem c64 : Tryd.prog.cellsOf 22 = 1 := by kernel_rfl
theorem c8 : Tryd.prog.cellsOf 58 = 8 := by kernel_rfl
theorem c80 : Tryd.prog.cellsOf 55 = 80 := by kernel_rfl
def ints (l : List Nat) : List Int := l.map fun (x : Nat) => (x : Int)
theorem ints_length (l : List Nat) : (ints l).length = l.length := by simp [ints]
theorem laid_st : (Rows.laid_imprimatur_sha2_starts : DataW Unit) = Lib.tabData .u64 (ints sc) := by kernel_rfl
theorem laid_co : (Rows.laid_imprimatur_sha2_constants : DataW Unit) = Lib.tabData .u64 (ints kc) := by kernel_rfl
theorem ints_getD (l : List Nat) (i : Nat) : (ints l).getD i 0 = ((l.getD i 0 : Nat) : Int) := by
  simp only [ints, List.getD_eq_getElem?_getD, List.getElem?_map]
  cases l[i]? <;> rfl
/-- What the rows' condition gives the walks. -/
theorem tab_of_laid {W : World} (h : laidMetH Tryd.prog [("imprimatur/sha2.starts", Rows.laid_imprimatur_sha2_starts), ("imprimatur/sha2.constants", Rows.laid_imprimatur_sha2_constants)] W) : Tab W := by
  rw [MakeChecks.laidMetH_plain _ _ _ (by kernel_rfl), laid_st, laid_co] at h
  have h1 := Lib.tabIs_of_head gSt tSt Tryd.underlying58 Tryd.underlying22 c64 c8 h
  have h2 := Lib.tabIs_of_head gCo tCo Tryd.underlying55 Tryd.underlying22 c64 c80 h.tail
  exact ⟨fun t ht => by rw [h2.cell gCo t (by rw [ints_length]; exact ht), ints_getD], fun t ht => by rw [h1.cell gSt t (by rw [ints_length]; exact ht), ints_getD]⟩

theorem dgk : (dg false []).length = 32 ∧ (dg false [])[0]? = some 227 ∧ (dg false [])[1]? = some 176 ∧ (dg false [])[2]? = some 196 ∧ (dg false [])[3]? = some 66 := by
  obtain ⟨h, hl⟩ := dg_known
  have e : ∀ j, j < 4 → (dg false [])[j]? = ((dg false []).take 4)[j]? := fun j hj => by rw [List.getElem?_take, if_pos hj]
  rw [h] at e
  exact ⟨hl, e 0 (by decide), e 1 (by decide), e 2 (by decide), e 3 (by decide)⟩
theorem padk : (pad false 0).length = 64 ∧ (pad false 0)[0]? = some 128 ∧ (pad false 0)[63]? = some 0 := by decide
theorem cell_bl {w : World} {g : Nat} {t : TypeId} {l : List Nat} (h : Bl w g t (bl l).toArray) {i x : Nat} (hx : l[i]? = some x) : w.cell? ⟨g, i, none⟩ = some (.int .u8 (x : Int)) := by
  refine h.cell_ ?_
  simp [bl_get, hx]
theorem kc0 : (((kc.getD 0 0 : Nat) : Int) == 4794697086780616226) = true := by decide
theorem const0 (w : World) (tab : Tab w) : Calls Tryd.prog 12 #[.int .i64 0] w fun e w' => ∃ C : Nat, e = .returned (.tuple #[.int .u64 (C : Int), .int .i64 0]) ∧ ((C : Int) == 4794697086780616226) = true ∧ w = w' :=
  (const_any 0 w (by decide) tab).mono fun e w' ⟨h1, h2⟩ => ⟨_, h1, kc0, h2⟩
theorem pad0 (w : World) : Calls Tryd.prog 19 #[.int .i64 0, .int .i64 256] w fun e w' => e = .returned (.tuple #[.slice (some ⟨w.heap.size, 0, none⟩) 64 64, .int .i64 0]) ∧ w' = w.alloc (.cells (bl (pad false 0)).toArray 5) :=
  (padl32_any 0 w (by decide)).mono fun e w' ⟨h1, h2⟩ => ⟨h1, h2⟩
set_option maxRecDepth 100000 in
set_option maxHeartbeats 1000000 in
theorem known_any (w : World) (tab : Tab w) : Calls Tryd.prog 18 #[] w fun e w' => e = .returned (.bool true) ∧ Below w.heap.size w w' := by
  have TAB := Lib.hid tab
  clear tab
  go_enter Tryd.func18, Tryd.ntmps18
  go_wp2_with (go_at_call 39; refine (Sum256_any [] none 0 _ (by simp) (Sl.nil_ _ _) (by simp) (Nat.le_refl _) (by simp) TAB.out).mono ?_; rintro e w1 ⟨q, rfl, hq, hbl, hb⟩; have HQ := Lib.hid hq; have HBL := Lib.hid hbl; have HB := Lib.hid hb; clear hq hbl hb)
  have c0 := cell_bl HBL.out dgk.2.1
  have c1 := cell_bl HBL.out dgk.2.2.1
  have c2 := cell_bl HBL.out dgk.2.2.2.1
  have c3 := cell_bl HBL.out dgk.2.2.2.2
  go_wp2_with (go_at_call 12; refine (const0 _ (TAB.out.below HB.out)).mono ?_; rintro e w' ⟨C, rfl, hC, rfl⟩)
  go_wp2_with (go_at_call 19; refine (pad0 _).mono ?_; rintro e w2 ⟨rfl, hw2⟩; have p0 := (show w2.cell? ⟨w1.heap.size, 0, none⟩ = some (.int .u8 (128 : Nat)) from cell_bl (by rw [hw2]; exact Bl.new_ _ _ _) padk.2.1); have p63 := (show w2.cell? ⟨w1.heap.size, 63, none⟩ = some (.int .u8 (0 : Nat)) from cell_bl (by rw [hw2]; exact Bl.new_ _ _ _) padk.2.2); have B2 : Below w1.heap.size w1 w2 := (by rw [hw2]; exact (Below.refl _ _).alloc (Nat.le_refl _) _); have d0 := keepc B2 c0; have d1 := keepc B2 c1; have d2 := keepc B2 c2; have d3 := keepc B2 c3; have HB2 := Lib.hid B2; clear hw2 B2 c0 c1 c2 c3)
  go_ret
  exact ⟨rfl, HB.out.trans (HB2.out.mono HB.out.size)⟩
end Go.Proofs.YtfdjphinicafiabDoor.Sh
