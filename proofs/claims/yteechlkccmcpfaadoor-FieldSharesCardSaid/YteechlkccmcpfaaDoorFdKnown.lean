/-
  What the laws ask of fixed calls; the table out of the rows' condition.
-/
import Derived.Test.YteechlkccmcpfaaDoorCards
import Derived.Test.YteechlkccmcpfaaDoorFdRootw
import Derived.Laws.AppendOwnNone
import Derived.LaidMore
import Derived.Lib.LaidTab
import Derived.Stop.LaidErr
import Derived.Deep.DeepHandedRow
namespace Go.Proofs.YteechlkccmcpfaaDoor.Fd
open Go.RowKit Go.Proofs.YteechlkccmcpfaaDoor.Gn Go.Deep Go.Proofs.YteechlkccmcpfaaDoor
set_option linter.unusedVariables false

/-- The root of -1, as it lies in the program's table. -/
def Tab (w : World) : Prop := C5 w 0 (el im)
theorem Tab.below {w w' : World} (h : Tab w) (hb : Below w.heap.size w w') : Tab w' := c5_below h hb
theorem gIm : Tryd.prog.globalNamed "imprimatur/field.rootOfLess1" = some 0 := by kernel_rfl
theorem tIm : (Tryd.prog.globals[0]?).map (·.type) = some 24 := by kernel_rfl
theorem c64 : Tryd.prog.cellsOf 22 = 1 := by kernel_rfl
theorem c5 : Tryd.prog.cellsOf 24 = 5 := by kernel_rfl
def ints (l : List Nat) : List Int := l.map fun (x : Nat) => (x : Int)
theorem laid_im : (Rows.laid_imprimatur_field_rootOfLess1 : DataW Unit) = Lib.tabData .u64 (ints (el im).l) := by kernel_rfl
theorem laid_or : (Rows.laid_imprimatur_field_order : DataW Unit) = Lib.tabData .u64 (ints [6346243789798364141, 1503914060200516822, 0, 1152921504606846976]) := by kernel_rfl
theorem tab_of (W : World) (h1 : ∀ k, k < 5 → W.cell? ⟨0, k, none⟩ = some (.int .u64 ((ints (el im).l).getD k 0))) : Tab W :=
  ⟨h1 0 (by decide), h1 1 (by decide), h1 2 (by decide), h1 3 (by decide), h1 4 (by decide)⟩
/-- What the rows' condition gives the walks. -/
theorem tab_of_laid {W : World} (h : laidMetH Tryd.prog [("imprimatur/field.rootOfLess1", Rows.laid_imprimatur_field_rootOfLess1)] W) : Tab W := by
  rw [MakeChecks.laidMetH_plain _ _ _ (by kernel_rfl), laid_im] at h
  have h1 := Lib.tabIs_of_head gIm tIm Tryd.underlying24 Tryd.underlying22 c64 c5 h
  exact tab_of W fun k hk => h1.cell gIm k (by simpa [ints, E5.l] using hk)
/-- The same, where both tables are listed. -/
theorem tab_of_laid2 {W : World} (h : laidMetH Tryd.prog [("imprimatur/field.rootOfLess1", Rows.laid_imprimatur_field_rootOfLess1), ("imprimatur/field.order", Rows.laid_imprimatur_field_order)] W) : Tab W := by
  rw [MakeChecks.laidMetH_plain _ _ _ (by kernel_rfl), laid_im] at h
  have h1 := Lib.tabIs_of_head gIm tIm Tryd.underlying24 Tryd.underlying22 c64 c5 h
  exact tab_of W fun k hk => h1.cell gIm k (by simpa [ints, E5.l] using hk)
/-- The even root of 4 is 2. -/
theorem rt_four : rt 4 1 = some 2 := by
  have h4 : 4 < pp := by rw [pp_eq]; decide
  rw [rt_eq 4 1 h4 pp_one]
  obtain ⟨r, h1, h2, h3, h5⟩ := rr_square (a := 2)
  rw [show 2 * 2 % pp = 4 from Nat.mod_eq_of_lt h4] at h1
  rw [h1]
  congr 1
  have p2 : 2 < pp := by rw [pp_eq]; decide
  rcases h5 with h5 | h5
  · exact cg_eq h5 h2 p2
  · exfalso
    have h6 : r = ng 2 := cg_eq (h5.trans (ng_cg 2).symm) h2 (ng_lt 2)
    rw [ng_of p2 (by decide)] at h6
    have := pp_odd
    omega
theorem cell_bl {w : World} {g : Nat} {t : TypeId} {l : List Nat} (h : Bl w g t (bl l).toArray) {i x : Nat} (hx : l[i]? = some x) : w.cell? ⟨g, i, none⟩ = some (.int .u8 (x : Int)) := by
  refine h.cell_ ?_
  simp [bl_get, hx]
/-- The bytes of -1. -/
theorem by_m1 : by_ (ng 1 % pp) 32 = 236 :: (List.replicate 30 255 ++ [127]) := by
  have h : ng 1 % pp = 57896044618658097711785492504343953926634992332820282019728792003956564819948 := by
    rw [Nat.mod_eq_of_lt (ng_lt 1), ng_of pp_one (by decide), pp_eq]
  rw [h]; decide +kernel
set_option maxRecDepth 100000 in
set_option maxHeartbeats 4000000 in
theorem known_any (w : World) (tab : Tab w) : Calls Tryd.prog 17 #[] w fun e w' => e = .returned (.bool true) ∧ Below w.heap.size w w' := by
  have TAB := Lib.hid tab
  clear tab
  have one : (el 1).ok := el_ok pp_one
  have m1ok : (el (ng 1)).ok := el_ok (ng_lt 1)
  have S1 := Lib.hid (fun w => Small_any 1 w (by decide))
  have S4 := Lib.hid (fun w => Small_any 4 w (by decide))
  have N1 := fun w => Neg_any (el 1) w one
  have E1 := fun w => Encode_any (el (ng 1)) w m1ok
  simp only [el_val, by_m1] at N1 E1
  have N1 := Lib.hid N1
  have E1 := Lib.hid E1
  go_enter Tryd.func17, Tryd.ntmps17
  go_wp2_with fail
  refine (S1.out _).mono ?_
  rintro e w1 ⟨rfl, hb1⟩
  go_wp2_with fail
  refine (N1.out _).mono ?_
  rintro e w2 ⟨rfl, hb2⟩
  go_wp2_with fail
  refine (E1.out _).mono ?_
  rintro e w3 ⟨g, rfl, hg, hbl, hb3⟩
  have D1 := Lib.hid (below_nx hb1 (Nat.le_refl _) hb2)
  have D2 := Lib.hid (below_nx D1.out (Nat.le_refl _) hb3)
  have HG := Lib.hid hbl
  have hgl := hbl.lt
  obtain ⟨i0, hi, hz0, hz1, hz2⟩ := info_parts infob
  have hown0 := own_new w3 5 [.int .u8 237] (by decide)
  have hsl0 : Sl (w3.alloc (.cells #[.int .u8 237] 5)) (some ⟨g, 1, none⟩) 31 (bl (List.replicate 30 255 ++ [127])) :=
    Sl.of_bl (hbl.alloc _) 1 31 _ (by simp [bl]) (fun k v hv => by
      rw [bl_get] at hv
      rw [List.getElem?_toArray, bl_get, Nat.add_comm 1 k, List.getElem?_cons_succ]
      exact hv)
  have HOWN := Lib.hid hown0
  have HSL := Lib.hid hsl0
  clear hb1 hb2 hb3 hbl hown0 hsl0 one m1ok
  go_wp2_with (refine wpList_append_sl rfl (.tmp 10) (.tmp 15) 25 rfl w3.heap.size 5 i0 _ (8 / 8) Tryd.underlying25 hi hz0 hz1 hz2 rfl _ 1 [.int .u8 237] rfl HOWN.out (some ⟨g, 1, none⟩) 31 31 (bl (List.replicate 30 255 ++ [127])) rfl (by simp) HSL.out (bl_one _) (by decide) (by decide) (by simp) ?_; intro v' w4 hown hgrow; have HO4 := Lib.hid hown; have HG4 := Lib.hid hgrow; clear hown hgrow; obtain ⟨A4, c4, rfl, hsl4, -, -, -, -⟩ := Sl.own HO4.out; have HS4 := Lib.hid hsl4; clear hsl4)
  have hg4 : (w3.alloc (.cells #[.int .u8 237] 5)).grownBy w4 (some w3.heap.size) := HG4.out
  have hB4 : Below w3.heap.size w3 w4 := ((Below.refl w3.heap.size w3).alloc (Nat.le_refl _) (.cells #[.int .u8 237] 5)).grown hg4 (by simp) (by simp)
  have hlp : ∀ x ∈ (237 :: (List.replicate 30 255 ++ [127]) : List Nat), x < 256 := by decide
  have hle : le (237 :: (List.replicate 30 255 ++ [127])) = pp := by rw [pp_eq]; decide +kernel
  refine (decode_any A4 c4 (237 :: (List.replicate 30 255 ++ [127])) w4 hlp HS4.out).mono ?_
  rintro e w5 ⟨he, hb5⟩
  rw [hle] at he
  unfold DecP at he
  rw [if_neg (Nat.lt_irrefl _)] at he
  obtain rfl : e = .returned (.tuple #[.agg #[.int .u64 0, .int .u64 0, .int .u64 0, .int .u64 0, .int .u64 0], .int .i64 30]) := he
  have D4 := Lib.hid (below_nx D2.out (Nat.le_refl _) hB4)
  have D5 := Lib.hid (below_nx D4.out (Nat.le_refl _) hb5)
  have HG5 := Lib.hid ((HG.out.below' hB4).below' hb5)
  clear hg4 hB4 hlp hle hb5 HG HG4 HO4 HS4 HOWN HSL D2 D4 hi hz0 hz1 hz2 hgl hg
  go_wp2_with fail
  have D5b := Lib.hid (D5.out.alloc D5.out.size (.cells #[.int .u64 0, .int .u64 0, .int .u64 0, .int .u64 0, .int .u64 0] 24))
  have HG5b := Lib.hid (HG5.out.alloc (.cells #[.int .u64 0, .int .u64 0, .int .u64 0, .int .u64 0, .int .u64 0] 24))
  refine (S4.out _).mono ?_
  rintro e w6 ⟨rfl, hb6⟩
  have D6 := Lib.hid (below_nx D5b.out (Nat.le_refl _) hb6)
  have HG6 := Lib.hid (HG5b.out.below' hb6)
  clear hb6 D5 D5b HG5 HG5b
  go_wp2_with fail
  refine (S1.out _).mono ?_
  rintro e w7 ⟨rfl, hb7⟩
  have D7 := Lib.hid (below_nx D6.out (Nat.le_refl _) hb7)
  have HG7 := Lib.hid (HG6.out.below' hb7)
  clear hb7 D6 HG6
  go_wp2_with fail
  refine (Root_any (el 4) (el 1) w7 (el_ok (by rw [pp_eq]; decide)) (el_ok pp_one) (TAB.out.below D7.out)).mono ?_
  rintro e w8 ⟨he, hb8⟩
  rw [el_val, el_val, rt_four] at he
  obtain rfl : e = .returned (.tuple #[.agg #[.int .u64 2, .int .u64 0, .int .u64 0, .int .u64 0, .int .u64 0], .bool true]) := he
  have D8 := Lib.hid (below_nx D7.out (Nat.le_refl _) hb8)
  have D8b := Lib.hid (D8.out.alloc D8.out.size (.cells #[.int .u64 2, .int .u64 0, .int .u64 0, .int .u64 0, .int .u64 0] 24))
  have hg8 := ((HG7.out.below' hb8).alloc (.cells #[.int .u64 2, .int .u64 0, .int .u64 0, .int .u64 0, .int .u64 0] 24))
  have q0 : (w8.alloc (.cells #[.int .u64 2, .int .u64 0, .int .u64 0, .int .u64 0, .int .u64 0] 24)).cell? ⟨g, 0, none⟩ = some (.int .u8 236) := cell_bl hg8 rfl
  have q1 : (w8.alloc (.cells #[.int .u64 2, .int .u64 0, .int .u64 0, .int .u64 0, .int .u64 0] 24)).cell? ⟨g, 1, none⟩ = some (.int .u8 255) := cell_bl hg8 rfl
  have q31 : (w8.alloc (.cells #[.int .u64 2, .int .u64 0, .int .u64 0, .int .u64 0, .int .u64 0] 24)).cell? ⟨g, 31, none⟩ = some (.int .u8 127) := cell_bl hg8 rfl
  have G1 := guard5
  have G2 : ∀ w, (Op.equalIn 10000 24 (.agg #[.int .u64 2, .int .u64 0, .int .u64 0, .int .u64 0, .int .u64 0]) (.agg #[.int .u64 2, .int .u64 0, .int .u64 0, .int .u64 0, .int .u64 0])).run Tryd.prog w = .ok true w := fun w => equal5 ⟨2, 0, 0, 0, 0⟩ ⟨2, 0, 0, 0, 0⟩ w
  clear hb8 D7 HG7 hg8
  go_wp2_with fail
  go_ret
  exact ⟨rfl, D8b.out⟩
end Go.Proofs.YteechlkccmcpfaaDoor.Fd
