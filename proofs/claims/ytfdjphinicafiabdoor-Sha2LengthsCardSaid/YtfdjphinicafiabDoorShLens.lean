/-
  The walk of the law on texts of any length about the ends of blocks.
-/
import Derived.Test.YtfdjphinicafiabDoorShSums
namespace Go.Proofs.YtfdjphinicafiabDoor.Sh
open Go.RowKit Go.Proofs.YtfdjphinicafiabDoor.Gn Go.Deep
set_option linter.unusedVariables false
attribute [local go_sem ↓] Go.wp_at_zero Go.wp_at_succ

theorem n2_true (w : World) : Calls Tryd.prog 26 #[.bool true] w fun e w' => e = .returned (.int .i64 40) ∧ w = w' := by
  go_enter Tryd.func26, Tryd.ntmps26
  go_wp2
  go_ret
  exact ⟨rfl, rfl⟩
theorem n2_false (w : World) : Calls Tryd.prog 26 #[.bool false] w fun e w' => e = .returned (.int .i64 0) ∧ w = w' := by
  go_enter Tryd.func26, Tryd.ntmps26
  go_wp2
  go_ret
  exact ⟨rfl, rfl⟩
def LenRel (N x : Nat) (w : World) (i : Value) (wr : World) : Prop :=
  ∃ (k : Nat) (arr : Array Value), k ≤ N ∧ i = .int .i64 (k : Int) ∧ arr.size = N ∧ (∀ j, j < N → arr[j]? = some (.int .u8 ((if j < k then x else 0 : Nat) : Int))) ∧ wr = w.alloc (.cells arr 5)
set_option maxRecDepth 100000 in
set_option maxHeartbeats 1000000 in
theorem lens32_ok (n x : Nat) (hn : n < 256) (hx : x < 256) (w : World) (tab : Tab w) :
    Calls Tryd.prog 6 #[.int .u8 (n : Int), .int .u8 (x : Int), .bool false] w fun e w' => e = .returned (.bool true) ∧ Below w.heap.size w w' := by
  have TAB := Lib.hid tab
  obtain ⟨N, hN⟩ : ∃ N, N = n + 0 := ⟨_, rfl⟩
  have eN : (n : Int) + 0 = (N : Int) := by omega
  have hN2 : N ≤ 300 := by omega
  have hmk := fun w => run_make_row' (P := Tryd.prog) 30 5 (.int .u8 0) 1 Tryd.underlying30 infob rfl .i64 .i64 N (by omega) (by omega) w
  have HN := Lib.hid hN
  clear hN tab
  go_enter Tryd.func6, Tryd.ntmps6
  go_wp2_with (go_at_call 26; (with_reducible refine (n2_false _).mono ?_); rintro e w' ⟨rfl, rfl⟩)
  clear hmk
  go_loopw [8] (fun i wr => LenRel N x w i wr) (fun i _ => N - (intOf i).toNat)
  case atStart =>
    refine ⟨0, _, Nat.zero_le _, rfl, size_madeCells _ _, ?_, rfl⟩
    intro p hp
    rw [if_neg (by omega), ← Array.getElem?_toList, toList_madeCells_one, List.getElem?_replicate, if_pos hp]
    rfl
  case round =>
    obtain ⟨k, arr, hk, rfl, hsz, harr, rfl⟩ := hrel
    have H1 := Lib.hid hsz
    have H2 := Lib.hid harr
    clear hsz harr
    by_cases hlt : k < N
    · have hks : k < arr.size := by rw [H1.out]; exact hlt
      have hc : (w.alloc (.cells arr 5)).cell? ⟨w.heap.size, k, none⟩ = some arr[k] := by
        have := cell_of_row _ _ k arr 5 (0, 0) (heap_alloc_new w (.cells arr 5))
        rw [Array.getElem?_eq_getElem hks] at this
        exact this
      go_wp2_with fail
      go_roundw
      case rel =>
        refine ⟨k + 1, _, by omega, by go_num, by rw [Array.size_setIfInBounds]; exact H1.out, ?_, rfl⟩
        intro j hj
        rw [Array.getElem?_setIfInBounds]
        by_cases hjk : k = j
        · subst hjk; rw [if_pos rfl, if_pos hks, if_pos (by omega)]
        · rw [if_neg hjk, H2.out j hj]
          by_cases h : j < k
          · rw [if_pos h, if_pos (by omega)]
          · rw [if_neg h, if_neg (by omega)]
      case measure => simp [intOf]; omega
    · obtain ⟨L, hL⟩ : ∃ L, L = List.replicate N x := ⟨_, rfl⟩
      have hLl : L.length = N := by rw [hL, List.length_replicate]
      have hLb : ∀ y ∈ L, y < 256 := fun y hy => by rw [hL] at hy; rw [List.eq_of_mem_replicate hy]; exact hx
      have harr : arr = (bl L).toArray := by
        apply Array.ext_getElem?
        intro j
        by_cases hj : j < N
        · rw [H2.out j hj, if_pos (by omega), hL]
          simp [bl_get, hj]
        · rw [Array.getElem?_eq_none (by rw [H1.out]; omega), Array.getElem?_eq_none]
          simp [bl, hLl]; omega
      have B1 := Lib.hid (show Below w.heap.size w (w.alloc (.cells arr 5)) from (Below.refl _ _).alloc (Nat.le_refl _) _)
      have S0 := Lib.hid (show Sl (w.alloc (.cells arr 5)) (some ⟨w.heap.size, 0, none⟩) N (bl L) from by
        rw [harr, ← hLl, ← bl_length L]; exact Sl.new_ w _ (bl L))
      generalize hw1 : w.alloc (.cells arr 5) = w1 at B1 S0 ⊢
      have HSUM := Lib.hid (lsum32 L (some ⟨w.heap.size, 0, none⟩) N N hLl w1 hLb S0.out (Nat.le_refl _) (by omega) (TAB.out.below B1.out))
      have HR := Lib.hid (fun (wx : World) (h : Below w1.heap.size w1 wx) => rsum32_any L (some ⟨w.heap.size, 0, none⟩) N N wx hLb (S0.out.below h) (fun h => by cases h) (by omega))
      clear hL hLl hLb harr hw1
      go_wp2_with (first | (go_at_call 23; (with_reducible refine HSUM.out.mono ?_); rintro e w2 ⟨q, rfl, hq, hbl, hb1⟩; have B2 := Lib.hid hb1; have K2 := Lib.hid hbl; clear hq hbl hb1) | (go_at_call 25; (with_reducible refine (which_false _).mono ?_); rintro e w' ⟨rfl, rfl⟩))
      go_wp2_with (go_at_call 24; (with_reducible refine (HR.out _ B2.out).mono ?_); rintro e w3 ⟨v, rfl, hown, hb2⟩; have B3 := Lib.hid hb2; have O3 := Lib.hid hown; clear hb2 hown)
      obtain ⟨A2, cap2, rfl, hsl2, _, _, _, _⟩ := Sl.own O3.out
      have S2 := Lib.hid hsl2
      clear hsl2
      have S1 := Lib.hid (show Sl w3 (some ⟨q, 0, none⟩) 32 (bl (dg false L)) from Sl.of_bl (K2.out.below' B3.out) 0 _ _ (by rw [bl_length, dg_length32]) (fun k v hk => by rw [Nat.zero_add]; simpa using hk))
      go_wp2_with (go_at_call 21; (with_reducible refine (samebytes_same (dg false L) _ _ _ _ _ _ _ S1.out S2.out).mono ?_); rintro e w' ⟨rfl, rfl⟩)
      have B4 := Lib.hid ((B1.out.trans (B2.out.mono B1.out.size)).trans (B3.out.mono (Nat.le_trans B1.out.size B2.out.size)))
      go_wp2_with (go_at_call 18; (with_reducible refine (known_any _ (TAB.out.below B4.out)).mono ?_); rintro e w5 ⟨rfl, hb5⟩)
      go_ret
      exact ⟨rfl, B4.out.trans (hb5.mono B4.out.size)⟩
set_option maxRecDepth 100000 in
set_option maxHeartbeats 1000000 in
theorem lens64_ok (n x : Nat) (hn : n < 256) (hx : x < 256) (w : World) (tab : Tab w) :
    Calls Tryd.prog 6 #[.int .u8 (n : Int), .int .u8 (x : Int), .bool true] w fun e w' => e = .returned (.bool true) ∧ Below w.heap.size w w' := by
  have TAB := Lib.hid tab
  obtain ⟨N, hN⟩ : ∃ N, N = n + 40 := ⟨_, rfl⟩
  have eN : (n : Int) + 40 = (N : Int) := by omega
  have hN2 : N ≤ 300 := by omega
  have hmk := fun w => run_make_row' (P := Tryd.prog) 30 5 (.int .u8 0) 1 Tryd.underlying30 infob rfl .i64 .i64 N (by omega) (by omega) w
  have HN := Lib.hid hN
  clear hN tab
  go_enter Tryd.func6, Tryd.ntmps6
  go_wp2_with (go_at_call 26; (with_reducible refine (n2_true _).mono ?_); rintro e w' ⟨rfl, rfl⟩)
  clear hmk
  go_loopw [8] (fun i wr => LenRel N x w i wr) (fun i _ => N - (intOf i).toNat)
  case atStart =>
    refine ⟨0, _, Nat.zero_le _, rfl, size_madeCells _ _, ?_, rfl⟩
    intro p hp
    rw [if_neg (by omega), ← Array.getElem?_toList, toList_madeCells_one, List.getElem?_replicate, if_pos hp]
    rfl
  case round =>
    obtain ⟨k, arr, hk, rfl, hsz, harr, rfl⟩ := hrel
    have H1 := Lib.hid hsz
    have H2 := Lib.hid harr
    clear hsz harr
    by_cases hlt : k < N
    · have hks : k < arr.size := by rw [H1.out]; exact hlt
      have hc : (w.alloc (.cells arr 5)).cell? ⟨w.heap.size, k, none⟩ = some arr[k] := by
        have := cell_of_row _ _ k arr 5 (0, 0) (heap_alloc_new w (.cells arr 5))
        rw [Array.getElem?_eq_getElem hks] at this
        exact this
      go_wp2_with fail
      go_roundw
      case rel =>
        refine ⟨k + 1, _, by omega, by go_num, by rw [Array.size_setIfInBounds]; exact H1.out, ?_, rfl⟩
        intro j hj
        rw [Array.getElem?_setIfInBounds]
        by_cases hjk : k = j
        · subst hjk; rw [if_pos rfl, if_pos hks, if_pos (by omega)]
        · rw [if_neg hjk, H2.out j hj]
          by_cases h : j < k
          · rw [if_pos h, if_pos (by omega)]
          · rw [if_neg h, if_neg (by omega)]
      case measure => simp [intOf]; omega
    · obtain ⟨L, hL⟩ : ∃ L, L = List.replicate N x := ⟨_, rfl⟩
      have hLl : L.length = N := by rw [hL, List.length_replicate]
      have hLb : ∀ y ∈ L, y < 256 := fun y hy => by rw [hL] at hy; rw [List.eq_of_mem_replicate hy]; exact hx
      have harr : arr = (bl L).toArray := by
        apply Array.ext_getElem?
        intro j
        by_cases hj : j < N
        · rw [H2.out j hj, if_pos (by omega), hL]
          simp [bl_get, hj]
        · rw [Array.getElem?_eq_none (by rw [H1.out]; omega), Array.getElem?_eq_none]
          simp [bl, hLl]; omega
      have B1 := Lib.hid (show Below w.heap.size w (w.alloc (.cells arr 5)) from (Below.refl _ _).alloc (Nat.le_refl _) _)
      have S0 := Lib.hid (show Sl (w.alloc (.cells arr 5)) (some ⟨w.heap.size, 0, none⟩) N (bl L) from by
        rw [harr, ← hLl, ← bl_length L]; exact Sl.new_ w _ (bl L))
      generalize hw1 : w.alloc (.cells arr 5) = w1 at B1 S0 ⊢
      have HSUM := Lib.hid (lsum64 L (some ⟨w.heap.size, 0, none⟩) N N hLl w1 hLb S0.out (Nat.le_refl _) (by omega) (TAB.out.below B1.out))
      have HR := Lib.hid (fun (wx : World) (h : Below w1.heap.size w1 wx) => rsum64_any L (some ⟨w.heap.size, 0, none⟩) N N wx hLb (S0.out.below h) (fun h => by cases h) (by omega))
      clear hL hLl hLb harr hw1
      go_wp2_with (first | (go_at_call 23; (with_reducible refine HSUM.out.mono ?_); rintro e w2 ⟨q, rfl, hq, hbl, hb1⟩; have B2 := Lib.hid hb1; have K2 := Lib.hid hbl; clear hq hbl hb1) | (go_at_call 25; (with_reducible refine (which_true _).mono ?_); rintro e w' ⟨rfl, rfl⟩))
      go_wp2_with (go_at_call 24; (with_reducible refine (HR.out _ B2.out).mono ?_); rintro e w3 ⟨v, rfl, hown, hb2⟩; have B3 := Lib.hid hb2; have O3 := Lib.hid hown; clear hb2 hown)
      obtain ⟨A2, cap2, rfl, hsl2, _, _, _, _⟩ := Sl.own O3.out
      have S2 := Lib.hid hsl2
      clear hsl2
      have S1 := Lib.hid (show Sl w3 (some ⟨q, 0, none⟩) 64 (bl (dg true L)) from Sl.of_bl (K2.out.below' B3.out) 0 _ _ (by rw [bl_length, dg_length64]) (fun k v hk => by rw [Nat.zero_add]; simpa using hk))
      go_wp2_with (go_at_call 21; (with_reducible refine (samebytes_same (dg true L) _ _ _ _ _ _ _ S1.out S2.out).mono ?_); rintro e w' ⟨rfl, rfl⟩)
      have B4 := Lib.hid ((B1.out.trans (B2.out.mono B1.out.size)).trans (B3.out.mono (Nat.le_trans B1.out.size B2.out.size)))
      go_wp2_with (go_at_call 18; (with_reducible refine (known_any _ (TAB.out.below B4.out)).mono ?_); rintro e w5 ⟨rfl, hb5⟩)
      go_ret
      exact ⟨rfl, B4.out.trans (hb5.mono B4.out.size)⟩
theorem walk_sha2Lengths {w : World} (tab : Tab w) (x : Int) (hx : (Lit.int .u8 x).wf) (y : Int) (hy : (Lit.int .u8 y).wf) (b : Bool) :
    Calls Tryd.prog 6 #[.int .u8 x, .int .u8 y, .bool b] w fun e w' => e = .returned (.bool true) ∧ Below w.heap.size w w' := by
  have hx' : 0 ≤ x ∧ x ≤ 255 := by simpa [Lit.wf, IntKind.min, IntKind.max, IntKind.signed, IntKind.bits] using hx
  have hy' : 0 ≤ y ∧ y ≤ 255 := by simpa [Lit.wf, IntKind.min, IntKind.max, IntKind.signed, IntKind.bits] using hy
  obtain ⟨n, rfl⟩ : ∃ n : Nat, x = (n : Int) := ⟨x.toNat, by omega⟩
  obtain ⟨m, rfl⟩ : ∃ m : Nat, y = (m : Int) := ⟨y.toNat, by omega⟩
  cases b
  · exact lens32_ok n m (by omega) (by omega) w tab
  · exact lens64_ok n m (by omega) (by omega) w tab
end Go.Proofs.YtfdjphinicafiabDoor.Sh
