/-
  The contracts of digest: the eight words' bytes.
-/
import Derived.Test.YtfdjphinicafiabDoorShObj
import Derived.Test.YtfdjphinicafiabDoorShPad
namespace Go.Proofs.YtfdjphinicafiabDoor.Sh
open Go.RowKit Go.Proofs.YtfdjphinicafiabDoor.Gn Go.Deep
set_option linter.unusedVariables false
attribute [local go_sem ↓] Go.wp_at_zero Go.wp_at_succ

def bys (l : List Nat) : Array Value := (bl l).toArray
theorem byte_step (X t : Nat) : X / 256 ^ t / 256 = X / 256 ^ (t + 1) := by rw [Nat.div_div_eq_div_mul, Nat.pow_succ]
theorem dsize32 (w : World) : Calls Tryd.prog 49 #[.int .i64 256] w fun e w' => e = .returned (.int .i64 32) ∧ w = w' := by
  go_enter Tryd.func49, Tryd.ntmps49
  go_wp2
  go_ret
  exact ⟨rfl, rfl⟩
def D132 (ws : List Nat) (w : World) (i : Value) (wr : World) : Prop :=
  ∃ (k : Nat) (arr : Array Value), k ≤ 8 ∧ i = .int .i64 (k : Int) ∧ arr.size = 32 ∧ (∀ p, p < 32 → arr[p]? = some (.int .u8 ((if p < k * 4 then byA ws 4 p else 0 : Nat) : Int))) ∧ wr = w.alloc (.cells arr 5)
def D232 (ws : List Nat) (k X : Nat) (w : World) (x j : Value) (wr : World) : Prop :=
  ∃ (t : Nat) (arr : Array Value), t ≤ 4 ∧ x = .int .u64 ((X / 256 ^ t : Nat) : Int) ∧ j = .int .i64 (4 - 1 - (t : Int)) ∧ arr.size = 32 ∧ (∀ p, p < 32 → arr[p]? = some (.int .u8 ((if p < k * 4 ∨ (p < k * 4 + 4 ∧ k * 4 + 4 ≤ p + t) then byA ws 4 p else 0 : Nat) : Int))) ∧ wr = w.alloc (.cells arr 5)
set_option maxRecDepth 100000 in
set_option maxHeartbeats 1000000 in
theorem digest32_any (g n : Nat) (ws rs : List Nat) (hw : ws.length = 8) (hr : rs.length = 128) (hwl : ∀ x ∈ ws, x < 18446744073709551616) (w : World) (hb : Bl w g 72 (hc false n ws rs).toArray) :
    Calls Tryd.prog 48 #[.pointer (some ⟨g, 0, none⟩)] w fun e w' => e = .returned (.slice (some ⟨w.heap.size, 0, none⟩) 32 32) ∧ w' = w.alloc (.cells (bl (ws.flatMap fun x => be x 4)).toArray 5) := by
  have hmk : ∀ w, (Instr.makeSlice 30 (.int .i64 32) (.int .i64 32)).run Tryd.prog w = .ok (.slice (some ⟨w.heap.size, 0, none⟩) 32 32) (w.alloc (.cells (madeCells #[.int .u8 0] 32) 5)) :=
    fun w => run_make_row' (P := Tryd.prog) 30 5 (.int .u8 0) 1 Tryd.underlying30 infob rfl .i64 .i64 32 (by omega) (by omega) w
  have HB := Lib.hid hb
  have b0 : w.cell? ⟨g, 0, none⟩ = some (.int .i64 256) := hb.cell_ rfl
  have hgl := hb.lt
  have hex : (hc false n ws rs).toArray.extract 2 (2 + 8) = al .u64 ws := by
    obtain ⟨x0, x1, x2, x3, x4, x5, x6, x7, rfl⟩ := eight_of hw
    simp [hc, al]
  have HEX := Lib.hid hex
  have HSZ := Lib.hid (hc_size false n ws rs hw hr)
  have HW := Lib.hid hw
  have HWL := Lib.hid hwl
  clear hb hex hw hr hwl
  obtain ⟨aw, haw⟩ : ∃ a, a = al .u64 ws := ⟨_, rfl⟩
  rw [← haw] at HEX
  have HAW := Lib.hid haw
  clear haw
  go_enter Tryd.func48, Tryd.ntmps48
  go_wp2_with (first | (go_at_call 49; refine (dsize32 _).mono ?_; rintro e w' ⟨rfl, rfl⟩) | (refine wpList_load_bl rfl 58 _ rfl g 2 8 rfl 72 _ (HB.out.below' ((Below.refl _ _).alloc (Nat.le_refl _) _)) _ (by rw [HSZ.out]; decide) aw HEX.out Tryd.underlying58 rfl eightq ?_))
  go_loopw [21] (fun i wr => D132 ws w i wr) (fun i _ => 8 - (intOf i).toNat)
  case atStart =>
    refine ⟨0, _, Nat.zero_le _, rfl, size_madeCells _ _, ?_, rfl⟩
    intro p hp
    rw [if_neg (by omega), ← Array.getElem?_toList, toList_madeCells_one, List.getElem?_replicate, if_pos hp]
    rfl
  case round =>
    obtain ⟨k, arr, hk, rfl, hsz, harr, rfl⟩ := hrel
    have H1 := Lib.hid hsz
    have H2 := Lib.hid harr
    clear hsz harr
    by_cases hlt : k < 8
    · obtain ⟨X, hX⟩ : ∃ X, X = ws.getD k 0 := ⟨_, rfl⟩
      have hXl : X < 18446744073709551616 := by
        rw [hX]
        have hkl : k < ws.length := by rw [HW.out]; exact hlt
        rw [List.getD_eq_getElem?_getD, List.getElem?_eq_getElem hkl]
        exact HWL.out _ (List.getElem_mem _)
      have hidx := run_index_agg Tryd.underlying58 Tryd.underlying22 info_u64 aw k (.int .u64 (X : Int)) hlt (by rw [HAW.out, al_get _ _ _ (by rw [HW.out]; exact hlt), ← hX])
      have HX := Lib.hid hX
      have HXL := Lib.hid hXl
      clear hX hXl
      go_wp2_with fail
      clear hidx
      go_loopw [6, 7] (fun x j wr => D232 ws k X w x j wr) (fun _ j _ => (intOf j + 1).toNat)
      case atStart =>
        refine ⟨0, arr, Nat.zero_le _, congrArg _ (by simp), congrArg _ (by simp), H1.out, ?_, rfl⟩
        intro p hp
        rw [H2.out p hp]
        by_cases h : p < k * 4
        · rw [if_pos h, if_pos (.inl h)]
        · rw [if_neg h, if_neg (by omega)]
      case round =>
        obtain ⟨t, ar2, ht, rfl, rfl, hsz, harr, rfl⟩ := hrel
        have G1 := Lib.hid hsz
        have G2 := Lib.hid harr
        clear hsz harr
        by_cases htl : t < 4
        · obtain ⟨u, hu⟩ : ∃ u, u = 4 - 1 - t := ⟨_, rfl⟩
          have ej : (4 - 1 - (t : Int)) = (u : Int) := by omega
          rw [ej]
          have hu4 : u < 4 := by omega
          obtain ⟨p, hp⟩ : ∃ p, p = k * 4 + u := ⟨_, rfl⟩
          have ep : (k : Int) * 4 + (u : Int) = (p : Int) := by omega
          have hp32 : p < 32 := by omega
          obtain ⟨L, hL⟩ : ∃ L, L = X / 256 ^ t := ⟨_, rfl⟩
          rw [← hL]
          have hLl : L < 18446744073709551616 := by rw [hL]; exact Nat.lt_of_le_of_lt (Nat.div_le_self _ _) HXL.out
          have hL2 : L / 256 = X / 256 ^ (t + 1) := by rw [hL, byte_step]
          have eb : IntKind.u8.wrap (L : Int) = ((L % 256 : Nat) : Int) := by rw [IntKind.wrap_u8]; omega
          have HU := Lib.hid (And.intro hu hp)
          have HLL := Lib.hid hLl
          have HL := Lib.hid hL
          have HL2 := Lib.hid hL2
          have EJ := Lib.hid ej
          have hps : p < ar2.size := by rw [G1.out]; exact hp32
          have hc : (w.alloc (.cells ar2 5)).cell? ⟨w.heap.size, p, none⟩ = some ar2[p] := by
            have := cell_of_row _ _ p ar2 5 (0, 0) (heap_alloc_new w (.cells ar2 5))
            rw [Array.getElem?_eq_getElem hps] at this
            exact this
          clear hu hp hL hL2 hLl ej
          go_wp2_with fail
          go_roundw
          case rel =>
            obtain ⟨hu, hp⟩ := HU.out
            refine ⟨t + 1, _, by omega, ?_, congrArg _ (by omega), by rw [Array.size_setIfInBounds]; exact G1.out, ?_, rfl⟩
            · rw [← HL2.out]; exact congrArg _ (by simp)
            · intro q hq
              rw [Array.getElem?_setIfInBounds]
              by_cases hpq : p = q
              · subst hpq
                rw [if_pos rfl, if_pos hps, if_pos (.inr ⟨by omega, by omega⟩)]
                have e1 : p / 4 = k := by omega
                have e2 : p % 4 = u := by omega
                have e3 : 4 - 1 - u = t := by omega
                unfold byA
                rw [e1, e2, e3, ← HX.out, ← HL.out]
                simp
              · rw [if_neg hpq, G2.out q hq]
                by_cases h : q < k * 4 ∨ q < k * 4 + 4 ∧ k * 4 + 4 ≤ q + t
                · rw [if_pos h, if_pos (by omega)]
                · rw [if_neg h, if_neg (by omega)]
          case measure => simp [intOf]
        · obtain rfl : t = 4 := by omega
          have ej : ((4 : Int) - 1 - ((4 : Nat) : Int)) = -1 := by omega
          rw [ej]
          clear ej
          go_wp2_with fail
          go_roundw
          case rel =>
            refine ⟨k + 1, ar2, by omega, by go_num, G1.out, ?_, rfl⟩
            intro q hq
            rw [G2.out q hq]
            by_cases h : q < (k + 1) * 4
            · rw [if_pos h, if_pos (by omega)]
            · rw [if_neg h, if_neg (by omega)]
          case measure => simp [intOf]; omega
    · obtain rfl : k = 8 := by omega
      go_wp2_with fail
      go_ret
      refine ⟨rfl, ?_⟩
      congr 2
      apply Array.ext_getElem?
      intro q
      have hfl := flat_length ws 4
      rw [HW.out] at hfl
      by_cases hq : q < 32
      · rw [H2.out q hq, if_pos (by omega)]
        simp only [List.getElem?_toArray, bl_get, flat_get ws 4 q (by decide) (by rw [HW.out]; exact hq), Option.map_some]
      · rw [Array.getElem?_eq_none (by rw [H1.out]; omega), Array.getElem?_eq_none]
        simp [bl, hfl]; omega
theorem dsize64 (w : World) : Calls Tryd.prog 49 #[.int .i64 512] w fun e w' => e = .returned (.int .i64 64) ∧ w = w' := by
  go_enter Tryd.func49, Tryd.ntmps49
  go_wp2
  go_ret
  exact ⟨rfl, rfl⟩
def D164 (ws : List Nat) (w : World) (i : Value) (wr : World) : Prop :=
  ∃ (k : Nat) (arr : Array Value), k ≤ 8 ∧ i = .int .i64 (k : Int) ∧ arr.size = 64 ∧ (∀ p, p < 64 → arr[p]? = some (.int .u8 ((if p < k * 8 then byA ws 8 p else 0 : Nat) : Int))) ∧ wr = w.alloc (.cells arr 5)
def D264 (ws : List Nat) (k X : Nat) (w : World) (x j : Value) (wr : World) : Prop :=
  ∃ (t : Nat) (arr : Array Value), t ≤ 8 ∧ x = .int .u64 ((X / 256 ^ t : Nat) : Int) ∧ j = .int .i64 (8 - 1 - (t : Int)) ∧ arr.size = 64 ∧ (∀ p, p < 64 → arr[p]? = some (.int .u8 ((if p < k * 8 ∨ (p < k * 8 + 8 ∧ k * 8 + 8 ≤ p + t) then byA ws 8 p else 0 : Nat) : Int))) ∧ wr = w.alloc (.cells arr 5)
set_option maxRecDepth 100000 in
set_option maxHeartbeats 1000000 in
theorem digest64_any (g n : Nat) (ws rs : List Nat) (hw : ws.length = 8) (hr : rs.length = 128) (hwl : ∀ x ∈ ws, x < 18446744073709551616) (w : World) (hb : Bl w g 72 (hc true n ws rs).toArray) :
    Calls Tryd.prog 48 #[.pointer (some ⟨g, 0, none⟩)] w fun e w' => e = .returned (.slice (some ⟨w.heap.size, 0, none⟩) 64 64) ∧ w' = w.alloc (.cells (bl (ws.flatMap fun x => be x 8)).toArray 5) := by
  have hmk : ∀ w, (Instr.makeSlice 30 (.int .i64 64) (.int .i64 64)).run Tryd.prog w = .ok (.slice (some ⟨w.heap.size, 0, none⟩) 64 64) (w.alloc (.cells (madeCells #[.int .u8 0] 64) 5)) :=
    fun w => run_make_row' (P := Tryd.prog) 30 5 (.int .u8 0) 1 Tryd.underlying30 infob rfl .i64 .i64 64 (by omega) (by omega) w
  have HB := Lib.hid hb
  have b0 : w.cell? ⟨g, 0, none⟩ = some (.int .i64 512) := hb.cell_ rfl
  have hgl := hb.lt
  have hex : (hc true n ws rs).toArray.extract 2 (2 + 8) = al .u64 ws := by
    obtain ⟨x0, x1, x2, x3, x4, x5, x6, x7, rfl⟩ := eight_of hw
    simp [hc, al]
  have HEX := Lib.hid hex
  have HSZ := Lib.hid (hc_size true n ws rs hw hr)
  have HW := Lib.hid hw
  have HWL := Lib.hid hwl
  clear hb hex hw hr hwl
  obtain ⟨aw, haw⟩ : ∃ a, a = al .u64 ws := ⟨_, rfl⟩
  rw [← haw] at HEX
  have HAW := Lib.hid haw
  clear haw
  go_enter Tryd.func48, Tryd.ntmps48
  go_wp2_with (first | (go_at_call 49; refine (dsize64 _).mono ?_; rintro e w' ⟨rfl, rfl⟩) | (refine wpList_load_bl rfl 58 _ rfl g 2 8 rfl 72 _ (HB.out.below' ((Below.refl _ _).alloc (Nat.le_refl _) _)) _ (by rw [HSZ.out]; decide) aw HEX.out Tryd.underlying58 rfl eightq ?_))
  go_loopw [21] (fun i wr => D164 ws w i wr) (fun i _ => 8 - (intOf i).toNat)
  case atStart =>
    refine ⟨0, _, Nat.zero_le _, rfl, size_madeCells _ _, ?_, rfl⟩
    intro p hp
    rw [if_neg (by omega), ← Array.getElem?_toList, toList_madeCells_one, List.getElem?_replicate, if_pos hp]
    rfl
  case round =>
    obtain ⟨k, arr, hk, rfl, hsz, harr, rfl⟩ := hrel
    have H1 := Lib.hid hsz
    have H2 := Lib.hid harr
    clear hsz harr
    by_cases hlt : k < 8
    · obtain ⟨X, hX⟩ : ∃ X, X = ws.getD k 0 := ⟨_, rfl⟩
      have hXl : X < 18446744073709551616 := by
        rw [hX]
        have hkl : k < ws.length := by rw [HW.out]; exact hlt
        rw [List.getD_eq_getElem?_getD, List.getElem?_eq_getElem hkl]
        exact HWL.out _ (List.getElem_mem _)
      have hidx := run_index_agg Tryd.underlying58 Tryd.underlying22 info_u64 aw k (.int .u64 (X : Int)) hlt (by rw [HAW.out, al_get _ _ _ (by rw [HW.out]; exact hlt), ← hX])
      have HX := Lib.hid hX
      have HXL := Lib.hid hXl
      clear hX hXl
      go_wp2_with fail
      clear hidx
      go_loopw [6, 7] (fun x j wr => D264 ws k X w x j wr) (fun _ j _ => (intOf j + 1).toNat)
      case atStart =>
        refine ⟨0, arr, Nat.zero_le _, congrArg _ (by simp), congrArg _ (by simp), H1.out, ?_, rfl⟩
        intro p hp
        rw [H2.out p hp]
        by_cases h : p < k * 8
        · rw [if_pos h, if_pos (.inl h)]
        · rw [if_neg h, if_neg (by omega)]
      case round =>
        obtain ⟨t, ar2, ht, rfl, rfl, hsz, harr, rfl⟩ := hrel
        have G1 := Lib.hid hsz
        have G2 := Lib.hid harr
        clear hsz harr
        by_cases htl : t < 8
        · obtain ⟨u, hu⟩ : ∃ u, u = 8 - 1 - t := ⟨_, rfl⟩
          have ej : (8 - 1 - (t : Int)) = (u : Int) := by omega
          rw [ej]
          have hu4 : u < 8 := by omega
          obtain ⟨p, hp⟩ : ∃ p, p = k * 8 + u := ⟨_, rfl⟩
          have ep : (k : Int) * 8 + (u : Int) = (p : Int) := by omega
          have hp32 : p < 64 := by omega
          obtain ⟨L, hL⟩ : ∃ L, L = X / 256 ^ t := ⟨_, rfl⟩
          rw [← hL]
          have hLl : L < 18446744073709551616 := by rw [hL]; exact Nat.lt_of_le_of_lt (Nat.div_le_self _ _) HXL.out
          have hL2 : L / 256 = X / 256 ^ (t + 1) := by rw [hL, byte_step]
          have eb : IntKind.u8.wrap (L : Int) = ((L % 256 : Nat) : Int) := by rw [IntKind.wrap_u8]; omega
          have HU := Lib.hid (And.intro hu hp)
          have HLL := Lib.hid hLl
          have HL := Lib.hid hL
          have HL2 := Lib.hid hL2
          have EJ := Lib.hid ej
          have hps : p < ar2.size := by rw [G1.out]; exact hp32
          have hc : (w.alloc (.cells ar2 5)).cell? ⟨w.heap.size, p, none⟩ = some ar2[p] := by
            have := cell_of_row _ _ p ar2 5 (0, 0) (heap_alloc_new w (.cells ar2 5))
            rw [Array.getElem?_eq_getElem hps] at this
            exact this
          clear hu hp hL hL2 hLl ej
          go_wp2_with fail
          go_roundw
          case rel =>
            obtain ⟨hu, hp⟩ := HU.out
            refine ⟨t + 1, _, by omega, ?_, congrArg _ (by omega), by rw [Array.size_setIfInBounds]; exact G1.out, ?_, rfl⟩
            · rw [← HL2.out]; exact congrArg _ (by simp)
            · intro q hq
              rw [Array.getElem?_setIfInBounds]
              by_cases hpq : p = q
              · subst hpq
                rw [if_pos rfl, if_pos hps, if_pos (.inr ⟨by omega, by omega⟩)]
                have e1 : p / 8 = k := by omega
                have e2 : p % 8 = u := by omega
                have e3 : 8 - 1 - u = t := by omega
                unfold byA
                rw [e1, e2, e3, ← HX.out, ← HL.out]
                simp
              · rw [if_neg hpq, G2.out q hq]
                by_cases h : q < k * 8 ∨ q < k * 8 + 8 ∧ k * 8 + 8 ≤ q + t
                · rw [if_pos h, if_pos (by omega)]
                · rw [if_neg h, if_neg (by omega)]
          case measure => simp [intOf]
        · obtain rfl : t = 8 := by omega
          have ej : ((8 : Int) - 1 - ((8 : Nat) : Int)) = -1 := by omega
          rw [ej]
          clear ej
          go_wp2_with fail
          go_roundw
          case rel =>
            refine ⟨k + 1, ar2, by omega, by go_num, G1.out, ?_, rfl⟩
            intro q hq
            rw [G2.out q hq]
            by_cases h : q < (k + 1) * 8
            · rw [if_pos h, if_pos (by omega)]
            · rw [if_neg h, if_neg (by omega)]
          case measure => simp [intOf]; omega
    · obtain rfl : k = 8 := by omega
      go_wp2_with fail
      go_ret
      refine ⟨rfl, ?_⟩
      congr 2
      apply Array.ext_getElem?
      intro q
      have hfl := flat_length ws 8
      rw [HW.out] at hfl
      by_cases hq : q < 64
      · rw [H2.out q hq, if_pos (by omega)]
        simp only [List.getElem?_toArray, bl_get, flat_get ws 8 q (by decide) (by rw [HW.out]; exact hq), Option.map_some]
      · rw [Array.getElem?_eq_none (by rw [H1.out]; omega), Array.getElem?_eq_none]
        simp [bl, hfl]; omega
end Go.Proofs.YtfdjphinicafiabDoor.Sh
