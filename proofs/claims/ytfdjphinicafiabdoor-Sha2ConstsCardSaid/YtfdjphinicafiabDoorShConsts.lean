/-
  The walk of the law on constants.
-/
import Derived.Test.YtfdjphinicafiabDoorShRooted
namespace Go.Proofs.YtfdjphinicafiabDoor.Sh
open Go.RowKit Go.Proofs.YtfdjphinicafiabDoor.Gn Go.Deep
set_option linter.unusedVariables false
attribute [local go_sem ↓] Go.wp_at_zero Go.wp_at_succ

theorem rconst_any (i : Nat) (w : World) (hi : i < 80) : Calls Tryd.prog 13 #[.int .i64 (i : Int)] w fun e w' => e = .returned (.tuple #[.int .u64 ((kc.getD i 0 : Nat) : Int), .int .i64 0]) ∧ Below w.heap.size w w' := by
  have hl := Lib.hid (show i < kc.length from hi)
  obtain ⟨v, hv⟩ : ∃ v, v = kc.getD i 0 := ⟨_, rfl⟩
  rw [← hv]
  have HV := Lib.hid hv
  clear hv
  go_enter Tryd.func13, Tryd.ntmps13
  go_wp2_with (go_at_call 34; (with_reducible refine (rconstants_any _).mono ?_); rintro e w4 ⟨rfl, hw4⟩; have B4 := Lib.hid (show Below w.heap.size w w4 by rw [hw4]; exact (Below.refl _ _).alloc (Nat.le_refl _) _); have K4 := Lib.hid (show Bl w4 w.heap.size 22 (nl kc).toArray by rw [hw4]; exact Bl.new_ _ _ _); have hc : w4.cell? ⟨w.heap.size, i, none⟩ = some (.int .u64 (v : Int)) := (nl_cell K4.out hl.out).trans (by rw [← HV.out]); clear hw4)
  go_ret2
  exact ⟨rfl, B4.out⟩
theorem rstart_any (i : Nat) (w : World) (hi : i < 8) : Calls Tryd.prog 15 #[.int .i64 (i : Int)] w fun e w' => e = .returned (.tuple #[.int .u64 ((sc.getD i 0 : Nat) : Int), .int .i64 0]) ∧ Below w.heap.size w w' := by
  have hl := Lib.hid (show i < sc.length from hi)
  obtain ⟨v, hv⟩ : ∃ v, v = sc.getD i 0 := ⟨_, rfl⟩
  rw [← hv]
  have HV := Lib.hid hv
  clear hv
  go_enter Tryd.func15, Tryd.ntmps15
  go_wp2_with (go_at_call 35; (with_reducible refine (rstarts_any _).mono ?_); rintro e w4 ⟨rfl, hw4⟩; have B4 := Lib.hid (show Below w.heap.size w w4 by rw [hw4]; exact (Below.refl _ _).alloc (Nat.le_refl _) _); have K4 := Lib.hid (show Bl w4 w.heap.size 22 (nl sc).toArray by rw [hw4]; exact Bl.new_ _ _ _); have hc : w4.cell? ⟨w.heap.size, i, none⟩ = some (.int .u64 (v : Int)) := (nl_cell K4.out hl.out).trans (by rw [← HV.out]); clear hw4)
  go_ret2
  exact ⟨rfl, B4.out⟩
theorem rconst_no (i : Int) (w : World) (hi : i < 0 ∨ 80 ≤ i) : Calls Tryd.prog 13 #[.int .i64 i] w fun e w' => e = .returned (.tuple #[.int .u64 0, .int .i64 1]) ∧ w = w' := by
  by_cases h : i < 0
  · go_enter Tryd.func13, Tryd.ntmps13
    go_wp2
    go_ret2
    exact ⟨rfl, rfl⟩
  · have h2 : 80 ≤ i := by omega
    go_enter Tryd.func13, Tryd.ntmps13
    go_wp2
    go_ret2
    exact ⟨rfl, rfl⟩
theorem rstart_no (i : Int) (w : World) (hi : i < 0 ∨ 8 ≤ i) : Calls Tryd.prog 15 #[.int .i64 i] w fun e w' => e = .returned (.tuple #[.int .u64 0, .int .i64 1]) ∧ w = w' := by
  by_cases h : i < 0
  · go_enter Tryd.func15, Tryd.ntmps15
    go_wp2
    go_ret2
    exact ⟨rfl, rfl⟩
  · have h2 : 8 ≤ i := by omega
    go_enter Tryd.func15, Tryd.ntmps15
    go_wp2
    go_ret2
    exact ⟨rfl, rfl⟩
theorem consts_pair (i : Int) : ∃ v er : Int, (∀ w, Tab w → Calls Tryd.prog 12 #[.int .i64 i] w fun e w' => e = .returned (.tuple #[.int .u64 v, .int .i64 er]) ∧ w = w') ∧ ∀ w, Calls Tryd.prog 13 #[.int .i64 i] w fun e w' => e = .returned (.tuple #[.int .u64 v, .int .i64 er]) ∧ Below w.heap.size w w' := by
  by_cases h : i < 0 ∨ 80 ≤ i
  · exact ⟨0, 1, fun w _ => const_no i w h, fun w => (rconst_no i w h).mono fun e w' ⟨h1, h2⟩ => ⟨h1, by rw [h2]; exact Below.refl _ _⟩⟩
  · obtain ⟨n, rfl⟩ : ∃ n : Nat, i = (n : Int) := ⟨i.toNat, by omega⟩
    exact ⟨_, 0, fun w tab => const_any n w (by omega) tab, fun w => rconst_any n w (by omega)⟩
theorem starts_pair (i : Int) : ∃ v er : Int, (∀ w, Tab w → Calls Tryd.prog 14 #[.int .i64 i] w fun e w' => e = .returned (.tuple #[.int .u64 v, .int .i64 er]) ∧ w = w') ∧ ∀ w, Calls Tryd.prog 15 #[.int .i64 i] w fun e w' => e = .returned (.tuple #[.int .u64 v, .int .i64 er]) ∧ Below w.heap.size w w' := by
  by_cases h : i < 0 ∨ 8 ≤ i
  · exact ⟨0, 1, fun w _ => start_no i w h, fun w => (rstart_no i w h).mono fun e w' ⟨h1, h2⟩ => ⟨h1, by rw [h2]; exact Below.refl _ _⟩⟩
  · obtain ⟨n, rfl⟩ : ∃ n : Nat, i = (n : Int) := ⟨i.toNat, by omega⟩
    exact ⟨_, 0, fun w tab => start_any n w (by omega) tab, fun w => rstart_any n w (by omega)⟩
theorem among_any (x n : Int) (w : World) (hn : 1 ≤ n) (hn' : n ≤ 1000000) (hx : -9223372036854775808 ≤ x) (hx' : x ≤ 9223372036854775807) :
    Calls Tryd.prog 16 #[.int .i64 x, .int .i64 n] w fun e w' => e = .returned (.int .i64 (x % n)) ∧ w = w' := by
  have hm : IntKind.i64.wrap (x.tmod n) = x.tmod n := by
    refine IntWalk.i64_in _ ?_
    have h1 := Int.tmod_lt_of_pos x (show 0 < n by omega)
    have h2 := Int.lt_tmod_of_pos x (show 0 < n by omega)
    omega
  go_enter Tryd.func16, Tryd.ntmps16
  have he : x % n = (x.tmod n) % n := by
    have := Int.tmod_add_mul_tdiv x n
    rw [← this]; simp [Int.add_mul_emod_self_left]
    rw [this]
  have h1 := Int.tmod_lt_of_pos x (show 0 < n by omega)
  have h2 := Int.lt_tmod_of_pos x (show 0 < n by omega)
  have HE := Lib.hid he
  have H12 := Lib.hid (And.intro h1 h2)
  clear he h1 h2
  go_wp2
  · go_ret
    have := H12.out
    have hneg : x.tmod n < 0 := by assumption
    refine ⟨ret_int ?_, rfl⟩
    rw [HE.out, IntWalk.wrap64_in _ (by omega), ← Int.add_emod_right, Int.emod_eq_of_lt (by omega) (by omega)]
  · go_ret
    have := H12.out
    have hpos : 0 ≤ x.tmod n := by assumption
    refine ⟨ret_int ?_, rfl⟩
    rw [HE.out, Int.emod_eq_of_lt hpos (by omega)]

set_option maxRecDepth 100000 in
set_option maxHeartbeats 4000000 in
theorem walk_sha2Consts {w : World} (tab : Tab w) (i : Int) (hi : (Lit.int .i64 i).wf) :
    Calls Tryd.prog 3 #[.int .i64 i] w fun e w' => e = .returned (.bool true) ∧ Below w.heap.size w w' := by
  have hi' : -9223372036854775808 ≤ i ∧ i ≤ 9223372036854775807 := by simpa [Lit.wf, IntKind.min, IntKind.max, IntKind.signed, IntKind.bits] using hi
  obtain ⟨v1, r1, hc1, hc2⟩ := consts_pair i
  obtain ⟨v2, r2, hs1, hs2⟩ := starts_pair i
  obtain ⟨K, hK⟩ : ∃ K : Nat, (K : Int) = i % 80 := ⟨(i % 80).toNat, by omega⟩
  have hK80 : K < 80 := by omega
  obtain ⟨M, hM⟩ : ∃ M : Nat, M = K % 8 := ⟨_, rfl⟩
  have hM8 : M < 8 := by omega
  have eM : (K : Int) % 8 = (M : Int) := by omega
  have wM : IntKind.i64.wrap (M : Int) = (M : Int) := by rw [IntKind.wrap_i64]; omega
  obtain ⟨cv, hcv⟩ : ∃ cv, cv = kc.getD K 0 := ⟨_, rfl⟩
  obtain ⟨sv, hsv⟩ : ∃ sv, sv = sc.getD M 0 := ⟨_, rfl⟩
  have CK := Lib.hid (fun w tab => const_any K w hK80 tab)
  have SM := Lib.hid (fun w tab => start_any M w hM8 tab)
  have R3 := Lib.hid (fun w => root3_any K hK80 w)
  have R2 := Lib.hid (fun w => root2_any M hM8 w)
  have AM := Lib.hid (fun w => among_any i 80 w (by decide) (by decide) hi'.1 hi'.2)
  rw [← hcv] at CK R3
  rw [← hsv] at SM R2
  rw [← hK] at AM
  have TAB := Lib.hid tab
  have C1 := Lib.hid hc1
  have C2 := Lib.hid hc2
  have S1 := Lib.hid hs1
  have S2 := Lib.hid hs2
  clear tab hi hi' hc1 hc2 hs1 hs2 hK hM hcv hsv
  go_enter Tryd.func3, Tryd.ntmps3
  go_wp2_with (first | (go_at_call 12; (with_reducible refine (C1.out _ TAB.out).mono ?_); rintro e w' ⟨rfl, rfl⟩) | (go_at_call 13; (with_reducible refine (C2.out _).mono ?_); rintro e w1 ⟨rfl, hb1⟩; have B1 := Lib.hid hb1; have T1 := Lib.hid (TAB.out.below hb1); clear hb1))
  go_wp2_with (first | (go_at_call 14; (with_reducible refine (S1.out _ T1.out).mono ?_); rintro e w' ⟨rfl, rfl⟩) | (go_at_call 15; (with_reducible refine (S2.out _).mono ?_); rintro e w2 ⟨rfl, hb2⟩; have B2 := Lib.hid (B1.out.trans (hb2.mono B1.out.size)); have T2 := Lib.hid (T1.out.below hb2); clear hb2))
  go_wp2_with (first | (go_at_call 16; (with_reducible refine (AM.out _).mono ?_); rintro e w' ⟨rfl, rfl⟩) | (go_at_call 12; (with_reducible refine (CK.out _ T2.out).mono ?_); rintro e w' ⟨rfl, rfl⟩) | (go_at_call 14; (with_reducible refine (SM.out _ T2.out).mono ?_); rintro e w' ⟨rfl, rfl⟩) | (go_at_call 17; (with_reducible refine (R3.out _).mono ?_); rintro e w3 ⟨rfl, hb3⟩; have B3 := Lib.hid (B2.out.trans (hb3.mono B2.out.size)); have T3 := Lib.hid (T2.out.below hb3); clear hb3))
  go_wp2_with (first | (go_at_call 17; (with_reducible refine (R2.out _).mono ?_); rintro e w4 ⟨rfl, hb4⟩; have B4 := Lib.hid (B3.out.trans (hb4.mono B3.out.size)); have T4 := Lib.hid (T3.out.below hb4); clear hb4) | (go_at_call 18; (with_reducible refine (known_any _ T4.out).mono ?_); rintro e w5 ⟨rfl, hb5⟩))
  go_ret
  exact ⟨rfl, B4.out.trans (hb5.mono B4.out.size)⟩
end Go.Proofs.YtfdjphinicafiabDoor.Sh
