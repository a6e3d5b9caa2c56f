/-
  The walk of the law on what a padding fills.
-/
import Derived.Test.YtfdjphinicafiabDoorShKnown
namespace Go.Proofs.YtfdjphinicafiabDoor.Sh
open Go.RowKit Go.Proofs.YtfdjphinicafiabDoor.Gn Go.Deep
set_option linter.unusedVariables false
attribute [local go_sem ↓] Go.wp_at_zero Go.wp_at_succ

theorem which_true (w : World) : Calls Tryd.prog 25 #[.bool true] w fun e w' => e = .returned (.int .i64 512) ∧ w = w' := by
  go_enter Tryd.func25, Tryd.ntmps25
  go_wp2
  go_ret
  exact ⟨rfl, rfl⟩
theorem which_false (w : World) : Calls Tryd.prog 25 #[.bool false] w fun e w' => e = .returned (.int .i64 256) ∧ w = w' := by
  go_enter Tryd.func25, Tryd.ntmps25
  go_wp2
  go_ret
  exact ⟨rfl, rfl⟩
theorem told_step (n k : Nat) (hk : k < 8) : 8 * n / 256 ^ (8 - k) * 256 + 8 * n / 256 ^ (7 - k) % 256 = 8 * n / 256 ^ (8 - (k + 1)) := by
  have e : 8 * n / 256 ^ (8 - k) = 8 * n / 256 ^ (7 - k) / 256 := by
    rw [Nat.div_div_eq_div_mul, ← Nat.pow_succ]; congr 2; omega
  rw [e, show 8 - (k + 1) = 7 - k by omega]
  omega
theorem pads_ge32 (n : Nat) : 9 ≤ pads false n ∧ pads false n ≤ 64 + 4 * 2 ∧ (n + pads false n) % 64 = 0 := by
  have := Nat.mod_lt n (show 0 < 64 by decide)
  refine ⟨?_, ?_, mod_add_pads false n⟩ <;> simp [pads, bk] <;> split <;> omega
set_option maxRecDepth 100000 in
set_option maxHeartbeats 1000000 in
theorem fills32_any (n : Nat) (w : World) (hn : n ≤ 1048576) (tab : Tab w) :
    Calls Tryd.prog 9 #[.int .i64 (n : Int), .bool false] w fun e w' => e = .returned (.bool true) ∧ Below w.heap.size w w' := by
  have TAB := Lib.hid tab
  have t1 : decide ((n : Int) < 0) = false := decide_eq_false (by omega)
  have t2 : decide (1048576 < (n : Int)) = false := by simp; omega
  obtain ⟨hs1, hs2, hs3⟩ := pads_ge32 n
  have hF : ∀ j, j < pads false n → padF false n j < 256 := fun j _ => by unfold padF; split; decide; exact Nat.mod_lt _ (by decide)
  obtain ⟨F, hFF⟩ : ∃ F, F = padF false n := ⟨_, rfl⟩
  have HG := Lib.hid (fun j (hj : j < pads false n) => pad_get false n j hn hj)
  have HPC := Lib.hid (fun w => pad32_any n w hn)
  obtain ⟨s, hs⟩ : ∃ s, s = pads false n := ⟨_, rfl⟩
  rw [← hs] at hs1 hs2 hs3 hF HPC HG
  rw [← hFF] at hF HG
  have HFF := Lib.hid hFF
  have HS := Lib.hid hs
  have HF := Lib.hid hF
  have e3 : ((n : Int) + (s : Int)) % 64 = 0 := by omega
  clear hs hFF hs3 hF tab
  go_enter Tryd.func9, Tryd.ntmps9
  go_wp2_with (first | (go_at_call 25; refine (which_false _).mono ?_; rintro e w' ⟨rfl, rfl⟩) | (go_at_call 19; refine (HPC.out _).mono ?_; rintro e w1 ⟨rfl, hw1⟩; have HC := Lib.hid (show ∀ j, j < s → w1.cell? ⟨w.heap.size, j, none⟩ = some (.int .u8 (F j : Int)) from fun j hj => cell_bl (t := 5) (by rw [hw1]; exact Bl.new_ _ _ _) (HG.out j hj)); have c0 := HC.out 0 (by omega); rw [show F 0 = 128 by rw [HFF.out]; rfl] at c0; have B1 := Lib.hid (show Below w.heap.size w w1 by rw [hw1]; exact (Below.refl _ _).alloc (Nat.le_refl _) _); clear hw1))
  clear e3 c0
  have T1 := Lib.hid (TAB.out.below B1.out)
  go_loop [7, 8] (fun told i => ∃ k : Nat, k ≤ 8 ∧ told = .int .u64 ((8 * n / 256 ^ (8 - k) : Nat) : Int) ∧ i = .int .i64 ((s : Int) - 8 + (k : Int))) (fun _ i => ((s : Int) - intOf i).toNat)
  case atStart =>
    refine ⟨0, Nat.zero_le _, congrArg _ ?_, congrArg _ (by simp)⟩
    have : 8 * n / 256 ^ (8 - 0) = 0 := Nat.div_eq_of_lt (by have : (256 : Nat) ^ 8 = 18446744073709551616 := by decide
                                                             omega)
    rw [this]; rfl
  case round =>
    obtain ⟨k, hk, rfl, rfl⟩ := hrel
    obtain ⟨p, hp⟩ : ∃ p, p = s - 8 + k := ⟨_, rfl⟩
    have ep : (s : Int) - 8 + (k : Int) = (p : Int) := by omega
    rw [ep]
    obtain ⟨L, hL⟩ : ∃ L, L = 8 * n / 256 ^ (8 - k) := ⟨_, rfl⟩
    have hLb : L ≤ 8388608 := by rw [hL]; exact Nat.le_trans (Nat.div_le_self _ _) (by omega)
    rw [← hL]
    have HL := Lib.hid hL
    have HP := Lib.hid (And.intro hp ep)
    clear hL ep
    by_cases hlt : k < 8
    · have hps : p < s := by omega
      have hc := HC.out p hps
      have hy := HF.out p hps
      have hyv : F p = 8 * n / 256 ^ (7 - k) % 256 := by
        rw [HFF.out]; unfold padF
        rw [if_neg (by omega), ← HS.out, show s - 1 - p = 7 - k by omega]
      obtain ⟨y, hyy⟩ : ∃ y, y = F p := ⟨_, rfl⟩
      rw [← hyy] at hc hy hyv
      have HY := Lib.hid hyv
      clear hyy hyv hp
      go_wp2_with fail
      go_round
      case rel =>
        refine ⟨k + 1, by omega, congrArg _ ?_, congrArg _ (by have := HP.out; omega)⟩
        rw [← told_step n k hlt, ← HL.out, ← HY.out]
        simp
      case measure => simp [intOf]; omega
    · obtain rfl : k = 8 := by omega
      obtain rfl : s = p := by omega
      have hL8 : L = 8 * n := by rw [HL.out]; simp
      have hne : ((L : Int) != (n : Int) * 8) = false := by rw [hL8]; simp; omega
      clear hL8 hp
      go_wp2_with fail
      go_loop [9] (fun i => ∃ k : Nat, 1 ≤ k ∧ k ≤ s - 8 ∧ i = .int .i64 (k : Int)) (fun i => ((s : Int) - intOf i).toNat)
      case atStart => exact ⟨1, by omega, by omega, rfl⟩
      case round =>
        obtain ⟨j, hj1, hj2, rfl⟩ := hrel
        by_cases hlt2 : j < s - 8
        · have hc := HC.out j (by omega)
          have hz : F j = 0 := by
            rw [HFF.out]; unfold padF
            rw [if_neg (by omega), ← HS.out]
            have h1 : (256 : Nat) ^ 8 ≤ 256 ^ (s - 1 - j) := Nat.pow_le_pow_right (by decide) (by omega)
            have h2 : (256 : Nat) ^ 8 = 18446744073709551616 := by decide
            rw [Nat.div_eq_of_lt (by omega)]
          rw [hz] at hc
          clear hz
          have bj : (j : Int) < (s : Int) - 8 := by omega
          go_wp2_with fail
          go_round
          case rel => exact ⟨j + 1, by omega, by omega, by go_num⟩
          case measure => simp [intOf]; omega
        · have bj : ¬ (j : Int) < (s : Int) - 8 := by omega
          go_wp2_with (first | (go_at_call 25; refine (which_false _).mono ?_; rintro e w' ⟨rfl, rfl⟩) | (go_at_call 18; refine (known_any _ T1.out).mono ?_; rintro e w2 ⟨rfl, hb2⟩))
          go_ret
          exact ⟨rfl, B1.out.trans (hb2.mono B1.out.size)⟩
theorem pads_ge64 (n : Nat) : 17 ≤ pads true n ∧ pads true n ≤ 128 + 8 * 2 ∧ (n + pads true n) % 128 = 0 := by
  have := Nat.mod_lt n (show 0 < 128 by decide)
  refine ⟨?_, ?_, mod_add_pads true n⟩ <;> simp [pads, bk] <;> split <;> omega
set_option maxRecDepth 100000 in
set_option maxHeartbeats 1000000 in
theorem fills64_any (n : Nat) (w : World) (hn : n ≤ 1048576) (tab : Tab w) :
    Calls Tryd.prog 9 #[.int .i64 (n : Int), .bool true] w fun e w' => e = .returned (.bool true) ∧ Below w.heap.size w w' := by
  have TAB := Lib.hid tab
  have t1 : decide ((n : Int) < 0) = false := decide_eq_false (by omega)
  have t2 : decide (1048576 < (n : Int)) = false := by simp; omega
  obtain ⟨hs1, hs2, hs3⟩ := pads_ge64 n
  have hF : ∀ j, j < pads true n → padF true n j < 256 := fun j _ => by unfold padF; split; decide; exact Nat.mod_lt _ (by decide)
  obtain ⟨F, hFF⟩ : ∃ F, F = padF true n := ⟨_, rfl⟩
  have HG := Lib.hid (fun j (hj : j < pads true n) => pad_get true n j hn hj)
  have HPC := Lib.hid (fun w => pad64_any n w hn)
  obtain ⟨s, hs⟩ : ∃ s, s = pads true n := ⟨_, rfl⟩
  rw [← hs] at hs1 hs2 hs3 hF HPC HG
  rw [← hFF] at hF HG
  have HFF := Lib.hid hFF
  have HS := Lib.hid hs
  have HF := Lib.hid hF
  have e3 : ((n : Int) + (s : Int)) % 128 = 0 := by omega
  clear hs hFF hs3 hF tab
  go_enter Tryd.func9, Tryd.ntmps9
  go_wp2_with (first | (go_at_call 25; refine (which_true _).mono ?_; rintro e w' ⟨rfl, rfl⟩) | (go_at_call 19; refine (HPC.out _).mono ?_; rintro e w1 ⟨rfl, hw1⟩; have HC := Lib.hid (show ∀ j, j < s → w1.cell? ⟨w.heap.size, j, none⟩ = some (.int .u8 (F j : Int)) from fun j hj => cell_bl (t := 5) (by rw [hw1]; exact Bl.new_ _ _ _) (HG.out j hj)); have c0 := HC.out 0 (by omega); rw [show F 0 = 128 by rw [HFF.out]; rfl] at c0; have B1 := Lib.hid (show Below w.heap.size w w1 by rw [hw1]; exact (Below.refl _ _).alloc (Nat.le_refl _) _); clear hw1))
  clear e3 c0
  have T1 := Lib.hid (TAB.out.below B1.out)
  go_loop [7, 8] (fun told i => ∃ k : Nat, k ≤ 8 ∧ told = .int .u64 ((8 * n / 256 ^ (8 - k) : Nat) : Int) ∧ i = .int .i64 ((s : Int) - 8 + (k : Int))) (fun _ i => ((s : Int) - intOf i).toNat)
  case atStart =>
    refine ⟨0, Nat.zero_le _, congrArg _ ?_, congrArg _ (by simp)⟩
    have : 8 * n / 256 ^ (8 - 0) = 0 := Nat.div_eq_of_lt (by have : (256 : Nat) ^ 8 = 18446744073709551616 := by decide
                                                             omega)
    rw [this]; rfl
  case round =>
    obtain ⟨k, hk, rfl, rfl⟩ := hrel
    obtain ⟨p, hp⟩ : ∃ p, p = s - 8 + k := ⟨_, rfl⟩
    have ep : (s : Int) - 8 + (k : Int) = (p : Int) := by omega
    rw [ep]
    obtain ⟨L, hL⟩ : ∃ L, L = 8 * n / 256 ^ (8 - k) := ⟨_, rfl⟩
    have hLb : L ≤ 8388608 := by rw [hL]; exact Nat.le_trans (Nat.div_le_self _ _) (by omega)
    rw [← hL]
    have HL := Lib.hid hL
    have HP := Lib.hid (And.intro hp ep)
    clear hL ep
    by_cases hlt : k < 8
    · have hps : p < s := by omega
      have hc := HC.out p hps
      have hy := HF.out p hps
      have hyv : F p = 8 * n / 256 ^ (7 - k) % 256 := by
        rw [HFF.out]; unfold padF
        rw [if_neg (by omega), ← HS.out, show s - 1 - p = 7 - k by omega]
      obtain ⟨y, hyy⟩ : ∃ y, y = F p := ⟨_, rfl⟩
      rw [← hyy] at hc hy hyv
      have HY := Lib.hid hyv
      clear hyy hyv hp
      go_wp2_with fail
      go_round
      case rel =>
        refine ⟨k + 1, by omega, congrArg _ ?_, congrArg _ (by have := HP.out; omega)⟩
        rw [← told_step n k hlt, ← HL.out, ← HY.out]
        simp
      case measure => simp [intOf]; omega
    · obtain rfl : k = 8 := by omega
      obtain rfl : s = p := by omega
      have hL8 : L = 8 * n := by rw [HL.out]; simp
      have hne : ((L : Int) != (n : Int) * 8) = false := by rw [hL8]; simp; omega
      clear hL8 hp
      go_wp2_with fail
      go_loop [9] (fun i => ∃ k : Nat, 1 ≤ k ∧ k ≤ s - 8 ∧ i = .int .i64 (k : Int)) (fun i => ((s : Int) - intOf i).toNat)
      case atStart => exact ⟨1, by omega, by omega, rfl⟩
      case round =>
        obtain ⟨j, hj1, hj2, rfl⟩ := hrel
        by_cases hlt2 : j < s - 8
        · have hc := HC.out j (by omega)
          have hz : F j = 0 := by
            rw [HFF.out]; unfold padF
            rw [if_neg (by omega), ← HS.out]
            have h1 : (256 : Nat) ^ 8 ≤ 256 ^ (s - 1 - j) := Nat.pow_le_pow_right (by decide) (by omega)
            have h2 : (256 : Nat) ^ 8 = 18446744073709551616 := by decide
            rw [Nat.div_eq_of_lt (by omega)]
          rw [hz] at hc
          clear hz
          have bj : (j : Int) < (s : Int) - 8 := by omega
          go_wp2_with fail
          go_round
          case rel => exact ⟨j + 1, by omega, by omega, by go_num⟩
          case measure => simp [intOf]; omega
        · have bj : ¬ (j : Int) < (s : Int) - 8 := by omega
          go_wp2_with (first | (go_at_call 25; refine (which_true _).mono ?_; rintro e w' ⟨rfl, rfl⟩) | (go_at_call 18; refine (known_any _ T1.out).mono ?_; rintro e w2 ⟨rfl, hb2⟩))
          go_ret
          exact ⟨rfl, B1.out.trans (hb2.mono B1.out.size)⟩
theorem fills_no (x : Int) (b : Bool) (w : World) (hx : x < 0 ∨ 1048576 < x) (tab : Tab w) :
    Calls Tryd.prog 9 #[.int .i64 x, .bool b] w fun e w' => e = .returned (.bool true) ∧ Below w.heap.size w w' := by
  by_cases h0 : x < 0
  · go_enter Tryd.func9, Tryd.ntmps9
    go_wp2_with (first | (go_at_call 18; refine (known_any _ tab).mono ?_; rintro e w2 ⟨rfl, hb2⟩))
    go_ret
    exact ⟨rfl, hb2⟩
  · have h1 : 1048576 < x := by omega
    go_enter Tryd.func9, Tryd.ntmps9
    go_wp2_with (first | (go_at_call 18; refine (known_any _ tab).mono ?_; rintro e w2 ⟨rfl, hb2⟩))
    go_ret
    exact ⟨rfl, hb2⟩
theorem walk_sha2Fills {w : World} (tab : Tab w) (x : Int) (hx : (Lit.int .i64 x).wf) (b : Bool) :
    Calls Tryd.prog 9 #[.int .i64 x, .bool b] w fun e w' => e = .returned (.bool true) ∧ Below w.heap.size w w' := by
  by_cases h : x < 0 ∨ 1048576 < x
  · exact fills_no x b w h tab
  · obtain ⟨n, rfl⟩ : ∃ n : Nat, x = (n : Int) := ⟨x.toNat, by omega⟩
    cases b
    · exact fills32_any n w (by omega) tab
    · exact fills64_any n w (by omega) tab
end Go.Proofs.YtfdjphinicafiabDoor.Sh
