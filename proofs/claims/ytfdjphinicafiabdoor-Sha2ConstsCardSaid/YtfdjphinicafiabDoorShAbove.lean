/-
  The document's package's own arithmetic: comparing.
-/
import Derived.Test.YtfdjphinicafiabDoorShRoot
namespace Go.Proofs.YtfdjphinicafiabDoor.Sh
open Go.RowKit Go.Proofs.YtfdjphinicafiabDoor.Gn Go.Deep
set_option linter.unusedVariables false
attribute [local go_sem ↓] Go.wp_at_zero Go.wp_at_succ

set_option maxHeartbeats 2000000 in
theorem above_any (a b : List Nat) (n m : Nat) (hn : a.length = n) (hm : b.length = m) (A B : Option Addr) (c d : Nat) (w : World) (hn1 : n ≤ 40) (hm1 : m ≤ 40) (ha : Sl w A n (nl a)) (hb : Sl w B m (nl b)) :
    Calls Tryd.prog 37 #[.slice A n c, .slice B m d] w fun e w' => e = .returned (.bool (abv a b)) ∧ w = w' := by
  obtain ⟨N, hN⟩ : ∃ N, N = n + m := ⟨_, rfl⟩
  have eN : (n : Int) + (m : Int) = (N : Int) := by omega
  have hN2 : N ≤ 80 := by omega
  obtain ⟨R, hR⟩ : ∃ R, R = abv a b := ⟨_, rfl⟩
  rw [← hR]
  have HR := Lib.hid (show R = ab a b N by rw [hR, hN, ← hn, ← hm]; rfl)
  have HA := Lib.hid ha
  have HB := Lib.hid hb
  have HL := Lib.hid (And.intro hn hm)
  clear ha hb hn hm hN hR
  go_enter Tryd.func37, Tryd.ntmps37
  go_wp2
  go_loop [5] (fun i => ∃ j : Nat, j ≤ N ∧ i = .int .i64 ((j : Int) - 1) ∧ R = ab a b j) (fun i => (intOf i + 1).toNat)
  case atStart => exact ⟨N, Nat.le_refl _, rfl, HR.out⟩
  case round =>
    obtain ⟨j, hj, rfl, hr⟩ := hrel
    rcases j with _ | p
    · have HF := Lib.hid (show R = false from hr)
      clear hr
      go_wp2
      go_ret
      exact ⟨ret_bool HF.out.symm, rfl⟩
    · have e : (((p + 1 : Nat) : Int) - 1) = (p : Int) := by omega
      rw [e]
      clear e
      obtain ⟨X, hX⟩ : ∃ X, X = a.getD p 0 := ⟨_, rfl⟩
      obtain ⟨Y, hY⟩ : ∃ Y, Y = b.getD p 0 := ⟨_, rfl⟩
      have HS := Lib.hid (show R = if X = Y then ab a b p else decide (Y < X) by rw [hr, hX, hY]; rfl)
      have HX := Lib.hid hX
      have HY := Lib.hid hY
      clear hr hX hY
      by_cases h1 : p < n
      · obtain ⟨a1, rfl, -⟩ := HA.out.at_ h1
        have ca := sl_num HA.out h1
        rw [← HX.out] at ca
        by_cases h2 : p < m
        · obtain ⟨b1, rfl, -⟩ := HB.out.at_ h2
          have cb := sl_num HB.out h2
          rw [← HY.out] at cb
          by_cases heq : X = Y
          · have HE := Lib.hid (show R = ab a b p by rw [HS.out, if_pos heq])
            have hq : ((X : Int) == (Y : Int)) = true := by rw [beq_iff_eq]; omega
            clear heq
            go_wp2
            go_round
            case rel => exact ⟨p, by omega, rfl, HE.out⟩
            case measure => simp [intOf] <;> omega
          · have HE := Lib.hid (show R = decide (Y < X) by rw [HS.out, if_neg heq])
            have hq : ((X : Int) == (Y : Int)) = false := by rw [beq_eq_false_iff_ne]; omega
            clear heq
            go_wp2
            go_ret
            exact ⟨ret_bool (by first | (rw [HE.out]; exact decide_eq_decide.2 (by omega)) | rw [HE.out]), rfl⟩
        · have y0 : Y = 0 := by rw [HY.out, List.getD_eq_getElem?_getD, List.getElem?_eq_none (by rw [HL.out.2]; omega)]; rfl
          by_cases heq : X = Y
          · have HE := Lib.hid (show R = ab a b p by rw [HS.out, if_pos heq])
            have hq : ((X : Int) == (0 : Int)) = true := by rw [beq_iff_eq]; omega
            clear heq
            go_wp2
            go_round
            case rel => exact ⟨p, by omega, rfl, HE.out⟩
            case measure => simp [intOf] <;> omega
          · have HE := Lib.hid (show R = decide (Y < X) by rw [HS.out, if_neg heq])
            have hq : ((X : Int) == (0 : Int)) = false := by rw [beq_eq_false_iff_ne]; omega
            clear heq
            go_wp2
            go_ret
            exact ⟨ret_bool (by first | (rw [HE.out]; exact decide_eq_decide.2 (by omega)) | rw [HE.out]), rfl⟩
      · have x0 : X = 0 := by rw [HX.out, List.getD_eq_getElem?_getD, List.getElem?_eq_none (by rw [HL.out.1]; omega)]; rfl
        by_cases h2 : p < m
        · obtain ⟨b1, rfl, -⟩ := HB.out.at_ h2
          have cb := sl_num HB.out h2
          rw [← HY.out] at cb
          by_cases heq : X = Y
          · have HE := Lib.hid (show R = ab a b p by rw [HS.out, if_pos heq])
            have hq : ((0 : Int) == (Y : Int)) = true := by rw [beq_iff_eq]; omega
            clear heq
            go_wp2
            go_round
            case rel => exact ⟨p, by omega, rfl, HE.out⟩
            case measure => simp [intOf] <;> omega
          · have HE := Lib.hid (show R = decide (Y < X) by rw [HS.out, if_neg heq])
            have hq : ((0 : Int) == (Y : Int)) = false := by rw [beq_eq_false_iff_ne]; omega
            clear heq
            go_wp2
            go_ret
            exact ⟨ret_bool (by first | (rw [HE.out]; exact decide_eq_decide.2 (by omega)) | rw [HE.out]), rfl⟩
        · have y0 : Y = 0 := by rw [HY.out, List.getD_eq_getElem?_getD, List.getElem?_eq_none (by rw [HL.out.2]; omega)]; rfl
          have HE := Lib.hid (show R = ab a b p by rw [HS.out, if_pos (by omega)])
          clear x0 y0
          go_wp2
          go_round
          case rel => exact ⟨p, by omega, rfl, HE.out⟩
          case measure => simp [intOf] <;> omega
end Go.Proofs.YtfdjphinicafiabDoor.Sh
