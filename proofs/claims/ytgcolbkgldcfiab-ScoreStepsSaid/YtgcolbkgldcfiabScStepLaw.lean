/-
  The walk of the law of the number below and of numbers between two.
-/
import Derived.Test.YtgcolbkgldcfiabScRSteps
namespace Go.Proofs.Ytgcolbkgldcfiab.Sc
open Go.RowKit Go.Deep
set_option linter.unusedVariables false

def stE (a b : Nat) : Int := if valid a = true ∧ valid b = true then 1 else 10
set_option maxHeartbeats 400000 in
theorem steps_no (a b : Nat) (n : Int) (w : World) (HA : Hid (a < 18446744073709551616)) (HB : Hid (b < 18446744073709551616)) (h : (valid a = false ∨ valid b = false) ∨ (valid a = true ∧ valid b = true ∧ (n < 1 ∨ 1000 < n))) :
    Calls Try.prog 5 #[.float .f64 a, .float .f64 b, .int .i64 n] w fun e w' => e = .returned (.tuple #[.slice none 0 0, .int .i64 (stE a b)]) ∧ w = w' := by
  rcases h with (hva | hvb) | ⟨hva, hvb, h | h⟩
  · have e10 := Lib.hid (show stE a b = 10 by unfold stE; rw [if_neg (by rw [hva]; simp)])
    go_enter Try.func5, Try.ntmps5
    go_wp2_with (first | (go_at_call 14; refine (valid_any _ _ (by first | exact HA.out | exact HB.out)).mono ?_; rintro e w' ⟨rfl, rfl⟩))
    go_ret2
    rw [e10.out]; exact ⟨rfl, rfl⟩
  · have e10 := Lib.hid (show stE a b = 10 by unfold stE; rw [if_neg (by rw [hvb]; simp)])
    cases hva : valid a
    all_goals
      go_enter Try.func5, Try.ntmps5
      go_wp2_with (first | (go_at_call 14; refine (valid_any _ _ (by first | exact HA.out | exact HB.out)).mono ?_; rintro e w' ⟨rfl, rfl⟩))
      go_ret2
      rw [e10.out]; exact ⟨rfl, rfl⟩
  all_goals have e1 := Lib.hid (show stE a b = 1 by unfold stE; rw [if_pos ⟨hva, hvb⟩])
  · have t1 : decide (n < 1) = true := by simp; omega
    go_enter Try.func5, Try.ntmps5
    go_wp2_with (first | (go_at_call 14; refine (valid_any _ _ (by first | exact HA.out | exact HB.out)).mono ?_; rintro e w' ⟨rfl, rfl⟩))
    go_ret2
    rw [e1.out]; exact ⟨rfl, rfl⟩
  · have t1 : decide (n < 1) = false := by simp; omega
    have t2 : decide (1000 < n) = true := by simp; omega
    go_enter Try.func5, Try.ntmps5
    go_wp2_with (first | (go_at_call 14; refine (valid_any _ _ (by first | exact HA.out | exact HB.out)).mono ?_; rintro e w' ⟨rfl, rfl⟩))
    go_ret2
    rw [e1.out]; exact ⟨rfl, rfl⟩
set_option maxHeartbeats 400000 in
theorem rsteps_no (a b : Nat) (n : Int) (w : World) (HA : Hid (a < 18446744073709551616)) (HB : Hid (b < 18446744073709551616)) (h : (valid a = false ∨ valid b = false) ∨ (valid a = true ∧ valid b = true ∧ (n < 1 ∨ 1000 < n))) :
    Calls Try.prog 6 #[.float .f64 a, .float .f64 b, .int .i64 n] w fun e w' => e = .returned (.tuple #[.slice none 0 0, .int .i64 (stE a b)]) ∧ w = w' := by
  rcases h with (hva | hvb) | ⟨hva, hvb, h | h⟩
  · have e10 := Lib.hid (show stE a b = 10 by unfold stE; rw [if_neg (by rw [hva]; simp)])
    go_enter Try.func6, Try.ntmps6
    go_wp2_with (first | (go_at_call 17; refine (rvalid_any _ _ (by first | exact HA.out | exact HB.out)).mono ?_; rintro e w' ⟨rfl, rfl⟩))
    go_ret2
    rw [e10.out]; exact ⟨rfl, rfl⟩
  · have e10 := Lib.hid (show stE a b = 10 by unfold stE; rw [if_neg (by rw [hvb]; simp)])
    cases hva : valid a
    all_goals
      go_enter Try.func6, Try.ntmps6
      go_wp2_with (first | (go_at_call 17; refine (rvalid_any _ _ (by first | exact HA.out | exact HB.out)).mono ?_; rintro e w' ⟨rfl, rfl⟩))
      go_ret2
      rw [e10.out]; exact ⟨rfl, rfl⟩
  all_goals have e1 := Lib.hid (show stE a b = 1 by unfold stE; rw [if_pos ⟨hva, hvb⟩])
  · have t1 : decide (n < 1) = true := by simp; omega
    go_enter Try.func6, Try.ntmps6
    go_wp2_with (first | (go_at_call 17; refine (rvalid_any _ _ (by first | exact HA.out | exact HB.out)).mono ?_; rintro e w' ⟨rfl, rfl⟩))
    go_ret2
    rw [e1.out]; exact ⟨rfl, rfl⟩
  · have t1 : decide (n < 1) = false := by simp; omega
    have t2 : decide (1000 < n) = true := by simp; omega
    go_enter Try.func6, Try.ntmps6
    go_wp2_with (first | (go_at_call 17; refine (rvalid_any _ _ (by first | exact HA.out | exact HB.out)).mono ?_; rintro e w' ⟨rfl, rfl⟩))
    go_ret2
    rw [e1.out]; exact ⟨rfl, rfl⟩
def StepLawRel (n : Nat) (L : List Nat) (B C : Option Addr) (w : World) (i : Value) (wr : World) : Prop :=
  ∃ k : Nat, k ≤ n ∧ i = .int .i64 (k : Int) ∧ Below w.heap.size w wr ∧ Sl wr B n (fl L) ∧ Sl wr C n (fl L)
theorem Sl.drewN' {w : World} {A : Option Addr} {n : Nat} {xs : List Value} (h : Sl w A n xs) (m : Nat) : Sl (w.drewN m) A n xs := h
theorem rsame_q (a b : Nat) (w : World) :
    Calls Try.prog 7 #[.float .f64 a, .float .f64 b] w fun e w' => e = .returned (.bool ((a : Int) == (b : Int))) ∧ w' = w :=
  (rsame_any a b w).mono fun _ _ h => ⟨h.1, h.2.symm⟩

set_option maxHeartbeats 1000000 in
theorem steplaw_no (x a b : Nat) (n : Int) (w : World) (HX : Hid (x < 18446744073709551616)) (HA : Hid (a < 18446744073709551616)) (HB : Hid (b < 18446744073709551616)) (HS : Hid ((valid a = false ∨ valid b = false) ∨ (valid a = true ∧ valid b = true ∧ (n < 1 ∨ 1000 < n)))) :
    Calls Try.prog 3 #[.float .f64 x, .float .f64 a, .float .f64 b, .int .i64 n] w fun e w' => e = .returned (.bool true) ∧ Below w.heap.size w w' := by
  go_enter Try.func3, Try.ntmps3
  go_wp2_with (first | (go_at_call 5; refine (steps_no _ _ _ _ HA HB HS.out).mono ?_; rintro e w' ⟨rfl, rfl⟩) | (go_at_call 6; refine (rsteps_no _ _ _ _ HA HB HS.out).mono ?_; rintro e w' ⟨rfl, rfl⟩) | (go_at_call 8; refine (prev_any _ _ HX.out).mono ?_; rintro e w' ⟨rfl, rfl⟩) | (go_at_call 9; refine (rprev_any _ _ HX.out).mono ?_; rintro e w' ⟨rfl, rfl⟩) | (go_at_call 7; refine (rsame_any _ _ _).mono ?_; rintro e w' ⟨rfl, rfl⟩))
  go_loop [13] (fun i => i = .int .i64 0) (fun _ => 0)
  case atStart => rfl
  case round =>
    subst hrel
    go_wp2_with (go_at_call 10; refine (known_any _).mono ?_; rintro e w' ⟨rfl, hb⟩)
    go_ret
    exact ⟨rfl, hb⟩
set_option maxHeartbeats 1000000 in
theorem steplaw_ok (x a b n : Nat) (w : World) (HX : Hid (x < 18446744073709551616)) (HA : Hid (a < 18446744073709551616)) (HB : Hid (b < 18446744073709551616)) (hva : valid a = true) (hvb : valid b = true) (h1 : 1 ≤ n) (h2 : n ≤ 1000) :
    Calls Try.prog 3 #[.float .f64 x, .float .f64 a, .float .f64 b, .int .i64 (n : Int)] w fun e w' => e = .returned (.bool true) ∧ Below w.heap.size w w' := by
  have HVA := Lib.hid hva
  have HVB := Lib.hid hvb
  clear hva hvb
  go_enter Try.func3, Try.ntmps3
  go_wp2_with fail
  refine (steps_ok _ _ _ _ HA HB HVA.out HVB.out h1 h2).mono ?_
  rintro e w1 ⟨g, rfl, hsl, hbel⟩
  have HSL := Lib.hid hsl
  have HBEL := Lib.hid hbel
  clear hsl hbel
  go_wp2_with fail
  refine (rsteps_ok _ _ _ _ HA HB HVA.out HVB.out h1 h2).mono ?_
  rintro e w2 ⟨v, rfl, hown, hbel2⟩
  obtain ⟨C, cap, rfl, hsl2, -, -⟩ := Sl.own hown
  obtain ⟨g2, rfl⟩ : ∃ g2, C = some ⟨g2, 0, none⟩ := by
    rcases hown.2 with ⟨-, h0⟩ | ⟨g2, cap2, cur, hv, -⟩
    · omega
    · injection hv with hv1
      exact ⟨g2, hv1⟩
  have HSA := Lib.hid (HSL.out.below hbel2)
  have HSB := Lib.hid hsl2
  have HB2 := Lib.hid (HBEL.out.trans (hbel2.mono HBEL.out.size))
  clear hown hbel2 hsl2
  go_wp2_with (first | (go_at_call 8; refine (prev_any _ _ HX.out).mono ?_; rintro e w' ⟨rfl, rfl⟩) | (go_at_call 9; refine (rprev_any _ _ HX.out).mono ?_; rintro e w' ⟨rfl, rfl⟩) | (go_at_call 7; refine (rsame_any _ _ _).mono ?_; rintro e w' ⟨rfl, rfl⟩))
  go_loopw [13] (fun i wr => StepLawRel n (stl (lo a b) (hi a b) n) (some ⟨g, 0, none⟩) (some ⟨g2, 0, none⟩) w i wr) (fun i _ => n - (intOf i).toNat)
  case atStart => exact ⟨0, Nat.zero_le _, rfl, HB2.out, HSA.out, HSB.out⟩
  case round =>
    obtain ⟨k, hk, rfl, hbr, hsa, hsb⟩ := hrel
    have HBR := Lib.hid hbr
    have HS1 := Lib.hid hsa
    have HS2 := Lib.hid hsb
    clear hbr hsa hsb
    by_cases hlt : k < n
    · have t4 : (0 : Int) ≤ (k : Int) := by omega
      have t5 : (k : Int) < (n : Int) := by omega
      obtain ⟨z, hz⟩ : ∃ z, (stl (lo a b) (hi a b) n)[k]? = some z := ⟨_, List.getElem?_eq_getElem (by rw [stl_length]; exact hlt)⟩
      have hc : wr.cell? ⟨g, k, none⟩ = some (.float .f64 z) := by
        obtain ⟨ad, he, hcell⟩ := HS1.out.at_ hlt
        cases he
        rw [add_at] at hcell
        rw [hcell]; simp [fl, hz]
      have hc2 : wr.cell? ⟨g2, k, none⟩ = some (.float .f64 z) := by
        obtain ⟨ad, he, hcell⟩ := HS2.out.at_ hlt
        cases he
        rw [add_at] at hcell
        rw [hcell]; simp [fl, hz]
      have HZ := Lib.hid hz
      clear hz
      go_wp2_with fail
      go_quiet ((go_at_call 7; exact Calls.quiet_of_same (rsame_q _ _ _)))
      go_wp2
      go_roundw
      case rel => exact ⟨k + 1, by omega, by go_num, Below.drewN HBR.out _, Sl.drewN' HS1.out _, Sl.drewN' HS2.out _⟩
      case measure => simp [intOf]; omega
    · obtain rfl : k = n := by omega
      go_wp2_with (go_at_call 10; refine (known_any _).mono ?_; rintro e w' ⟨rfl, hb⟩)
      go_ret
      exact ⟨rfl, HBR.out.trans (hb.mono HBR.out.size)⟩

theorem walk_scoreSteps (x : Nat) (wx : (Lit.float .f64 x).wf = true) (a : Nat) (wa : (Lit.float .f64 a).wf = true) (b : Nat) (wb : (Lit.float .f64 b).wf = true) (n : Int) (_wn : (Lit.int .i64 n).wf = true) (w : World) :
    Calls Try.prog 3 #[.float .f64 x, .float .f64 a, .float .f64 b, .int .i64 n] w fun e w' => e = .returned (.bool true) ∧ Below w.heap.size w w' := by
  have hx := Lib.hid (wf_f64 wx)
  have ha := Lib.hid (wf_f64 wa)
  have hb := Lib.hid (wf_f64 wb)
  cases h1 : valid a
  · exact steplaw_no x a b n w hx ha hb (Lib.hid (.inl (.inl h1)))
  cases h2 : valid b
  · exact steplaw_no x a b n w hx ha hb (Lib.hid (.inl (.inr h2)))
  by_cases h3 : n < 1 ∨ 1000 < n
  · exact steplaw_no x a b n w hx ha hb (Lib.hid (.inr ⟨h1, h2, h3⟩))
  · obtain ⟨m, rfl⟩ := Int.eq_ofNat_of_zero_le (show 0 ≤ n by omega)
    exact steplaw_ok x a b m w hx ha hb h1 h2 (by omega) (by omega)
end Go.Proofs.Ytgcolbkgldcfiab.Sc
