/-
  The contracts of the functions of the document's answers for layer 1 that only compute with numbers.
-/
import Derived.Test.YtfdjphinicafiaaScPure
namespace Go.Proofs.Ytfdjphinicafiaa.Sc
open Go.RowKit
set_option linter.unusedVariables false

set_option maxHeartbeats 400000 in
theorem parts_any (b : Nat) (w : World) (hb : b < 18446744073709551616) :
    Calls Try.prog 45 #[.float .f64 b] w fun e w' => e = .returned (.tuple #[.bool (pb b), .int .u64 ((pe b : Nat) : Int), .int .u64 ((pf b : Nat) : Int)]) ∧ w = w' := by
  have hfb := run_f64bits
  have HB := Lib.hid hb
  clear hb
  go_enter Try.func45, Try.ntmps45
  go_wp2
  go_ret3
  have hb := HB.out
  have e1 : (IntKind.u64.wrap ((b : Int) / 9223372036854775808) == 1) = pb b := by
    rw [IntKind.wrap_u64, Bool.eq_iff_iff, beq_iff_eq]; unfold pb; rw [decide_eq_true_eq]; omega
  have e2 : (IntKind.u64.wrap ((b : Int) / 4503599627370496)).tmod 2048 = ((pe b : Nat) : Int) := by
    rw [IntKind.wrap_u64, Int.tmod_eq_emod_of_nonneg (by omega)]; unfold pe; omega
  have e3 : (b : Int) % 4503599627370496 = ((pf b : Nat) : Int) := by unfold pf; omega
  rw [e1, e2, e3]
  exact ⟨rfl, rfl⟩

set_option maxHeartbeats 400000 in
theorem of_any (below : Bool) (x y : Int) (w : World) (h0 : 0 ≤ x) (h1 : x < 2048) (h2 : 0 ≤ y) (h3 : y < 4503599627370496) :
    Calls Try.prog 46 #[.bool below, .int .u64 x, .int .u64 y] w fun e w' => e = .returned (.float .f64 (ofN below x y)) ∧ w = w' := by
  have hfb := run_f64from
  cases below
  all_goals
    go_enter Try.func46, Try.ntmps46
    go_wp2
    go_ret
  all_goals exact ⟨ret_float (by unfold ofN; simp; try omega), rfl⟩

set_option maxHeartbeats 400000 in
theorem rclass_any (b : Nat) (w : World) (hb : b < 18446744073709551616) :
    Calls Try.prog 16 #[.float .f64 b] w fun e w' => e = .returned (.int .i64 (cls b)) ∧ w = w' := by
  have HB := Lib.hid hb
  clear hb
  go_enter Try.func16, Try.ntmps16
  go_wp2_with (go_at_call 45; refine (parts_any _ _ HB.out).mono ?_; rintro e w' ⟨rfl, rfl⟩)
  all_goals (go_ret; refine ⟨ret_int ?_, rfl⟩; rw [cls_ref b HB.out])
  all_goals repeat' split
  all_goals first | rfl | omega | (exfalso; simp_all)

theorem nan_any (w : World) : Calls Try.prog 48 #[] w fun e w' => e = .returned (.float .f64 9221120237041090561) ∧ w = w' := by
  go_enter Try.func48, Try.ntmps48
  go_wp2_with (go_at_call 46; refine (of_any _ _ _ _ (by omega) (by omega) (by omega) (by omega)).mono ?_; rintro e w' ⟨rfl, rfl⟩)
  go_ret
  exact ⟨ret_float (by unfold ofN; simp), rfl⟩

set_option maxHeartbeats 400000 in
theorem rcode_any (b : Nat) (w : World) (hb : b < 18446744073709551616) :
    Calls Try.prog 18 #[.float .f64 b] w fun e w' => e = .returned (.int .u64 ((code b : Nat) : Int)) ∧ w = w' := by
  have HB := Lib.hid hb
  clear hb
  have p1 : ((pe b : Nat) : Int) < 2048 := by have := pe_lt b; omega
  have p2 : ((pf b : Nat) : Int) < 4503599627370496 := by have := pf_lt b; omega
  cases h5 : cls b == 5
  all_goals cases hp : pb b
  all_goals
    go_enter Try.func18, Try.ntmps18
    go_wp2_with (first | (go_at_call 45; refine (parts_any _ _ HB.out).mono ?_; rintro e w' ⟨rfl, rfl⟩) | (go_at_call 16; refine (rclass_any _ _ HB.out).mono ?_; rintro e w' ⟨rfl, rfl⟩))
    go_ret
    have q := parts_eq b HB.out
    refine ⟨ret_int ?_, rfl⟩
  · have h := code_ref b HB.out (by simpa using h5)
    rw [hp] at h
    rw [h]; simp; omega
  · have h := code_ref b HB.out (by simpa using h5)
    rw [hp] at h
    rw [h]; simp; omega
  · have h : cls b = 5 := by simpa using h5
    unfold code; rw [if_pos h]; rfl
  · have h : cls b = 5 := by simpa using h5
    unfold code; rw [if_pos h]; rfl

set_option maxHeartbeats 400000 in
theorem rcompare_any (a b : Nat) (w : World) (ha : a < 18446744073709551616) (hb : b < 18446744073709551616) :
    Calls Try.prog 20 #[.float .f64 a, .float .f64 b] w fun e w' => e = .returned (.int .i64 (cmp a b)) ∧ w = w' := by
  have HA := Lib.hid ha
  have HB := Lib.hid hb
  clear ha hb
  go_enter Try.func20, Try.ntmps20
  go_wp2_with (go_at_call 18; refine (rcode_any _ _ (by first | exact HA.out | exact HB.out)).mono ?_; rintro e w' ⟨rfl, rfl⟩)
  all_goals (go_ret; refine ⟨ret_int ?_, rfl⟩; unfold cmp)
  all_goals repeat' split
  all_goals first | omega | (exfalso; simp_all; done) | (exfalso; simp at *; omega)

set_option maxHeartbeats 400000 in
theorem rvalid_any (b : Nat) (w : World) (hb : b < 18446744073709551616) :
    Calls Try.prog 30 #[.float .f64 b] w fun e w' => e = .returned (.bool (valid b)) ∧ w = w' := by
  have HB := Lib.hid hb
  clear hb
  go_enter Try.func30, Try.ntmps30
  go_wp2_with (go_at_call 16; refine (rclass_any _ _ HB.out).mono ?_; rintro e w' ⟨rfl, rfl⟩)
  all_goals (go_ret; refine ⟨ret_bool ?_, rfl⟩; unfold valid; rw [Bool.eq_iff_iff]; simp [*])

set_option maxHeartbeats 400000 in
theorem rnext_any (b : Nat) (w : World) (hb : b < 18446744073709551616) :
    Calls Try.prog 33 #[.float .f64 b] w fun e w' => e = .returned (.float .f64 (next b)) ∧ w = w' := by
  have HB := Lib.hid hb
  clear hb
  have p1 : ((pe b : Nat) : Int) < 2048 := by have := pe_lt b; omega
  have p2 : ((pf b : Nat) : Int) < 4503599627370496 := by have := pf_lt b; omega
  have q := Lib.hid (parts_eq b HB.out)
  cases h5 : cls b == 5
  · cases hp : pb b
    · cases h4 : cls b == 4
      · have h1 : (cls b == 1) = false := by
          simp at h4 h5 ⊢; intro h; have := cls_1 h; have := pb_false hp; omega
        have p3 : ((pe b : Nat) : Int) * 4503599627370496 + ((pf b : Nat) : Int) < 9218868437227405312 := by
          have := cls_not4 (b := b) (by simpa using h5) (by simpa using h4); have := q.out; omega
        go_enter Try.func33, Try.ntmps33
        go_wp2_with (first | (go_at_call 45; refine (parts_any _ _ HB.out).mono ?_; rintro e w' ⟨rfl, rfl⟩) | (go_at_call 16; refine (rclass_any _ _ HB.out).mono ?_; rintro e w' ⟨rfl, rfl⟩) | (go_at_call 48; refine (nan_any _).mono ?_; rintro e w' ⟨rfl, rfl⟩) | (go_at_call 46; refine (of_any _ _ _ _ (by omega) (by omega) (by omega) (by omega)).mono ?_; rintro e w' ⟨rfl, rfl⟩))
        go_ret
        have hs := pb_false hp
        refine ⟨ret_float ?_, rfl⟩
        rw [next_up (by simpa using h5) (by simpa using h4) hs, ofN_size _ _ (by omega) (by omega)]
        have := q.out
        simp; omega
      · go_enter Try.func33, Try.ntmps33
        go_wp2_with (first | (go_at_call 45; refine (parts_any _ _ HB.out).mono ?_; rintro e w' ⟨rfl, rfl⟩) | (go_at_call 16; refine (rclass_any _ _ HB.out).mono ?_; rintro e w' ⟨rfl, rfl⟩) | (go_at_call 48; refine (nan_any _).mono ?_; rintro e w' ⟨rfl, rfl⟩) | (go_at_call 46; refine (of_any _ _ _ _ (by omega) (by omega) (by omega) (by omega)).mono ?_; rintro e w' ⟨rfl, rfl⟩))
        go_ret
        exact ⟨ret_float (next_top (by simpa using h4) (pb_false hp)).symm, rfl⟩
    · cases h1 : cls b == 1
      · cases h4 : cls b == 4
        all_goals
          have p4 : 1 ≤ ((pe b : Nat) : Int) * 4503599627370496 + ((pf b : Nat) : Int) := by
            have := cls_not1 (b := b) (by simpa using h1) (pb_true hp); have := q.out; omega
          go_enter Try.func33, Try.ntmps33
          go_wp2_with (first | (go_at_call 45; refine (parts_any _ _ HB.out).mono ?_; rintro e w' ⟨rfl, rfl⟩) | (go_at_call 16; refine (rclass_any _ _ HB.out).mono ?_; rintro e w' ⟨rfl, rfl⟩) | (go_at_call 48; refine (nan_any _).mono ?_; rintro e w' ⟨rfl, rfl⟩) | (go_at_call 46; refine (of_any _ _ _ _ (by omega) (by omega) (by omega) (by omega)).mono ?_; rintro e w' ⟨rfl, rfl⟩))
          go_ret
          have hs := pb_true hp
          have hb := HB.out
          have qq := q.out
          refine ⟨ret_float ?_, rfl⟩
          rw [next_down (by simpa using h5) (by simpa using h1) hs HB.out, ofN_size _ _ (by omega) (by omega)]
          simp; omega
      · have h4 : (cls b == 4) = false := by simp at h1 ⊢; omega
        go_enter Try.func33, Try.ntmps33
        go_wp2_with (first | (go_at_call 45; refine (parts_any _ _ HB.out).mono ?_; rintro e w' ⟨rfl, rfl⟩) | (go_at_call 16; refine (rclass_any _ _ HB.out).mono ?_; rintro e w' ⟨rfl, rfl⟩) | (go_at_call 48; refine (nan_any _).mono ?_; rintro e w' ⟨rfl, rfl⟩) | (go_at_call 46; refine (of_any _ _ _ _ (by omega) (by omega) (by omega) (by omega)).mono ?_; rintro e w' ⟨rfl, rfl⟩))
        go_ret
        exact ⟨ret_float (next_zero (by simpa using h1) HB.out).symm, rfl⟩
  · go_enter Try.func33, Try.ntmps33
    go_wp2_with (first | (go_at_call 45; refine (parts_any _ _ HB.out).mono ?_; rintro e w' ⟨rfl, rfl⟩) | (go_at_call 16; refine (rclass_any _ _ HB.out).mono ?_; rintro e w' ⟨rfl, rfl⟩) | (go_at_call 48; refine (nan_any _).mono ?_; rintro e w' ⟨rfl, rfl⟩) | (go_at_call 46; refine (of_any _ _ _ _ (by omega) (by omega) (by omega) (by omega)).mono ?_; rintro e w' ⟨rfl, rfl⟩))
    go_ret
    exact ⟨ret_float (next_nan (by simpa using h5)).symm, rfl⟩

theorem num_low {c : Nat} (h : c < 9223372036854775808) : num c = 18446744073709551615 - c := by
  unfold num; rw [if_neg (by omega), if_pos h]
theorem num_high {c : Nat} (h : ¬c < 9223372036854775808) (h1 : ¬c = 18446744073709551615) : num c = c - 9223372036854775808 := by
  unfold num; rw [if_neg h1, if_neg h]

set_option maxHeartbeats 400000 in
theorem rback_any (c : Nat) (w : World) (hb : c < 18446744073709551616) :
    Calls Try.prog 23 #[.int .u64 (c : Int)] w fun e w' => e = .returned (.tuple #[.float .f64 (backX c), .int .i64 (backE c)]) ∧ w = w' := by
  have HB := Lib.hid hb
  clear hb
  by_cases h1 : c = 18446744073709551615
  · have hx : ((c : Int) == 18446744073709551615) = true := by rw [beq_iff_eq]; omega
    have H1 := Lib.hid h1
    clear h1
    go_enter Try.func23, Try.ntmps23
    go_wp2_with (go_at_call 48; refine (nan_any _).mono ?_; rintro e w' ⟨rfl, rfl⟩)
    go_ret2
    exact ⟨ret_back (by rw [H1.out, backX_ok backE_nan]; simp [num]) (by rw [H1.out, backE_nan]), rfl⟩
  · have hx : ((c : Int) == 18446744073709551615) = false := by rw [beq_eq_false_iff_ne]; omega
    have H1 := Lib.hid h1
    clear h1
    by_cases h2 : c < 9223372036854775808
    · have hy : decide ((c : Int) < 9223372036854775808) = true := by simp; omega
      have H2 := Lib.hid h2
      obtain ⟨s, hs⟩ : ∃ s : Nat, s = 9223372036854775807 - c := ⟨_, rfl⟩
      have hw : IntKind.u64.wrap (9223372036854775807 - (c : Int)) = (s : Int) := by rw [IntKind.wrap_u64]; omega
      have HS := Lib.hid hs
      by_cases h3 : c < 4503599627370495
      · have hz : decide (9218868437227405312 < (s : Int)) = true := by simp; omega
        have h := Lib.hid (backE_bad H1.out (.inl h3))
        clear h2 h3 hs
        go_enter Try.func23, Try.ntmps23
        go_wp2_with fail
        go_ret2
        exact ⟨ret_back (backX_bad h.out).symm h.out.symm, rfl⟩
      · have hz : decide (9218868437227405312 < (s : Int)) = false := by simp; omega
        have h := Lib.hid (backE_ok (c := c) (by omega) (by omega))
        have H3 := Lib.hid h3
        clear h2 h3 hs
        have b1 : (s : Int) < 9223372036854775808 := by have := HB.out; have := HS.out; omega
        go_enter Try.func23, Try.ntmps23
        go_wp2_with (go_at_call 46; refine (of_any _ _ _ _ (by omega) (by omega) (by omega) (by omega)).mono ?_; rintro e w' ⟨rfl, rfl⟩)
        go_ret2
        refine ⟨ret_back ?_ h.out.symm, rfl⟩
        rw [backX_ok h.out, num_low H2.out, ofN_size _ _ (by omega) (by omega)]
        have := H2.out
        have := HS.out
        simp; omega
    · have hy : decide ((c : Int) < 9223372036854775808) = false := by simp; omega
      have H2 := Lib.hid h2
      obtain ⟨s, hs⟩ : ∃ s : Nat, s = c - 9223372036854775808 := ⟨_, rfl⟩
      have HS := Lib.hid hs
      have hw : IntKind.u64.wrap ((c : Int) - 9223372036854775808) = (s : Int) := by have := HB.out; rw [IntKind.wrap_u64]; omega
      by_cases h3 : 18442240474082181120 < c
      · have hz : decide (9218868437227405312 < (s : Int)) = true := by simp; omega
        have h := Lib.hid (backE_bad H1.out (.inr h3))
        clear h2 h3 hs
        go_enter Try.func23, Try.ntmps23
        go_wp2_with fail
        go_ret2
        exact ⟨ret_back (backX_bad h.out).symm h.out.symm, rfl⟩
      · have hz : decide (9218868437227405312 < (s : Int)) = false := by simp; omega
        have h := Lib.hid (backE_ok (c := c) (by omega) (by omega))
        have b1 : (s : Int) < 9223372036854775808 := by have := HB.out; have := HS.out; omega
        clear h2 h3 hs
        go_enter Try.func23, Try.ntmps23
        go_wp2_with (go_at_call 46; refine (of_any _ _ _ _ (by omega) (by omega) (by omega) (by omega)).mono ?_; rintro e w' ⟨rfl, rfl⟩)
        go_ret2
        refine ⟨ret_back ?_ h.out.symm, rfl⟩
        rw [backX_ok h.out, num_high H2.out H1.out, ofN_size _ _ (by omega) (by omega)]
        have := HS.out
        simp; omega

theorem rsame_any (a b : Nat) (w : World) :
    Calls Try.prog 24 #[.float .f64 a, .float .f64 b] w fun e w' => e = .returned (.bool ((a : Int) == (b : Int))) ∧ w = w' := by
  have hfb := run_f64bits
  go_enter Try.func24, Try.ntmps24
  go_wp2
  go_ret
  exact ⟨rfl, rfl⟩
end Go.Proofs.Ytfdjphinicafiaa.Sc
