/-
  The contracts of the functions of package score that only compute with numbers.
-/
import Derived.Test.YtfdjphinicafiaaProg
import Derived.Test.YtfdjphinicafiaaScPlain
import Derived.WalkKit
import Derived.WalkSpells
import Derived.WalkLawsBesides
import Derived.Lib.Hide
namespace Go.Proofs.Ytfdjphinicafiaa.Sc
open Go.RowKit
set_option linter.unusedVariables false

theorem run_f64bits (b : Nat) (w : World) : (callFunc 44 #[.float .f64 b]).run Try.prog w = .ok (.value (.int .u64 b)) w := rfl
theorem run_f64from (n : Int) (w : World) : (callFunc 49 #[.int .u64 n]).run Try.prog w = .ok (.value (.float .f64 n.toNat)) w := rfl
theorem ret_int {k : IntKind} {a b : Int} (h : a = b) : Ending.returned (.int k a) = .returned (.int k b) := by rw [h]
theorem ret_float {k : FloatKind} {a b : Nat} (h : a = b) : Ending.returned (.float k a) = .returned (.float k b) := by rw [h]
theorem ret_bool {a b : Bool} (h : a = b) : Ending.returned (.bool a) = .returned (.bool b) := by rw [h]

set_option maxHeartbeats 400000 in
theorem class_any (b : Nat) (w : World) (hb : b < 18446744073709551616) :
    Calls Try.prog 15 #[.float .f64 b] w fun e w' => e = .returned (.int .i64 (cls b)) ∧ w = w' := by
  have hfb := run_f64bits
  have h1 := bits_and_exp b hb
  have h2 := bits_andNot_sign b hb
  go_enter Try.func15, Try.ntmps15
  go_wp2
  all_goals (go_ret; refine ⟨ret_int ?_, rfl⟩; clear hfb h1 h2; simp at *; unfold cls)
  all_goals repeat' split
  all_goals first | rfl | omega

set_option maxHeartbeats 400000 in
theorem code_any (b : Nat) (w : World) (hb : b < 18446744073709551616) :
    Calls Try.prog 17 #[.float .f64 b] w fun e w' => e = .returned (.int .u64 ((code b : Nat) : Int)) ∧ w = w' := by
  have hfb := run_f64bits
  have h1 := bits_and_sign b hb
  have h2 := bits_not b hb
  go_enter Try.func17, Try.ntmps17
  go_wp2_with (go_at_call 15; refine (class_any _ _ hb).mono ?_; rintro e w' ⟨rfl, rfl⟩)
  all_goals (go_ret; refine ⟨ret_int ?_, rfl⟩; clear h1; simp at *; unfold code)
  all_goals repeat' split
  all_goals first | omega | rw [bits_or_sign b (by omega)]

set_option maxHeartbeats 400000 in
theorem number_any (c : Nat) (w : World) (hb : c < 18446744073709551616) :
    Calls Try.prog 47 #[.int .u64 (c : Int)] w fun e w' => e = .returned (.float .f64 (num c)) ∧ w = w' := by
  have hfb := run_f64from
  have h1 := bits_and_sign c hb
  have h2 := bits_not c hb
  have h3 := bits_andNot_sign c hb
  go_enter Try.func47, Try.ntmps47
  go_wp2
  all_goals (go_ret; refine ⟨ret_float ?_, rfl⟩; clear h1 h2 h3; simp at *; unfold num)
  all_goals repeat' split
  all_goals omega

theorem number_at (x : Int) (w : World) (h0 : 0 ≤ x) (h1 : x < 18446744073709551616) :
    Calls Try.prog 47 #[.int .u64 x] w fun e w' => e = .returned (.float .f64 (num x.toNat)) ∧ w = w' := by
  obtain ⟨c, rfl⟩ := Int.eq_ofNat_of_zero_le h0
  exact number_any c w (by omega)

theorem backE_nan : backE 18446744073709551615 = 0 := by unfold backE; rw [if_neg (by omega)]
theorem backE_bad {c : Nat} (h1 : ¬c = 18446744073709551615) (h : c < 4503599627370495 ∨ 18442240474082181120 < c) : backE c = 1 := by unfold backE; rw [if_pos ⟨h1, h⟩]
theorem backE_ok {c : Nat} (h : ¬c < 4503599627370495) (h' : ¬18442240474082181120 < c) : backE c = 0 := by unfold backE; rw [if_neg (by omega)]
theorem backX_ok {c : Nat} (h : backE c = 0) : backX c = num c := by unfold backX; rw [if_pos h]
theorem backX_bad {c : Nat} (h : backE c = 1) : backX c = 0 := by unfold backX; rw [h]; rfl
theorem ret_back {x y : Nat} {e f : Int} (h : x = y) (h' : e = f) : Ending.returned (.tuple #[.float .f64 x, .int .i64 e]) = .returned (.tuple #[.float .f64 y, .int .i64 f]) := by rw [h, h']

set_option maxHeartbeats 400000 in
theorem back_any (c : Nat) (w : World) (hb : c < 18446744073709551616) :
    Calls Try.prog 22 #[.int .u64 (c : Int)] w fun e w' => e = .returned (.tuple #[.float .f64 (backX c), .int .i64 (backE c)]) ∧ w = w' := by
  have HB := Lib.hid hb
  clear hb
  by_cases h1 : c = 18446744073709551615
  · have hx : ((c : Int) != 18446744073709551615) = false := by rw [bne_eq_false_iff_eq]; omega
    have H1 := Lib.hid h1
    clear h1
    go_enter Try.func22, Try.ntmps22
    go_wp2_with (go_at_call 47; refine (number_any _ _ HB.out).mono ?_; rintro e w' ⟨rfl, rfl⟩)
    go_ret2
    exact ⟨ret_back (by rw [H1.out, backX_ok backE_nan]) (by rw [H1.out, backE_nan]), rfl⟩
  · have hx : ((c : Int) != 18446744073709551615) = true := by rw [bne_iff_ne]; omega
    have H1 := Lib.hid h1
    clear h1
    by_cases h2 : c < 4503599627370495
    · have hy : decide ((c : Int) < 4503599627370495) = true := by simp; omega
      have h := Lib.hid (backE_bad H1.out (.inl h2))
      clear h2
      go_enter Try.func22, Try.ntmps22
      go_wp2_with (go_at_call 47; refine (number_any _ _ HB.out).mono ?_; rintro e w' ⟨rfl, rfl⟩)
      go_ret2
      exact ⟨ret_back (backX_bad h.out).symm h.out.symm, rfl⟩
    have hy : decide ((c : Int) < 4503599627370495) = false := by simp; omega
    by_cases h3 : 18442240474082181120 < c
    · have hz : decide (18442240474082181120 < (c : Int)) = true := by simp; omega
      have h := Lib.hid (backE_bad H1.out (.inr h3))
      clear h2 h3
      go_enter Try.func22, Try.ntmps22
      go_wp2_with (go_at_call 47; refine (number_any _ _ HB.out).mono ?_; rintro e w' ⟨rfl, rfl⟩)
      go_ret2
      exact ⟨ret_back (backX_bad h.out).symm h.out.symm, rfl⟩
    · have hz : decide (18442240474082181120 < (c : Int)) = false := by simp; omega
      have h := Lib.hid (backE_ok h2 h3)
      clear h2 h3
      go_enter Try.func22, Try.ntmps22
      go_wp2_with (go_at_call 47; refine (number_any _ _ HB.out).mono ?_; rintro e w' ⟨rfl, rfl⟩)
      go_ret2
      exact ⟨ret_back (backX_ok h.out).symm h.out.symm, rfl⟩

set_option maxHeartbeats 400000 in
theorem compare_any (a b : Nat) (w : World) (ha : a < 18446744073709551616) (hb : b < 18446744073709551616) :
    Calls Try.prog 19 #[.float .f64 a, .float .f64 b] w fun e w' => e = .returned (.int .i64 (cmp a b)) ∧ w = w' := by
  have HA := Lib.hid ha
  have HB := Lib.hid hb
  clear ha hb
  go_enter Try.func19, Try.ntmps19
  go_wp2_with (go_at_call 17; refine (code_any _ _ (by first | exact HA.out | exact HB.out)).mono ?_; rintro e w' ⟨rfl, rfl⟩)
  all_goals (go_ret; refine ⟨ret_int ?_, rfl⟩; unfold cmp)
  all_goals repeat' split
  all_goals omega

set_option maxHeartbeats 400000 in
theorem valid_any (b : Nat) (w : World) (hb : b < 18446744073709551616) :
    Calls Try.prog 29 #[.float .f64 b] w fun e w' => e = .returned (.bool (valid b)) ∧ w = w' := by
  have HB := Lib.hid hb
  clear hb
  go_enter Try.func29, Try.ntmps29
  go_wp2_with (go_at_call 15; refine (class_any _ _ HB.out).mono ?_; rintro e w' ⟨rfl, rfl⟩)
  all_goals (go_ret; refine ⟨ret_bool ?_, rfl⟩; simp at *; unfold valid; simp; omega)

set_option maxHeartbeats 400000 in
theorem next_any (b : Nat) (w : World) (hb : b < 18446744073709551616) :
    Calls Try.prog 32 #[.float .f64 b] w fun e w' => e = .returned (.float .f64 (next b)) ∧ w = w' := by
  have HB := Lib.hid hb
  clear hb
  by_cases h : 18442240474082181120 ≤ code b
  · have ht : decide (18442240474082181120 ≤ ((code b : Nat) : Int)) = true := by simp; omega
    have hfin : next b = num 18446744073709551615 := by unfold next; rw [if_pos h]
    have H := Lib.hid hfin
    clear hfin h
    go_enter Try.func32, Try.ntmps32
    go_wp2_with (first | (go_at_call 17; refine (code_any _ _ HB.out).mono ?_; rintro e w' ⟨rfl, rfl⟩) | (go_at_call 47; refine (number_any 18446744073709551615 _ (by decide)).mono ?_; rintro e w' ⟨rfl, rfl⟩))
    go_ret
    exact ⟨ret_float H.out.symm, rfl⟩
  · have ht : decide (18442240474082181120 ≤ ((code b : Nat) : Int)) = false := by simp; omega
    have hfin : next b = num (code b + 1) := by unfold next; rw [if_neg h]
    have H := Lib.hid hfin
    have hk := Lib.hid (code_lt b HB.out)
    have h1 := Lib.hid h
    have hw : IntKind.u64.wrap (((code b : Nat) : Int) + 1) = ((code b + 1 : Nat) : Int) := by have := hk.out; have := h1.out; rw [IntKind.wrap_u64]; omega
    clear hfin h
    go_enter Try.func32, Try.ntmps32
    have b1 : 0 ≤ ((code b : Nat) : Int) + 1 := by omega
    have B2 := Lib.hid (show ((code b : Nat) : Int) + 1 < 18446744073709551616 by have := hk.out; have := h1.out; omega)
    go_wp2_with (first | (go_at_call 17; refine (code_any _ _ HB.out).mono ?_; rintro e w' ⟨rfl, rfl⟩) | (go_at_call 47; refine (number_at _ _ b1 B2.out).mono ?_; rintro e w' ⟨rfl, rfl⟩))
    go_ret
    exact ⟨ret_float (by rw [H.out]), rfl⟩

theorem ret_two {a b c d : Nat} (h : a = c) (h' : b = d) : Ending.returned (.tuple #[.int .u64 (a : Int), .int .u64 (b : Int)]) = .returned (.tuple #[.int .u64 (c : Int), .int .u64 (d : Int)]) := by rw [h, h']
set_option maxHeartbeats 400000 in
theorem inOrder_any (a b : Nat) (w : World) (ha : a < 18446744073709551616) (hb : b < 18446744073709551616) :
    Calls Try.prog 50 #[.float .f64 a, .float .f64 b] w fun e w' => e = .returned (.tuple #[.int .u64 ((lo a b : Nat) : Int), .int .u64 ((hi a b : Nat) : Int)]) ∧ w = w' := by
  have HA := Lib.hid ha
  have HB := Lib.hid hb
  clear ha hb
  go_enter Try.func50, Try.ntmps50
  go_wp2_with (go_at_call 17; refine (code_any _ _ (by first | exact HA.out | exact HB.out)).mono ?_; rintro e w' ⟨rfl, rfl⟩)
  all_goals go_ret2
  · exact ⟨ret_two (by unfold lo; omega) (by unfold hi; omega), rfl⟩
  · exact ⟨ret_two (by unfold lo; omega) (by unfold hi; omega), rfl⟩
  · exact ⟨ret_two (by unfold lo; omega) (by unfold hi; omega), rfl⟩

theorem number_w (x : Int) (w : World) :
    Calls Try.prog 47 #[.int .u64 (IntKind.u64.wrap x)] w fun e w' => e = .returned (.float .f64 (num (x % 18446744073709551616).toNat)) ∧ w = w' := by
  rw [IntKind.wrap_u64]
  exact number_at _ w (by omega) (by omega)

theorem lo_hi (a b : Nat) (ha : a < 18446744073709551616) (hb : b < 18446744073709551616) : lo a b ≤ hi a b ∧ hi a b < 18446744073709551616 := by
  have := code_lt a ha; have := code_lt b hb
  unfold lo hi; omega

set_option maxHeartbeats 400000 in
theorem mid_any (a b : Nat) (w : World) (ha : a < 18446744073709551616) (hb : b < 18446744073709551616) :
    Calls Try.prog 36 #[.float .f64 a, .float .f64 b] w fun e w' => e = .returned (.tuple #[.float .f64 (midX a b), .int .i64 (midE a b)]) ∧ w = w' := by
  have HA := Lib.hid ha
  have HB := Lib.hid hb
  clear ha hb
  cases hva : valid a
  · have hx : midX a b = 0 := by unfold midX; simp [hva]
    have he : midE a b = 10 := by unfold midE; simp [hva]
    have HX := Lib.hid hx
    have HE := Lib.hid he
    clear hx he
    go_enter Try.func36, Try.ntmps36
    go_wp2_with (go_at_call 29; refine (valid_any _ _ (by first | exact HA.out | exact HB.out)).mono ?_; rintro e w' ⟨rfl, rfl⟩)
    go_ret2
    exact ⟨ret_back HX.out.symm HE.out.symm, rfl⟩
  cases hvb : valid b
  · have hx : midX a b = 0 := by unfold midX; simp [hvb]
    have he : midE a b = 10 := by unfold midE; simp [hvb]
    have HX := Lib.hid hx
    have HE := Lib.hid he
    clear hx he
    go_enter Try.func36, Try.ntmps36
    go_wp2_with (go_at_call 29; refine (valid_any _ _ (by first | exact HA.out | exact HB.out)).mono ?_; rintro e w' ⟨rfl, rfl⟩)
    go_ret2
    exact ⟨ret_back HX.out.symm HE.out.symm, rfl⟩
  · have hx : midX a b = num (lo a b + (hi a b - lo a b) / 2) := by unfold midX; simp [hva, hvb]
    have he : midE a b = 0 := by unfold midE; simp [hva, hvb]
    have HX := Lib.hid hx
    have HE := Lib.hid he
    clear hx he
    go_enter Try.func36, Try.ntmps36
    go_wp2_with (first | (go_at_call 29; refine (valid_any _ _ (by first | exact HA.out | exact HB.out)).mono ?_; rintro e w' ⟨rfl, rfl⟩) | (go_at_call 50; refine (inOrder_any _ _ _ HA.out HB.out).mono ?_; rintro e w' ⟨rfl, rfl⟩) | (go_at_call 47; refine (number_w _ _).mono ?_; rintro e w' ⟨rfl, rfl⟩))
    go_ret2
    have hl := lo_hi a b HA.out HB.out
    refine ⟨ret_back ?_ HE.out.symm, rfl⟩
    rw [HX.out]
    congr 1
    simp only [IntKind.wrap_u64]
    rw [Int.tdiv_eq_ediv_of_nonneg (by omega)]
    omega
end Go.Proofs.Ytfdjphinicafiaa.Sc
