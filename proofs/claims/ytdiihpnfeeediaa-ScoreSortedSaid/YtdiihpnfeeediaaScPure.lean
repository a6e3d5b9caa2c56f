/-
  The contracts of the functions of package score that only compute with numbers.
-/
import Derived.Test.YtdiihpnfeeediaaProg
import Derived.Test.YtdiihpnfeeediaaScPlain
import Derived.WalkKit
import Derived.WalkSpells
import Derived.WalkLawsBesides
import Derived.Lib.Hide
namespace Go.Proofs.Ytdiihpnfeeediaa.Sc
open Go.RowKit
set_option linter.unusedVariables false

theorem run_f64bits (b : Nat) (w : World) : (callFunc 20 #[.float .f64 b]).run Try.prog w = .ok (.value (.int .u64 b)) w := rfl
theorem run_f64from (n : Int) (w : World) : (callFunc 21 #[.int .u64 n]).run Try.prog w = .ok (.value (.float .f64 n.toNat)) w := rfl
theorem ret_int {k : IntKind} {a b : Int} (h : a = b) : Ending.returned (.int k a) = .returned (.int k b) := by rw [h]
theorem ret_float {k : FloatKind} {a b : Nat} (h : a = b) : Ending.returned (.float k a) = .returned (.float k b) := by rw [h]
theorem ret_bool {a b : Bool} (h : a = b) : Ending.returned (.bool a) = .returned (.bool b) := by rw [h]

set_option maxHeartbeats 400000 in
theorem class_any (b : Nat) (w : World) (hb : b < 18446744073709551616) :
    Calls Try.prog 19 #[.float .f64 b] w fun e w' => e = .returned (.int .i64 (cls b)) ∧ w = w' := by
  have hfb := run_f64bits
  have h1 := bits_and_exp b hb
  have h2 := bits_andNot_sign b hb
  go_enter Try.func19, Try.ntmps19
  go_wp2
  all_goals (go_ret; refine ⟨ret_int ?_, rfl⟩; clear hfb h1 h2; simp at *; unfold cls)
  all_goals repeat' split
  all_goals first | rfl | omega

set_option maxHeartbeats 400000 in
theorem code_any (b : Nat) (w : World) (hb : b < 18446744073709551616) :
    Calls Try.prog 12 #[.float .f64 b] w fun e w' => e = .returned (.int .u64 ((code b : Nat) : Int)) ∧ w = w' := by
  have hfb := run_f64bits
  have h1 := bits_and_sign b hb
  have h2 := bits_not b hb
  go_enter Try.func12, Try.ntmps12
  go_wp2_with (go_at_call 19; refine (class_any _ _ hb).mono ?_; rintro e w' ⟨rfl, rfl⟩)
  all_goals (go_ret; refine ⟨ret_int ?_, rfl⟩; clear h1; simp at *; unfold code)
  all_goals repeat' split
  all_goals first | omega | rw [bits_or_sign b (by omega)]

theorem backE_nan : backE 18446744073709551615 = 0 := by unfold backE; rw [if_neg (by omega)]
theorem backE_bad {c : Nat} (h1 : ¬c = 18446744073709551615) (h : c < 4503599627370495 ∨ 18442240474082181120 < c) : backE c = 1 := by unfold backE; rw [if_pos ⟨h1, h⟩]
theorem backE_ok {c : Nat} (h : ¬c < 4503599627370495) (h' : ¬18442240474082181120 < c) : backE c = 0 := by unfold backE; rw [if_neg (by omega)]
theorem backX_ok {c : Nat} (h : backE c = 0) : backX c = num c := by unfold backX; rw [if_pos h]
theorem backX_bad {c : Nat} (h : backE c = 1) : backX c = 0 := by unfold backX; rw [h]; rfl
theorem ret_back {x y : Nat} {e f : Int} (h : x = y) (h' : e = f) : Ending.returned (.tuple #[.float .f64 x, .int .i64 e]) = .returned (.tuple #[.float .f64 y, .int .i64 f]) := by rw [h, h']

set_option maxHeartbeats 400000 in
theorem compare_any (a b : Nat) (w : World) (ha : a < 18446744073709551616) (hb : b < 18446744073709551616) :
    Calls Try.prog 14 #[.float .f64 a, .float .f64 b] w fun e w' => e = .returned (.int .i64 (cmp a b)) ∧ w = w' := by
  have HA := Lib.hid ha
  have HB := Lib.hid hb
  clear ha hb
  go_enter Try.func14, Try.ntmps14
  go_wp2_with (go_at_call 12; refine (code_any _ _ (by first | exact HA.out | exact HB.out)).mono ?_; rintro e w' ⟨rfl, rfl⟩)
  all_goals (go_ret; refine ⟨ret_int ?_, rfl⟩; unfold cmp)
  all_goals repeat' split
  all_goals omega

set_option maxHeartbeats 400000 in
theorem valid_any (b : Nat) (w : World) (hb : b < 18446744073709551616) :
    Calls Try.prog 18 #[.float .f64 b] w fun e w' => e = .returned (.bool (valid b)) ∧ w = w' := by
  have HB := Lib.hid hb
  clear hb
  go_enter Try.func18, Try.ntmps18
  go_wp2_with (go_at_call 19; refine (class_any _ _ HB.out).mono ?_; rintro e w' ⟨rfl, rfl⟩)
  all_goals (go_ret; refine ⟨ret_bool ?_, rfl⟩; simp at *; unfold valid; simp; omega)

theorem ret_two {a b c d : Nat} (h : a = c) (h' : b = d) : Ending.returned (.tuple #[.int .u64 (a : Int), .int .u64 (b : Int)]) = .returned (.tuple #[.int .u64 (c : Int), .int .u64 (d : Int)]) := by rw [h, h']
theorem lo_hi (a b : Nat) (ha : a < 18446744073709551616) (hb : b < 18446744073709551616) : lo a b ≤ hi a b ∧ hi a b < 18446744073709551616 := by
  have := code_lt a ha; have := code_lt b hb
  unfold lo hi; omega

end Go.Proofs.Ytdiihpnfeeediaa.Sc
