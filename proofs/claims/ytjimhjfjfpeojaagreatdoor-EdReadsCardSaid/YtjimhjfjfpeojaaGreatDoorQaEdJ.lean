/- Joined texts. -/
import Derived.IntWalk
import Derived.Test.YtjimhjfjfpeojaaGreatDoorQaEdI
import Derived.Test.YtjimhjfjfpeojaaGreatDoorQaEdPts
set_option linter.unusedVariables false
namespace Go.Proofs.YtjimhjfjfpeojaaGreatDoor.Ed
open Go.RowKit Go.Proofs.YtjimhjfjfpeojaaGreatDoor.Gn Go.Proofs.YtjimhjfjfpeojaaGreatDoor.Fd Go.Deep
theorem and128 : ∀ b : Nat, b < 256 → bits .and .u8 (b : Int) 128 = ((b / 128 * 128 : Nat) : Int) := by decide +kernel
theorem o_and128 (w : World) (b : Nat) (h : b < 256) : (binOp .and 5 (.int .u8 (b : Int)) (.int .u8 128)).run Tryz.prog w = .ok (.int .u8 ((b / 128 * 128 : Nat) : Int)) w := by
 have := and128 b h
 go_simp
 try simpa using this
theorem andn128 : ∀ b : Nat, b < 256 → bits .andNot .u8 (b : Int) 128 = ((b % 128 : Nat) : Int) := by decide +kernel
theorem o_andn128 (w : World) (b : Nat) (h : b < 256) : (binOp .andNot 5 (.int .u8 (b : Int)) (.int .u8 128)).run Tryz.prog w = .ok (.int .u8 ((b % 128 : Nat) : Int)) w := by
 have := andn128 b h
 go_simp
 try simpa using this
theorem o_neq8 (w : World) (b : Nat) (q : Bool) (h : decide (128 ≤ b) = q) (hb : b < 256) : (binOp .neq 5 (.int .u8 ((b / 128 * 128 : Nat) : Int)) (.int .u8 0)).run Tryz.prog w = .ok (.bool q) w := by
 obtain ⟨c, hc⟩ : ∃ c, b / 128 = c := ⟨_, rfl⟩
 have : c = 0 ∨ c = 1 := by omega
 rw [hc]
 rcases this with rfl | rfl
 ·have : q = false := by rw [← h]; simp; omega
  subst this
  rfl
 ·have : q = true := by rw [← h]; simp; omega
  subst this
  rfl
def low (l : List Nat) : List Nat := l.set 31 (l.getD 31 0 % 128)
theorem cacross {y : K} {r : Nat} (w : World) (tab : TabE w) (h : acr y = some r) : Calls Tryz.prog 44 #[.agg y.v] w fun e w' => e = .returned (.tuple #[.agg (kof r).v, .bool true]) ∧ Below w.heap.size w w' := by
 refine across_walk y (kmul y y) (au y) (kmul kd (kmul y y)) (av y) kd (kof r) true w tab (csq y) (csub _ _) (cmul _ _) (cadd _ _) (fun w tab => ?_) (fun z hz => c5_range kd_v (tab.below hz).d)
 refine (Root_any (au y).1 (av y).1 w (au y).2 (av y).2 tab.im).mono ?_
 rintro e w' ⟨he, hb⟩
 have h' : rt (au y).1.val (av y).1.val = some r := h
 rw [h'] at he
 refine ⟨?_, hb⟩
 rw [kof_v, Nat.mod_eq_of_lt (acr_lt h).1]
 exact he
theorem nacross {y : K} (w : World) (tab : TabE w) (h : acr y = none) : Calls Tryz.prog 44 #[.agg y.v] w fun e w' => e = .returned (.tuple #[.agg ke.v, .bool false]) ∧ Below w.heap.size w w' := by
 refine across_walk y (kmul y y) (au y) (kmul kd (kmul y y)) (av y) kd ke false w tab (csq y) (csub _ _) (cmul _ _) (cadd _ _) (fun w tab => ?_) (fun z hz => c5_range kd_v (tab.below hz).d)
 refine (Root_any (au y).1 (av y).1 w (au y).2 (av y).2 tab.im).mono ?_
 rintro e w' ⟨he, hb⟩
 have h' : rt (au y).1.val (av y).1.val = none := h
 rw [h'] at he
 exact ⟨he, hb⟩
end Go.Proofs.YtjimhjfjfpeojaaGreatDoor.Ed
