/-
  Elements are a field: what the walk's calls answer.
-/
import Derived.Test.YtckjkccpfaidmaaDoorFdRing
namespace Go.Proofs.YtckjkccpfaidmaaDoor.Fd
open Go.RowKit Go.Proofs.YtckjkccpfaidmaaDoor.Gn Go.Deep
set_option linter.unusedVariables false

theorem add_el (x y : E5) (n : Nat) (hx : x.ok) (hy : y.ok) (h : (x.val + y.val) % pp = n) (w : World) : Calls Tryd.prog 26 #[.agg x.v, .agg y.v] w fun e w' => e = .returned (.agg (el n).v) ∧ Below w.heap.size w w' := h ▸ Add_any x y w hx hy
theorem mul_el (x y : E5) (n : Nat) (hx : x.ok) (hy : y.ok) (h : x.val * y.val % pp = n) (w : World) : Calls Tryd.prog 31 #[.agg x.v, .agg y.v] w fun e w' => e = .returned (.agg (el n).v) ∧ Below w.heap.size w w' := h ▸ Mul_any x y w hx hy
theorem walk_fieldRing {w : World} (tab : Tab w) (x : E5) (hx : x.ok) (y : E5) (hy : y.ok) (z : E5) (hz : z.ok) : Calls Tryd.prog 11 #[.agg x.v, .agg y.v, .agg z.v] w fun e w' => e = .returned (.bool true) ∧ Below w.heap.size w w' := by
  have ok := fun n => el_ok (mod_lt n)
  have z0 : (⟨0, 0, 0, 0, 0⟩ : E5).ok := by unfold E5.ok; decide
  have no : (el (ng x.val)).ok := el_ok (ng_lt _)
  have m := cg.mod
  refine ring_walk tab x y z (el ((x.val + y.val) % pp)) (el (x.val * y.val % pp)) (el ((x.val + y.val + z.val) % pp)) (el ((y.val + z.val) % pp)) (el (x.val * y.val * z.val % pp)) (el (y.val * z.val % pp)) (el ((x.val * y.val + x.val * z.val) % pp)) (el (x.val * z.val % pp)) (el (ng x.val)) (el (x.val % pp)) (el (x.val ^ (pp - 2) % pp)) (decide (x.val % pp = 0)) ?_ ?_ ?_ ?_ ?_ ?_ ?_ ?_ ?_ ?_ ?_ ?_ ?_ ?_ ?_ ?_ ?_ ?_ ?_ ?_
  · exact add_el x y _ hx hy rfl
  · exact add_el y x _ hy hx (by rw [Nat.add_comm])
  · exact mul_el x y _ hx hy rfl
  · exact mul_el y x _ hy hx (by rw [Nat.mul_comm])
  · exact add_el _ z _ (ok _) hz (by rw [el_val]; exact (m _).add (cg.rfl' _))
  · exact add_el y z _ hy hz rfl
  · exact add_el x _ _ hx (ok _) (by rw [el_val, Nat.add_assoc]; exact (cg.rfl' _).add (m _))
  · exact mul_el _ z _ (ok _) hz (by rw [el_val]; exact (m _).mul (cg.rfl' _))
  · exact mul_el y z _ hy hz rfl
  · exact mul_el x _ _ hx (ok _) (by rw [el_val, Nat.mul_assoc]; exact (cg.rfl' _).mul (m _))
  · exact mul_el x _ _ hx (ok _) (by rw [el_val, ← Nat.mul_add]; exact (cg.rfl' _).mul (m _))
  · exact mul_el x z _ hx hz rfl
  · exact add_el _ _ _ (ok _) (ok _) (by rw [el_val, el_val]; exact (m _).add (m _))
  · exact fun w => Neg_any x w hx
  · have h : (x.val + (el (ng x.val)).val) % pp = 0 := by
      rw [el_val]
      have h0 : cg (x.val + ng x.val) 0 := ((cg.rfl' x.val).add (ng_cg x.val)).trans (m1_add x.val)
      unfold cg at h0
      rw [h0, Nat.zero_mod]
    exact add_el x _ 0 hx no h
  · exact mul_el x (el 1) _ hx (el_ok pp_one) (by rw [el_val, Nat.mul_one])
  · exact fun w => Reduce_any x w hx
  · exact fun w => Inv_any x w hx
  · intro w
    have := Same_any x ⟨0, 0, 0, 0, 0⟩ w hx z0
    rwa [show (⟨0, 0, 0, 0, 0⟩ : E5).val % pp = 0 from Nat.zero_mod _] at this
  · intro hb
    have hb' : ¬ x.val % pp = 0 := of_decide_eq_false hb
    have hn : ¬ cg x.val 0 := fun h => hb' (by unfold cg at h; rw [h, Nat.zero_mod])
    have h1 : cg (x.val * (x.val ^ (pp - 2) % pp)) 1 := ((cg.rfl' x.val).mul (m _)).trans (inv_mul hn)
    unfold cg at h1
    exact mul_el x _ 1 hx (ok _) (by rw [el_val, h1, Nat.mod_eq_of_lt pp_one])
end Go.Proofs.YtckjkccpfaidmaaDoor.Fd
