/-
  Whether an element is a number's small one: what the laws of field ask.
-/
import Derived.Test.YteechlkccmcpfaaDoorRfOf
import Derived.Test.YteechlkccmcpfaaDoorRfElem
import Derived.Test.YteechlkccmcpfaaDoorRfPlus
import Derived.Test.YteechlkccmcpfaaDoorRfPower
import Derived.Test.YteechlkccmcpfaaDoorFdOpen
import Derived.Deep.RegionHeld3
namespace Go.Proofs.YteechlkccmcpfaaDoor.Fd
open Go.RowKit Go.Proofs.YteechlkccmcpfaaDoor.Gn Go.Deep
set_option linter.unusedVariables false

theorem c5_below' {w w' : World} {g : Nat} {x : E5} (h : C5 w g x) (hb : Below w.heap.size w w') : C5 w' g x := c5_below h hb
set_option maxHeartbeats 1000000 in
theorem is_any (N : Nat) (A : Option Addr) (k c : Nat) (w : World) (hN : N < pp) (hs : Sl w A k (nl (dg N))) :
    Calls Tryd.prog 21 #[.agg (el N).v, .slice A k c] w fun e w' => e = .returned (.bool true) ∧ Below w.heap.size w w' := by
  have B0 := (Below.refl w.heap.size w).alloc (Nat.le_refl _) (.cells (el N).v 24)
  have K := sl_len hs
  have R := RElem_any A k c N
  obtain ⟨y, hy⟩ : ∃ y, el N = y := ⟨_, rfl⟩
  rw [hy] at B0 R ⊢
  have SK := Lib.hid (show ∀ u : World, Below (w.alloc (.cells y.v 24)).heap.size (w.alloc (.cells y.v 24)) u → C5 u w.heap.size y from fun u h => c5_of (Bl.below' (Bl.new_ w 24 y.v) h))
  have RE := Lib.hid (show ∀ u : World, Below (w.alloc (.cells y.v 24)).heap.size (w.alloc (.cells y.v 24)) u → Calls Tryd.prog 40 #[.slice A k c] u fun e w' => e = .returned (.agg #[.int .u64 (y.a : Int), .int .u64 (y.b : Int), .int .u64 (y.c : Int), .int .u64 (y.d : Int), .int .u64 (y.e : Int)]) ∧ Below u.heap.size u w' from fun u h =>
    R u (by rw [← K]; exact Nat.le_trans (len16 hN) (by decide)) hN ((hs.below ((Below.refl _ _).alloc (Nat.le_refl _) _)).below h))
  have HB := Lib.hid B0
  have G1 := guard5
  have G2 : ∀ w, (Op.equalIn 10000 24 (.agg #[.int .u64 (y.a : Int), .int .u64 (y.b : Int), .int .u64 (y.c : Int), .int .u64 (y.d : Int), .int .u64 (y.e : Int)]) (.agg #[.int .u64 (y.a : Int), .int .u64 (y.b : Int), .int .u64 (y.c : Int), .int .u64 (y.d : Int), .int .u64 (y.e : Int)])).run Tryd.prog w = .ok true w := fun w => by
    have := equal5 y y w
    rw [decide_eq_true rfl] at this
    exact this
  clear hs K R hy B0
  go_enter Tryd.func21, Tryd.ntmps21
  go_wp2_with fail
  go_region_held3 (fun z => C5 z w.heap.size y)
    (first | exact SK.out _ ((Below.refl _ _).drew) | exact SK.out _ (((Below.refl _ _).drew).trans hb1))
    ((go_at_call 40; (with_reducible refine (RE.out _ ((Below.refl _ _).drew)).mono ?_); rintro e w1 ⟨rfl, hb1⟩))
  all_goals
    rename_i hHeld
    clear hHeld
    have D1 := Lib.hid (below_nx HB.out (Nat.le_refl _) (((Below.refl _ _).drew).trans hb1))
    clear hb1
    go_wp2
    go_ret
    exact ⟨rfl, D1.out⟩
/-- Two boxes, and their numbers. -/
theorem len100 {x : Nat} : (dg (x % pp)).length ≤ 100 := Nat.le_trans (len16 (mod_lt x)) (by decide)
end Go.Proofs.YteechlkccmcpfaaDoor.Fd
