/-
  Elements are a field: the walk of the law (printed by gen_ring.py).
-/
import Derived.Test.YtckjkccpfaidmaaDoorFdOpen
namespace Go.Proofs.YtckjkccpfaidmaaDoor.Fd
open Go.RowKit Go.Proofs.YtckjkccpfaidmaaDoor.Gn Go.Deep
set_option linter.unusedVariables false

theorem box3e (w : World) (x y z : E5) : Bl (((w.alloc (.cells x.v 25)).alloc (.cells y.v 25)).alloc (.cells z.v 25)) w.heap.size 25 x.v ∧
    Bl (((w.alloc (.cells x.v 25)).alloc (.cells y.v 25)).alloc (.cells z.v 25)) (w.heap.size + 1) 25 y.v ∧
    Bl (((w.alloc (.cells x.v 25)).alloc (.cells y.v 25)).alloc (.cells z.v 25)) (w.heap.size + 1 + 1) 25 z.v ∧
    Below w.heap.size w (((w.alloc (.cells x.v 25)).alloc (.cells y.v 25)).alloc (.cells z.v 25)) := by
  obtain ⟨h1, h2, h3⟩ := box2 w x y
  have h4 := Bl.new_ ((w.alloc (.cells x.v 25)).alloc (.cells y.v 25)) 25 z.v
  rw [show ((w.alloc (.cells x.v 25)).alloc (.cells y.v 25)).heap.size = w.heap.size + 1 + 1 by simp] at h4
  exact ⟨h1.alloc _, h2.alloc _, h4, h3.alloc h3.size _⟩
set_option maxRecDepth 100000 in
set_option maxHeartbeats 16000000 in
theorem ring_walk {w : World} (tab : Tab w) (x y z ab mab abc bc mabc mbc dis mac ne rx iv : E5) (b : Bool)
    (H1 : ∀ w, Calls Tryd.prog 26 #[(.agg #[.int .u64 (x.a : Int), .int .u64 (x.b : Int), .int .u64 (x.c : Int), .int .u64 (x.d : Int), .int .u64 (x.e : Int)]), (.agg #[.int .u64 (y.a : Int), .int .u64 (y.b : Int), .int .u64 (y.c : Int), .int .u64 (y.d : Int), .int .u64 (y.e : Int)])] w fun e w' => e = .returned (.agg #[.int .u64 (ab.a : Int), .int .u64 (ab.b : Int), .int .u64 (ab.c : Int), .int .u64 (ab.d : Int), .int .u64 (ab.e : Int)]) ∧ Below w.heap.size w w')
    (H2 : ∀ w, Calls Tryd.prog 26 #[(.agg #[.int .u64 (y.a : Int), .int .u64 (y.b : Int), .int .u64 (y.c : Int), .int .u64 (y.d : Int), .int .u64 (y.e : Int)]), (.agg #[.int .u64 (x.a : Int), .int .u64 (x.b : Int), .int .u64 (x.c : Int), .int .u64 (x.d : Int), .int .u64 (x.e : Int)])] w fun e w' => e = .returned (.agg #[.int .u64 (ab.a : Int), .int .u64 (ab.b : Int), .int .u64 (ab.c : Int), .int .u64 (ab.d : Int), .int .u64 (ab.e : Int)]) ∧ Below w.heap.size w w')
    (H3 : ∀ w, Calls Tryd.prog 31 #[(.agg #[.int .u64 (x.a : Int), .int .u64 (x.b : Int), .int .u64 (x.c : Int), .int .u64 (x.d : Int), .int .u64 (x.e : Int)]), (.agg #[.int .u64 (y.a : Int), .int .u64 (y.b : Int), .int .u64 (y.c : Int), .int .u64 (y.d : Int), .int .u64 (y.e : Int)])] w fun e w' => e = .returned (.agg #[.int .u64 (mab.a : Int), .int .u64 (mab.b : Int), .int .u64 (mab.c : Int), .int .u64 (mab.d : Int), .int .u64 (mab.e : Int)]) ∧ Below w.heap.size w w')
    (H4 : ∀ w, Calls Tryd.prog 31 #[(.agg #[.int .u64 (y.a : Int), .int .u64 (y.b : Int), .int .u64 (y.c : Int), .int .u64 (y.d : Int), .int .u64 (y.e : Int)]), (.agg #[.int .u64 (x.a : Int), .int .u64 (x.b : Int), .int .u64 (x.c : Int), .int .u64 (x.d : Int), .int .u64 (x.e : Int)])] w fun e w' => e = .returned (.agg #[.int .u64 (mab.a : Int), .int .u64 (mab.b : Int), .int .u64 (mab.c : Int), .int .u64 (mab.d : Int), .int .u64 (mab.e : Int)]) ∧ Below w.heap.size w w')
    (H5 : ∀ w, Calls Tryd.prog 26 #[(.agg #[.int .u64 (ab.a : Int), .int .u64 (ab.b : Int), .int .u64 (ab.c : Int), .int .u64 (ab.d : Int), .int .u64 (ab.e : Int)]), (.agg #[.int .u64 (z.a : Int), .int .u64 (z.b : Int), .int .u64 (z.c : Int), .int .u64 (z.d : Int), .int .u64 (z.e : Int)])] w fun e w' => e = .returned (.agg #[.int .u64 (abc.a : Int), .int .u64 (abc.b : Int), .int .u64 (abc.c : Int), .int .u64 (abc.d : Int), .int .u64 (abc.e : Int)]) ∧ Below w.heap.size w w')
    (H6 : ∀ w, Calls Tryd.prog 26 #[(.agg #[.int .u64 (y.a : Int), .int .u64 (y.b : Int), .int .u64 (y.c : Int), .int .u64 (y.d : Int), .int .u64 (y.e : Int)]), (.agg #[.int .u64 (z.a : Int), .int .u64 (z.b : Int), .int .u64 (z.c : Int), .int .u64 (z.d : Int), .int .u64 (z.e : Int)])] w fun e w' => e = .returned (.agg #[.int .u64 (bc.a : Int), .int .u64 (bc.b : Int), .int .u64 (bc.c : Int), .int .u64 (bc.d : Int), .int .u64 (bc.e : Int)]) ∧ Below w.heap.size w w')
    (H7 : ∀ w, Calls Tryd.prog 26 #[(.agg #[.int .u64 (x.a : Int), .int .u64 (x.b : Int), .int .u64 (x.c : Int), .int .u64 (x.d : Int), .int .u64 (x.e : Int)]), (.agg #[.int .u64 (bc.a : Int), .int .u64 (bc.b : Int), .int .u64 (bc.c : Int), .int .u64 (bc.d : Int), .int .u64 (bc.e : Int)])] w fun e w' => e = .returned (.agg #[.int .u64 (abc.a : Int), .int .u64 (abc.b : Int), .int .u64 (abc.c : Int), .int .u64 (abc.d : Int), .int .u64 (abc.e : Int)]) ∧ Below w.heap.size w w')
    (H8 : ∀ w, Calls Tryd.prog 31 #[(.agg #[.int .u64 (mab.a : Int), .int .u64 (mab.b : Int), .int .u64 (mab.c : Int), .int .u64 (mab.d : Int), .int .u64 (mab.e : Int)]), (.agg #[.int .u64 (z.a : Int), .int .u64 (z.b : Int), .int .u64 (z.c : Int), .int .u64 (z.d : Int), .int .u64 (z.e : Int)])] w fun e w' => e = .returned (.agg #[.int .u64 (mabc.a : Int), .int .u64 (mabc.b : Int), .int .u64 (mabc.c : Int), .int .u64 (mabc.d : Int), .int .u64 (mabc.e : Int)]) ∧ Below w.heap.size w w')
    (H9 : ∀ w, Calls Tryd.prog 31 #[(.agg #[.int .u64 (y.a : Int), .int .u64 (y.b : Int), .int .u64 (y.c : Int), .int .u64 (y.d : Int), .int .u64 (y.e : Int)]), (.agg #[.int .u64 (z.a : Int), .int .u64 (z.b : Int), .int .u64 (z.c : Int), .int .u64 (z.d : Int), .int .u64 (z.e : Int)])] w fun e w' => e = .returned (.agg #[.int .u64 (mbc.a : Int), .int .u64 (mbc.b : Int), .int .u64 (mbc.c : Int), .int .u64 (mbc.d : Int), .int .u64 (mbc.e : Int)]) ∧ Below w.heap.size w w')
    (H10 : ∀ w, Calls Tryd.prog 31 #[(.agg #[.int .u64 (x.a : Int), .int .u64 (x.b : Int), .int .u64 (x.c : Int), .int .u64 (x.d : Int), .int .u64 (x.e : Int)]), (.agg #[.int .u64 (mbc.a : Int), .int .u64 (mbc.b : Int), .int .u64 (mbc.c : Int), .int .u64 (mbc.d : Int), .int .u64 (mbc.e : Int)])] w fun e w' => e = .returned (.agg #[.int .u64 (mabc.a : Int), .int .u64 (mabc.b : Int), .int .u64 (mabc.c : Int), .int .u64 (mabc.d : Int), .int .u64 (mabc.e : Int)]) ∧ Below w.heap.size w w')
    (H11 : ∀ w, Calls Tryd.prog 31 #[(.agg #[.int .u64 (x.a : Int), .int .u64 (x.b : Int), .int .u64 (x.c : Int), .int .u64 (x.d : Int), .int .u64 (x.e : Int)]), (.agg #[.int .u64 (bc.a : Int), .int .u64 (bc.b : Int), .int .u64 (bc.c : Int), .int .u64 (bc.d : Int), .int .u64 (bc.e : Int)])] w fun e w' => e = .returned (.agg #[.int .u64 (dis.a : Int), .int .u64 (dis.b : Int), .int .u64 (dis.c : Int), .int .u64 (dis.d : Int), .int .u64 (dis.e : Int)]) ∧ Below w.heap.size w w')
    (H12 : ∀ w, Calls Tryd.prog 31 #[(.agg #[.int .u64 (x.a : Int), .int .u64 (x.b : Int), .int .u64 (x.c : Int), .int .u64 (x.d : Int), .int .u64 (x.e : Int)]), (.agg #[.int .u64 (z.a : Int), .int .u64 (z.b : Int), .int .u64 (z.c : Int), .int .u64 (z.d : Int), .int .u64 (z.e : Int)])] w fun e w' => e = .returned (.agg #[.int .u64 (mac.a : Int), .int .u64 (mac.b : Int), .int .u64 (mac.c : Int), .int .u64 (mac.d : Int), .int .u64 (mac.e : Int)]) ∧ Below w.heap.size w w')
    (H13 : ∀ w, Calls Tryd.prog 26 #[(.agg #[.int .u64 (mab.a : Int), .int .u64 (mab.b : Int), .int .u64 (mab.c : Int), .int .u64 (mab.d : Int), .int .u64 (mab.e : Int)]), (.agg #[.int .u64 (mac.a : Int), .int .u64 (mac.b : Int), .int .u64 (mac.c : Int), .int .u64 (mac.d : Int), .int .u64 (mac.e : Int)])] w fun e w' => e = .returned (.agg #[.int .u64 (dis.a : Int), .int .u64 (dis.b : Int), .int .u64 (dis.c : Int), .int .u64 (dis.d : Int), .int .u64 (dis.e : Int)]) ∧ Below w.heap.size w w')
    (H14 : ∀ w, Calls Tryd.prog 30 #[(.agg #[.int .u64 (x.a : Int), .int .u64 (x.b : Int), .int .u64 (x.c : Int), .int .u64 (x.d : Int), .int .u64 (x.e : Int)])] w fun e w' => e = .returned (.agg #[.int .u64 (ne.a : Int), .int .u64 (ne.b : Int), .int .u64 (ne.c : Int), .int .u64 (ne.d : Int), .int .u64 (ne.e : Int)]) ∧ Below w.heap.size w w')
    (H15 : ∀ w, Calls Tryd.prog 26 #[(.agg #[.int .u64 (x.a : Int), .int .u64 (x.b : Int), .int .u64 (x.c : Int), .int .u64 (x.d : Int), .int .u64 (x.e : Int)]), (.agg #[.int .u64 (ne.a : Int), .int .u64 (ne.b : Int), .int .u64 (ne.c : Int), .int .u64 (ne.d : Int), .int .u64 (ne.e : Int)])] w fun e w' => e = .returned (.agg #[.int .u64 0, .int .u64 0, .int .u64 0, .int .u64 0, .int .u64 0]) ∧ Below w.heap.size w w')
    (H16 : ∀ w, Calls Tryd.prog 31 #[(.agg #[.int .u64 (x.a : Int), .int .u64 (x.b : Int), .int .u64 (x.c : Int), .int .u64 (x.d : Int), .int .u64 (x.e : Int)]), (.agg #[.int .u64 1, .int .u64 0, .int .u64 0, .int .u64 0, .int .u64 0])] w fun e w' => e = .returned (.agg #[.int .u64 (rx.a : Int), .int .u64 (rx.b : Int), .int .u64 (rx.c : Int), .int .u64 (rx.d : Int), .int .u64 (rx.e : Int)]) ∧ Below w.heap.size w w')
    (H17 : ∀ w, Calls Tryd.prog 23 #[(.agg #[.int .u64 (x.a : Int), .int .u64 (x.b : Int), .int .u64 (x.c : Int), .int .u64 (x.d : Int), .int .u64 (x.e : Int)])] w fun e w' => e = .returned (.agg #[.int .u64 (rx.a : Int), .int .u64 (rx.b : Int), .int .u64 (rx.c : Int), .int .u64 (rx.d : Int), .int .u64 (rx.e : Int)]) ∧ Below w.heap.size w w')
    (H18 : ∀ w, Calls Tryd.prog 39 #[(.agg #[.int .u64 (x.a : Int), .int .u64 (x.b : Int), .int .u64 (x.c : Int), .int .u64 (x.d : Int), .int .u64 (x.e : Int)])] w fun e w' => e = .returned (.agg #[.int .u64 (iv.a : Int), .int .u64 (iv.b : Int), .int .u64 (iv.c : Int), .int .u64 (iv.d : Int), .int .u64 (iv.e : Int)]) ∧ Below w.heap.size w w')
    (H19 : ∀ w, Calls Tryd.prog 34 #[(.agg #[.int .u64 (x.a : Int), .int .u64 (x.b : Int), .int .u64 (x.c : Int), .int .u64 (x.d : Int), .int .u64 (x.e : Int)]), (.agg #[.int .u64 0, .int .u64 0, .int .u64 0, .int .u64 0, .int .u64 0])] w fun e w' => e = .returned (.bool b) ∧ Below w.heap.size w w')
    (H20 : b = false → ∀ w, Calls Tryd.prog 31 #[(.agg #[.int .u64 (x.a : Int), .int .u64 (x.b : Int), .int .u64 (x.c : Int), .int .u64 (x.d : Int), .int .u64 (x.e : Int)]), (.agg #[.int .u64 (iv.a : Int), .int .u64 (iv.b : Int), .int .u64 (iv.c : Int), .int .u64 (iv.d : Int), .int .u64 (iv.e : Int)])] w fun e w' => e = .returned (.agg #[.int .u64 1, .int .u64 0, .int .u64 0, .int .u64 0, .int .u64 0]) ∧ Below w.heap.size w w') :
    Calls Tryd.prog 11 #[.agg x.v, .agg y.v, .agg z.v] w fun e w' => e = .returned (.bool true) ∧ Below w.heap.size w w' := by
  have TAB := Lib.hid tab
  have S1 := Lib.hid (show ∀ w, Calls Tryd.prog 24 #[.int .u64 1] w fun e w' => e = .returned (.agg #[.int .u64 1, .int .u64 0, .int .u64 0, .int .u64 0, .int .u64 0]) ∧ Below w.heap.size w w' from fun w => Small_any 1 w (by decide))
  replace H1 := Lib.hid H1
  replace H2 := Lib.hid H2
  replace H3 := Lib.hid H3
  replace H4 := Lib.hid H4
  replace H5 := Lib.hid H5
  replace H6 := Lib.hid H6
  replace H7 := Lib.hid H7
  replace H8 := Lib.hid H8
  replace H9 := Lib.hid H9
  replace H10 := Lib.hid H10
  replace H11 := Lib.hid H11
  replace H12 := Lib.hid H12
  replace H13 := Lib.hid H13
  replace H14 := Lib.hid H14
  replace H15 := Lib.hid H15
  replace H16 := Lib.hid H16
  replace H17 := Lib.hid H17
  replace H18 := Lib.hid H18
  replace H19 := Lib.hid H19
  replace H20 := Lib.hid H20
  have G1 := guard5
  have G2 : ∀ w, (Op.equalIn 10000 25 (.agg #[.int .u64 (ab.a : Int), .int .u64 (ab.b : Int), .int .u64 (ab.c : Int), .int .u64 (ab.d : Int), .int .u64 (ab.e : Int)]) (.agg #[.int .u64 (ab.a : Int), .int .u64 (ab.b : Int), .int .u64 (ab.c : Int), .int .u64 (ab.d : Int), .int .u64 (ab.e : Int)])).run Tryd.prog w = .ok true w := fun w => by
    have := equal5 ab ab w
    rw [decide_eq_true rfl] at this
    exact this
  have G3 : ∀ w, (Op.equalIn 10000 25 (.agg #[.int .u64 (mab.a : Int), .int .u64 (mab.b : Int), .int .u64 (mab.c : Int), .int .u64 (mab.d : Int), .int .u64 (mab.e : Int)]) (.agg #[.int .u64 (mab.a : Int), .int .u64 (mab.b : Int), .int .u64 (mab.c : Int), .int .u64 (mab.d : Int), .int .u64 (mab.e : Int)])).run Tryd.prog w = .ok true w := fun w => by
    have := equal5 mab mab w
    rw [decide_eq_true rfl] at this
    exact this
  have G4 : ∀ w, (Op.equalIn 10000 25 (.agg #[.int .u64 (abc.a : Int), .int .u64 (abc.b : Int), .int .u64 (abc.c : Int), .int .u64 (abc.d : Int), .int .u64 (abc.e : Int)]) (.agg #[.int .u64 (abc.a : Int), .int .u64 (abc.b : Int), .int .u64 (abc.c : Int), .int .u64 (abc.d : Int), .int .u64 (abc.e : Int)])).run Tryd.prog w = .ok true w := fun w => by
    have := equal5 abc abc w
    rw [decide_eq_true rfl] at this
    exact this
  have G5 : ∀ w, (Op.equalIn 10000 25 (.agg #[.int .u64 (mabc.a : Int), .int .u64 (mabc.b : Int), .int .u64 (mabc.c : Int), .int .u64 (mabc.d : Int), .int .u64 (mabc.e : Int)]) (.agg #[.int .u64 (mabc.a : Int), .int .u64 (mabc.b : Int), .int .u64 (mabc.c : Int), .int .u64 (mabc.d : Int), .int .u64 (mabc.e : Int)])).run Tryd.prog w = .ok true w := fun w => by
    have := equal5 mabc mabc w
    rw [decide_eq_true rfl] at this
    exact this
  have G6 : ∀ w, (Op.equalIn 10000 25 (.agg #[.int .u64 (dis.a : Int), .int .u64 (dis.b : Int), .int .u64 (dis.c : Int), .int .u64 (dis.d : Int), .int .u64 (dis.e : Int)]) (.agg #[.int .u64 (dis.a : Int), .int .u64 (dis.b : Int), .int .u64 (dis.c : Int), .int .u64 (dis.d : Int), .int .u64 (dis.e : Int)])).run Tryd.prog w = .ok true w := fun w => by
    have := equal5 dis dis w
    rw [decide_eq_true rfl] at this
    exact this
  have G7 : ∀ w, (Op.equalIn 10000 25 (.agg #[.int .u64 0, .int .u64 0, .int .u64 0, .int .u64 0, .int .u64 0]) (.agg #[.int .u64 0, .int .u64 0, .int .u64 0, .int .u64 0, .int .u64 0])).run Tryd.prog w = .ok true w := fun w => by
    have := equal5 ⟨0, 0, 0, 0, 0⟩ ⟨0, 0, 0, 0, 0⟩ w
    rw [decide_eq_true rfl] at this
    exact this
  have G8 : ∀ w, (Op.equalIn 10000 25 (.agg #[.int .u64 (rx.a : Int), .int .u64 (rx.b : Int), .int .u64 (rx.c : Int), .int .u64 (rx.d : Int), .int .u64 (rx.e : Int)]) (.agg #[.int .u64 (rx.a : Int), .int .u64 (rx.b : Int), .int .u64 (rx.c : Int), .int .u64 (rx.d : Int), .int .u64 (rx.e : Int)])).run Tryd.prog w = .ok true w := fun w => by
    have := equal5 rx rx w
    rw [decide_eq_true rfl] at this
    exact this
  have G9 : ∀ w, (Op.equalIn 10000 25 (.agg #[.int .u64 1, .int .u64 0, .int .u64 0, .int .u64 0, .int .u64 0]) (.agg #[.int .u64 1, .int .u64 0, .int .u64 0, .int .u64 0, .int .u64 0])).run Tryd.prog w = .ok true w := fun w => by
    have := equal5 ⟨1, 0, 0, 0, 0⟩ ⟨1, 0, 0, 0, 0⟩ w
    rw [decide_eq_true rfl] at this
    exact this
  obtain ⟨B1, B2, B3, B4⟩ := box3e w x y z
  have HX := Lib.hid B1
  have HY := Lib.hid B2
  have HZ := Lib.hid B3
  have HB := Lib.hid B4
  clear tab B1 B2 B3 B4
  go_enter Tryd.func11, Tryd.ntmps11
  go_wp2_with fail
  refine (S1.out _).mono ?_
  rintro e w1 ⟨rfl, hb1⟩
  have D1 := Lib.hid ((below_nx HB.out (Nat.le_refl _) hb1).alloc (below_nx HB.out (Nat.le_refl _) hb1).size (.cells (⟨1, 0, 0, 0, 0⟩ : E5).v 25))
  have HX1 := Lib.hid ((HX.out.below' hb1).alloc (.cells (⟨1, 0, 0, 0, 0⟩ : E5).v 25))
  have HY1 := Lib.hid ((HY.out.below' hb1).alloc (.cells (⟨1, 0, 0, 0, 0⟩ : E5).v 25))
  have HZ1 := Lib.hid ((HZ.out.below' hb1).alloc (.cells (⟨1, 0, 0, 0, 0⟩ : E5).v 25))
  have HO1 := Lib.hid (Bl.new_ w1 25 (⟨1, 0, 0, 0, 0⟩ : E5).v)
  clear hb1 HB HX HY HZ S1
  go_upto_region 2 with fail
  change Code.wp _ _ _ _ (w1.alloc (.cells (⟨1, 0, 0, 0, 0⟩ : E5).v 25))
  obtain ⟨g, hg⟩ : ∃ g, w1.heap.size = g := ⟨_, rfl⟩
  simp only [hg] at HO1 ⊢
  generalize w1.alloc (.cells (⟨1, 0, 0, 0, 0⟩ : E5).v 25) = W1 at *
  clear hg
  have SK := Lib.hid (show ∀ u : World, Below W1.heap.size W1 u → C5 u w.heap.size x ∧ C5 u (w.heap.size + 1) y ∧ C5 u (w.heap.size + 1 + 1) z from fun u h => ⟨c5_of (Bl.below' HX1.out h), c5_of (Bl.below' HY1.out h), c5_of (Bl.below' HZ1.out h)⟩)
  go_cut [50] (fun s wx => s = .bool false ∧ Below W1.heap.size W1 wx)
  case first =>
    go_region_held3 (fun u => C5 u w.heap.size x ∧ C5 u (w.heap.size + 1) y ∧ C5 u (w.heap.size + 1 + 1) z)
      (first | (refine SK.out _ ?_; first | (with_reducible exact Below.refl _ _) | (with_reducible exact (Below.refl _ _).drew) | (with_reducible exact KK)))
      (((first | (go_at_call 26; (first | (with_reducible refine (H1.out _).mono ?_) | (with_reducible refine (H2.out _).mono ?_) | (with_reducible refine (H5.out _).mono ?_) | (with_reducible refine (H6.out _).mono ?_) | (with_reducible refine (H7.out _).mono ?_))) | (go_at_call 31; (first | (with_reducible refine (H3.out _).mono ?_) | (with_reducible refine (H4.out _).mono ?_) | (with_reducible refine (H8.out _).mono ?_) | (with_reducible refine (H9.out _).mono ?_) | (with_reducible refine (H10.out _).mono ?_)))); rintro e wk ⟨rfl, hbk⟩; first | (with_reducible (have KK := KK.trans (hbk.mono KK.size))) | (with_reducible (have KK := k_drew hbk))))
    all_goals go_wp2_with fail
    all_goals go_meet
    all_goals exact ⟨rfl, KK⟩
  case rest =>
    obtain ⟨rfl, hbw⟩ := hcut
    have D2 := Lib.hid (below_nx D1.out (Nat.le_refl _) hbw)
    have HX2 := Lib.hid (HX1.out.below' hbw)
    have HY2 := Lib.hid (HY1.out.below' hbw)
    have HZ2 := Lib.hid (HZ1.out.below' hbw)
    have HO2 := Lib.hid (HO1.out.below' hbw)
    clear hbw SK D1 HX1 HY1 HZ1 HO1
    obtain ⟨W2, rfl⟩ : ∃ W, W = wc := ⟨_, rfl⟩
    go_upto_region 4 with fail
    have SK := Lib.hid (show ∀ u : World, Below W2.heap.size W2 u → C5 u w.heap.size x ∧ C5 u (w.heap.size + 1) y ∧ C5 u (w.heap.size + 1 + 1) z ∧ C5 u g ⟨1, 0, 0, 0, 0⟩ from fun u h => ⟨c5_of (Bl.below' HX2.out h), c5_of (Bl.below' HY2.out h), c5_of (Bl.below' HZ2.out h), c5_of (Bl.below' HO2.out h)⟩)
    go_cut [79] (fun s wx => s = .bool false ∧ Below W2.heap.size W2 wx)
    case first =>
      go_region_held3 (fun u => C5 u w.heap.size x ∧ C5 u (w.heap.size + 1) y ∧ C5 u (w.heap.size + 1 + 1) z ∧ C5 u g ⟨1, 0, 0, 0, 0⟩)
        (first | (refine SK.out _ ?_; first | (with_reducible exact Below.refl _ _) | (with_reducible exact (Below.refl _ _).drew) | (with_reducible exact KK)))
        (((first | (go_at_call 31; (first | (with_reducible refine (H3.out _).mono ?_) | (with_reducible refine (H11.out _).mono ?_) | (with_reducible refine (H12.out _).mono ?_) | (with_reducible refine (H16.out _).mono ?_))) | (go_at_call 26; (first | (with_reducible refine (H6.out _).mono ?_) | (with_reducible refine (H13.out _).mono ?_) | (with_reducible refine (H15.out _).mono ?_))) | (go_at_call 30; (first | (with_reducible refine (H14.out _).mono ?_))) | (go_at_call 23; (first | (with_reducible refine (H17.out _).mono ?_)))); rintro e wk ⟨rfl, hbk⟩; first | (with_reducible (have KK := KK.trans (hbk.mono KK.size))) | (with_reducible (have KK := k_drew hbk))))
      all_goals go_wp2_with fail
      all_goals go_meet
      all_goals exact ⟨rfl, KK⟩
    case rest =>
      obtain ⟨rfl, hbw⟩ := hcut
      have D3 := Lib.hid (below_nx D2.out (Nat.le_refl _) hbw)
      have HX3 := Lib.hid (HX2.out.below' hbw)
      have HO3 := Lib.hid (HO2.out.below' hbw)
      clear hbw SK D2 HX2 HY2 HZ2 HO2
      obtain ⟨W3, rfl⟩ : ∃ W, W = wc := ⟨_, rfl⟩
      go_upto_region 6 with fail
      have SK := Lib.hid (show ∀ u : World, Below W3.heap.size W3 u → C5 u w.heap.size x ∧ C5 u g ⟨1, 0, 0, 0, 0⟩ from fun u h => ⟨c5_of (Bl.below' HX3.out h), c5_of (Bl.below' HO3.out h)⟩)
      go_cut [6] (fun s wx => s = .bool true ∧ Below W3.heap.size W3 wx)
      case first =>
        cases b
        · replace H20 := Lib.hid (H20.out rfl)
          go_region_held3 (fun u => C5 u w.heap.size x ∧ C5 u g ⟨1, 0, 0, 0, 0⟩)
            (first | (refine SK.out _ ?_; first | (with_reducible exact Below.refl _ _) | (with_reducible exact (Below.refl _ _).drew) | (with_reducible exact KK)))
            (((first | (go_at_call 25; refine (known_any _ (TAB.out.below (below_nx D3.out (Nat.le_refl _) KK))).mono ?_) | (go_at_call 34; with_reducible refine (H19.out _).mono ?_) | (go_at_call 39; with_reducible refine (H18.out _).mono ?_) | (go_at_call 31; with_reducible refine (H20.out _).mono ?_)); rintro e wk ⟨rfl, hbk⟩; first | (with_reducible (have KK := KK.trans (hbk.mono KK.size))) | (with_reducible (have KK := k_drew hbk))))
          all_goals go_wp2_with fail
          all_goals go_meet
          all_goals exact ⟨rfl, KK⟩
        · clear H20
          obtain ⟨⟨a0, a1, a2, a3, a4⟩, b0, b1, b2, b3, b4⟩ := SK.out W3 (Below.refl _ _)
          go_region_with (((first | (go_at_call 25; refine (known_any _ (TAB.out.below (below_nx D3.out (Nat.le_refl _) KK))).mono ?_) | (go_at_call 34; with_reducible refine (H19.out _).mono ?_)); rintro e wk ⟨rfl, hbk⟩; first | (with_reducible (have KK := KK.trans (hbk.mono KK.size))) | (with_reducible (have KK := k_drew hbk))))
          all_goals go_wp2_with fail
          all_goals go_meet
          all_goals exact ⟨rfl, KK⟩
      case rest =>
        obtain ⟨rfl, hbw⟩ := hcut
        have D4 := Lib.hid (below_nx D3.out (Nat.le_refl _) hbw)
        go_wp2_with fail
        go_ret
        exact ⟨rfl, D4.out⟩
end Go.Proofs.YtckjkccpfaidmaaDoor.Fd
