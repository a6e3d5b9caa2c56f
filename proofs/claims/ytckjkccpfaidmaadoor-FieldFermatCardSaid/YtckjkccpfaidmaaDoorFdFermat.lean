/-
  To p less 1 each element but 0 is 1: the walk of the law.
-/
import Derived.Test.YtckjkccpfaidmaaDoorFdOpen
namespace Go.Proofs.YtckjkccpfaidmaaDoor.Fd
open Go.RowKit Go.Proofs.YtckjkccpfaidmaaDoor.Gn Go.Deep
set_option linter.unusedVariables false

theorem le_m1 : le (236 :: (List.replicate 30 255 ++ [127])) = pp - 1 := by rw [pp_eq]; decide +kernel
def pm1 : Nat := pp - 1
theorem pm1_eq : pm1 = pp - 1 := rfl
attribute [irreducible] pm1
/-- What the power is. -/
def fer (v : Nat) : E5 := el (v ^ pm1 % pp)
theorem fer_zero (v : Nat) (h : v % pp = 0) : fer v = ⟨0, 0, 0, 0, 0⟩ := by
  unfold fer
  rw [Nat.pow_mod, h, pm1_eq, Nat.zero_pow (by have := pp_one; omega), Nat.zero_mod]; rfl
theorem fer_one (v : Nat) (h : ¬ v % pp = 0) : fer v = ⟨1, 0, 0, 0, 0⟩ := by
  unfold fer
  rw [pm1_eq, show v ^ (pp - 1) % pp = 1 from by rw [pp_prime.fermat v h]]; rfl
set_option maxRecDepth 100000 in
set_option maxHeartbeats 4000000 in
theorem walk_fieldFermat {w : World} (tab : Tab w) (x : E5) (hx : x.ok) : Calls Tryd.prog 15 #[.agg x.v] w fun e w' => e = .returned (.bool true) ∧ Below w.heap.size w w' := by
  have TAB := Lib.hid tab
  have HX := Lib.hid hx
  have one : (el 1).ok := el_ok pp_one
  have m1ok : (el (ng 1)).ok := el_ok (ng_lt 1)
  have S1 := Lib.hid (fun w => Small_any 1 w (by decide))
  have N1 := fun w => Neg_any (el 1) w one
  have E1 := fun w => Encode_any (el (ng 1)) w m1ok
  simp only [el_val, by_m1] at N1 E1
  have N1 := Lib.hid N1
  have E1 := Lib.hid E1
  have z0 : (⟨0, 0, 0, 0, 0⟩ : E5).ok := by unfold E5.ok; decide
  have SM := Lib.hid (show ∀ w, Calls Tryd.prog 34 #[(.agg #[.int .u64 (x.a : Int), .int .u64 (x.b : Int), .int .u64 (x.c : Int), .int .u64 (x.d : Int), .int .u64 (x.e : Int)]), .agg #[.int .u64 0, .int .u64 0, .int .u64 0, .int .u64 0, .int .u64 0]] w fun e w' => e = .returned (.bool (decide (x.val % pp = 0))) ∧ Below w.heap.size w w' from fun w => by
    have := Same_any x ⟨0, 0, 0, 0, 0⟩ w hx z0
    rwa [show (⟨0, 0, 0, 0, 0⟩ : E5).val % pp = 0 from Nat.zero_mod _] at this)
  obtain ⟨a0, a1, a2, a3, a4⟩ := c5_box w x
  have HBX := Lib.hid (Bl.new_ w 25 x.v)
  have HB0 := Lib.hid ((Below.refl w.heap.size w).alloc (Nat.le_refl _) (.cells x.v 25))
  have G1 := guard5
  clear tab hx one m1ok z0 a0 a1 a2 a3 a4
  go_enter Tryd.func15, Tryd.ntmps15
  go_wp2_with fail
  refine (S1.out _).mono ?_
  rintro e w1 ⟨rfl, hb1⟩
  go_wp2_with fail
  refine (N1.out _).mono ?_
  rintro e w2 ⟨rfl, hb2⟩
  go_wp2_with fail
  refine (E1.out _).mono ?_
  rintro e w3 ⟨g, rfl, hg, hbl, hb3⟩
  have D3 := Lib.hid (below_nx (below_nx (below_nx HB0.out (Nat.le_refl _) hb1) (Nat.le_refl _) hb2) (Nat.le_refl _) hb3)
  have HX3 := Lib.hid (((HBX.out.below' hb1).below' hb2).below' hb3)
  have HSL := Lib.hid (show Sl w3 (some ⟨g, 0, none⟩) 32 (bl (236 :: (List.replicate 30 255 ++ [127]))) from Sl.of_bl hbl 0 32 _ (by simp [bl]) (fun k v hv => by rw [Nat.zero_add]; simpa using hv))
  obtain ⟨a0, a1, a2, a3, a4⟩ := c5_of HX3.out
  clear hb1 hb2 hb3 hbl hg HBX HB0
  go_wp2_with fail
  have P := fun w h => pow_any x (some ⟨g, 0, none⟩) 32 32 (236 :: (List.replicate 30 255 ++ [127])) w HX.out (by decide) (by decide) h
  rw [le_m1, ← pm1_eq] at P
  obtain ⟨r, hr⟩ : ∃ r, fer x.val = r := ⟨_, rfl⟩
  refine (P w3 HSL.out).mono ?_
  rintro e w4 ⟨he, hb4⟩
  unfold DecR at he
  rw [show el (x.val ^ pm1 % pp) = r from hr] at he
  obtain rfl : e = .returned (.tuple #[.agg #[.int .u64 (r.a : Int), .int .u64 (r.b : Int), .int .u64 (r.c : Int), .int .u64 (r.d : Int), .int .u64 (r.e : Int)], .int .i64 0]) := he
  have D4 := Lib.hid (below_nx D3.out (Nat.le_refl _) hb4)
  have HX4 := Lib.hid (HX3.out.below' hb4)
  obtain ⟨b0, b1, b2, b3, b4⟩ := c5_of HX4.out
  have hxs := HX4.out.lt
  have HRR := Lib.hid hr
  clear hb4 a0 a1 a2 a3 a4 D3 HX3 HSL P hr
  go_wp2_with fail
  have DB := Lib.hid (D4.out.alloc D4.out.size (.cells #[.int .u64 (r.a : Int), .int .u64 (r.b : Int), .int .u64 (r.c : Int), .int .u64 (r.d : Int), .int .u64 (r.e : Int)] 25))
  have HB := Lib.hid (Bl.new_ w4 25 #[.int .u64 (r.a : Int), .int .u64 (r.b : Int), .int .u64 (r.c : Int), .int .u64 (r.d : Int), .int .u64 (r.e : Int)])
  refine (SM.out _).mono ?_
  rintro e w5 ⟨rfl, hb5⟩
  have D5 := Lib.hid (below_nx DB.out (Nat.le_refl _) hb5)
  have HB5 := Lib.hid (HB.out.below' hb5)
  obtain ⟨⟨q0, q1, q2, q3, q4⟩, -⟩ := cells5 HB5.out
  clear hb5 b0 b1 b2 b3 b4 DB HB D4 HX4
  by_cases h0 : x.val % pp = 0
  · have hz := fer_zero x.val h0
    rw [HRR.out] at hz
    have G2 : ∀ w, (Op.equalIn 10000 25 (.agg #[.int .u64 (r.a : Int), .int .u64 (r.b : Int), .int .u64 (r.c : Int), .int .u64 (r.d : Int), .int .u64 (r.e : Int)]) (.agg #[.int .u64 0, .int .u64 0, .int .u64 0, .int .u64 0, .int .u64 0])).run Tryd.prog w = .ok true w := fun w => by
      have := equal5 r ⟨0, 0, 0, 0, 0⟩ w
      rw [decide_eq_true hz] at this
      exact this
    have H0 := Lib.hid h0
    rw [decide_eq_true h0]
    clear h0 hz
    go_wp2_with (go_at_call 25; refine (known_any _ (TAB.out.below D5.out)).mono ?_; rintro e w6 ⟨rfl, hb6⟩; have D6 := Lib.hid (below_nx D5.out (Nat.le_refl _) hb6); clear hb6)
    go_ret
    exact ⟨rfl, D6.out⟩
  · have hz := fer_one x.val h0
    rw [HRR.out] at hz
    have G2 : ∀ w, (Op.equalIn 10000 25 (.agg #[.int .u64 (r.a : Int), .int .u64 (r.b : Int), .int .u64 (r.c : Int), .int .u64 (r.d : Int), .int .u64 (r.e : Int)]) (.agg #[.int .u64 1, .int .u64 0, .int .u64 0, .int .u64 0, .int .u64 0])).run Tryd.prog w = .ok true w := fun w => by
      have := equal5 r ⟨1, 0, 0, 0, 0⟩ w
      rw [decide_eq_true hz] at this
      exact this
    have H0 := Lib.hid h0
    rw [decide_eq_false h0]
    have S1 := Lib.hid (show ∀ w, Calls Tryd.prog 24 #[.int .u64 1] w fun e w' => e = .returned (.agg #[.int .u64 1, .int .u64 0, .int .u64 0, .int .u64 0, .int .u64 0]) ∧ Below w.heap.size w w' from S1.out)
    have SK := Lib.hid (show ∀ z : World, Below w5.heap.size w5 z → C5 z w4.heap.size r from fun z h => c5_of (Bl.below' HB5.out h))
    clear h0 hz q0 q1 q2 q3 q4
    go_wp2_with fail
    go_region_held3 (fun z => C5 z w4.heap.size r)
      (first | (refine SK.out _ ?_; first | (with_reducible exact Below.refl _ _) | (with_reducible exact (Below.refl _ _).drew) | (with_reducible exact K1) | (with_reducible exact K2)))
      (first | (go_at_call 24; (with_reducible refine (S1.out _).mono ?_); rintro e w6 ⟨rfl, hb6⟩; have K1 := k_drew hb6) | (go_at_call 25; refine (known_any _ (TAB.out.below (below_nx D5.out (Nat.le_refl _) K1))).mono ?_; rintro e w7 ⟨rfl, hb7⟩; have K2 := K1.trans (hb7.mono K1.size)))
    all_goals
      rename_i hHeld
      clear hHeld SK
      have D7 := Lib.hid (below_nx D5.out (Nat.le_refl _) K2)
      clear K1 K2 hb6 hb7
      go_wp2
      go_ret
      exact ⟨rfl, D7.out⟩
end Go.Proofs.YtckjkccpfaidmaaDoor.Fd
