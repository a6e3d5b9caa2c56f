/-
  Sums, differences, products of elements are what the document says: the walks of the laws.
-/
import Derived.Test.YteechlkccmcpfaaDoorRfIs
import Derived.Deep.Cut
namespace Go.Proofs.YteechlkccmcpfaaDoor.Fd
open Go.RowKit Go.Proofs.YteechlkccmcpfaaDoor.Gn Go.Deep
set_option linter.unusedVariables false

theorem less_sb (a b : Nat) : (a % pp + (pp - b % pp)) % pp = sb a b := by unfold sb; rw [Nat.mod_add_mod]
theorem plus_mod (a b : Nat) : (a % pp + b % pp) % pp = (a + b) % pp := (Nat.add_mod a b pp).symm
theorem less_ng (a : Nat) : (0 + (pp - a % pp)) % pp = ng a := by unfold ng; rw [Nat.zero_add]
theorem sb_lt (a b : Nat) : sb a b < pp := mod_lt _
/-- What both elements' boxes and numbers are good for, from a world on. -/
structure Two (W0 w : World) (g h : Nat) (x y : E5) (A : Option Addr) (k : Nat) (B : Option Addr) (m : Nat) : Prop where
  cx : C5 w g x
  cy : C5 w h y
  sx : Sl w A k (nl (dg (x.val % pp)))
  sy : Sl w B m (nl (dg (y.val % pp)))
  kx : k ≤ 16
  ky : m ≤ 16
  tab : Tab w
  bel : Below W0.heap.size W0 w
theorem Two.keep {W0 w w' : World} {g h : Nat} {x y : E5} {A : Option Addr} {k : Nat} {B : Option Addr} {m : Nat} (s : Two W0 w g h x y A k B m) (hb : Below w.heap.size w w') : Two W0 w' g h x y A k B m :=
  ⟨c5_below s.cx hb, c5_below s.cy hb, s.sx.below hb, s.sy.below hb, s.kx, s.ky, s.tab.below hb, below_nx s.bel (Nat.le_refl _) hb⟩
set_option maxHeartbeats 4000000 in
set_option maxRecDepth 100000 in
theorem walk_fieldSums {w : World} (tab : Tab w) (x : E5) (hx : x.ok) (y : E5) (hy : y.ok) : Calls Tryd.prog 5 #[.agg x.v, .agg y.v] w fun e w' => e = .returned (.bool true) ∧ Below w.heap.size w w' := by
  have HX := Lib.hid hx
  have HY := Lib.hid hy
  have OX := Lib.hid (show ∀ u, Calls Tryd.prog 19 #[(.agg #[.int .u64 (x.a : Int), .int .u64 (x.b : Int), .int .u64 (x.c : Int), .int .u64 (x.d : Int), .int .u64 (x.e : Int)])] u (RetN (x.val % pp) u) from fun u => Of_any x u hx)
  have OY := Lib.hid (show ∀ u, Calls Tryd.prog 19 #[(.agg #[.int .u64 (y.a : Int), .int .u64 (y.b : Int), .int .u64 (y.c : Int), .int .u64 (y.d : Int), .int .u64 (y.e : Int)])] u (RetN (y.val % pp) u) from fun u => Of_any y u hy)
  have SK := Lib.hid (show ∀ z, Below ((w.alloc (.cells x.v 24)).alloc (.cells y.v 24)).heap.size ((w.alloc (.cells x.v 24)).alloc (.cells y.v 24)) z → C5 z w.heap.size x ∧ C5 z (w.heap.size + 1) y from fun z h =>
    ⟨c5_of ((box2 w x y).1.below' h), c5_of ((box2 w x y).2.1.below' h)⟩)
  have HB := Lib.hid (box2 w x y).2.2
  have TAB := Lib.hid (tab.below (((Below.refl w.heap.size w).alloc (Nat.le_refl _) (.cells x.v 24)).alloc (by simp) (.cells y.v 24)))
  have ADD := Lib.hid (show ∀ u, Calls Tryd.prog 23 #[(.agg #[.int .u64 (x.a : Int), .int .u64 (x.b : Int), .int .u64 (x.c : Int), .int .u64 (x.d : Int), .int .u64 (x.e : Int)]), (.agg #[.int .u64 (y.a : Int), .int .u64 (y.b : Int), .int .u64 (y.c : Int), .int .u64 (y.d : Int), .int .u64 (y.e : Int)])] u fun e w' => e = .returned (.agg (el ((x.val + y.val) % pp)).v) ∧ Below u.heap.size u w' from fun u => Add_any x y u hx hy)
  have SUB := Lib.hid (show ∀ u, Calls Tryd.prog 25 #[(.agg #[.int .u64 (x.a : Int), .int .u64 (x.b : Int), .int .u64 (x.c : Int), .int .u64 (x.d : Int), .int .u64 (x.e : Int)]), (.agg #[.int .u64 (y.a : Int), .int .u64 (y.b : Int), .int .u64 (y.c : Int), .int .u64 (y.d : Int), .int .u64 (y.e : Int)])] u fun e w' => e = .returned (.agg (el (sb x.val y.val)).v) ∧ Below u.heap.size u w' from fun u => Sub_any x y u hx hy)
  have NEG := Lib.hid (show ∀ u, Calls Tryd.prog 27 #[(.agg #[.int .u64 (x.a : Int), .int .u64 (x.b : Int), .int .u64 (x.c : Int), .int .u64 (x.d : Int), .int .u64 (x.e : Int)])] u fun e w' => e = .returned (.agg (el (ng x.val)).v) ∧ Below u.heap.size u w' from fun u => Neg_any x u hx)
  clear tab hx hy
  go_enter Tryd.func5, Tryd.ntmps5
  go_upto_region 1 with fail
  change Code.wp _ _ _ _ ((w.alloc (.cells x.v 24)).alloc (.cells y.v 24))
  generalize (w.alloc (.cells x.v 24)).alloc (.cells y.v 24) = W0 at SK HB TAB ⊢
  go_region_held3 (fun z => C5 z w.heap.size x ∧ C5 z (w.heap.size + 1) y)
    (first | (refine SK.out _ ?_; first | (with_reducible exact Below.refl _ _) | (with_reducible exact (Below.refl _ _).drew) | (with_reducible exact K2) | (with_reducible exact K1)))
    (first
      | (go_at_call 19; (with_reducible refine (OX.out _).mono ?_); rintro e w1 ⟨A1, k1, c1, rfl, h11, h12, h13⟩; have K1 := k_drew h13; have T1 := Lib.hid h11; clear h11)
      | (go_at_call 19; (with_reducible refine (OY.out _).mono ?_); rintro e w2 ⟨A2, k2, c2, rfl, h21, h22, h23⟩; have K2 := K1.trans (h23.mono K1.size); have T2 := Lib.hid h21; clear h21))
  have T := Lib.hid (show Two W0 w2 w.heap.size (w.heap.size + 1) x y A1 k1 A2 k2 from ⟨(SK.out _ K2).1, (SK.out _ K2).2, T1.out.below h23, T2.out, by rw [← sl_len T1.out]; exact len16 (mod_lt _), by rw [← sl_len T2.out]; exact len16 (mod_lt _), TAB.out.below K2, K2⟩)
  clear SK TAB T1 T2 K1 K2 h12 h13 h22 h23 OX OY
  obtain ⟨a0, a1, a2, a3, a4⟩ := T.out.cx
  obtain ⟨b0, b1, b2, b3, b4⟩ := T.out.cy
  go_wp2_with fail
  (with_reducible refine (ADD.out _).mono ?_)
  rintro e w3 ⟨rfl, hb3⟩
  replace T := Lib.hid (T.out.keep hb3)
  clear hb3 a0 a1 a2 a3 a4 b0 b1 b2 b3 b4
  have RC := Lib.hid (Plus_any A1 A2 k1 k2 c1 c2 _ _ _ (Nat.le_trans T.out.kx (by decide)) (Nat.le_trans T.out.ky (by decide)) T.out.sx T.out.sy)
  go_wp2_with fail
  (with_reducible refine RC.out.mono ?_)
  intro e w4 hr
  obtain ⟨A4, k4, c4, rfl, hq⟩ := hr.slice (plus_mod _ _) (Below.refl _ _)
  obtain ⟨_, _, _, hq0, hq1, hq2, hb4⟩ := hq
  cases hq0
  have S := Lib.hid hq1
  replace T := Lib.hid (T.out.keep hb4)
  clear hr hq1 hq2 hb4 RC
  have IS := Lib.hid (is_any ((x.val + y.val) % pp) A4 k4 c4 _ (mod_lt _) S.out)
  go_wp2_with fail
  (with_reducible refine IS.out.mono ?_)
  rintro e w5 ⟨rfl, hb5⟩
  replace T := Lib.hid (T.out.keep hb5)
  clear hb5 IS S
  obtain ⟨a0, a1, a2, a3, a4⟩ := T.out.cx
  obtain ⟨b0, b1, b2, b3, b4⟩ := T.out.cy
  go_wp2_with fail
  (with_reducible refine (SUB.out _).mono ?_)
  rintro e w6 ⟨rfl, hb6⟩
  replace T := Lib.hid (T.out.keep hb6)
  clear hb6 a0 a1 a2 a3 a4 b0 b1 b2 b3 b4
  have RC := Lib.hid (Less_any A1 A2 k1 k2 c1 c2 _ _ _ (Nat.le_trans T.out.kx (by decide)) T.out.ky (mod_lt _) T.out.sx T.out.sy)
  go_wp2_with fail
  (with_reducible refine RC.out.mono ?_)
  intro e w7 hr
  obtain ⟨A7, k7, c7, rfl, hq⟩ := hr.slice (less_sb _ _) (Below.refl _ _)
  obtain ⟨_, _, _, hq0, hq1, hq2, hb7⟩ := hq
  cases hq0
  have S := Lib.hid hq1
  replace T := Lib.hid (T.out.keep hb7)
  clear hr hq1 hq2 hb7 RC
  have IS := Lib.hid (is_any (sb x.val y.val) A7 k7 c7 _ (mod_lt _) S.out)
  go_wp2_with fail
  (with_reducible refine IS.out.mono ?_)
  rintro e w8 ⟨rfl, hb8⟩
  replace T := Lib.hid (T.out.keep hb8)
  clear hb8 IS S
  obtain ⟨a0, a1, a2, a3, a4⟩ := T.out.cx
  go_wp2_with fail
  (with_reducible refine (NEG.out _).mono ?_)
  rintro e w9 ⟨rfl, hb9⟩
  replace T := Lib.hid (T.out.keep hb9)
  clear hb9 a0 a1 a2 a3 a4
  have RC := Lib.hid (Less_any none A1 0 k1 0 c1 0 _ _ (by decide) T.out.kx (mod_lt _) (by rw [dg_zero]; exact Sl.nil_ _ _) T.out.sx)
  go_wp2_with fail
  (with_reducible refine RC.out.mono ?_)
  intro e w10 hr
  obtain ⟨A10, k10, c10, rfl, hq⟩ := hr.slice (less_ng _) (Below.refl _ _)
  obtain ⟨_, _, _, hq0, hq1, hq2, hb10⟩ := hq
  cases hq0
  have S := Lib.hid hq1
  replace T := Lib.hid (T.out.keep hb10)
  clear hr hq1 hq2 hb10 RC
  have IS := Lib.hid (is_any (ng x.val) A10 k10 c10 _ (mod_lt _) S.out)
  go_wp2_with fail
  (with_reducible refine IS.out.mono ?_)
  rintro e w11 ⟨rfl, hb11⟩
  replace T := Lib.hid (T.out.keep hb11)
  clear hb11 IS S
  go_wp2_with fail
  (with_reducible refine (known_any _ T.out.tab).mono ?_)
  rintro e w12 ⟨rfl, hb12⟩
  replace T := Lib.hid (T.out.keep hb12)
  clear hb12
  go_wp2_with fail
  go_ret
  exact ⟨rfl, below_nx HB.out (Nat.le_refl _) T.out.bel⟩
set_option maxHeartbeats 4000000 in
set_option maxRecDepth 100000 in
theorem walk_fieldProducts {w : World} (tab : Tab w) (x : E5) (hx : x.ok) (y : E5) (hy : y.ok) : Calls Tryd.prog 6 #[.agg x.v, .agg y.v] w fun e w' => e = .returned (.bool true) ∧ Below w.heap.size w w' := by
  have HX := Lib.hid hx
  have HY := Lib.hid hy
  have OX := Lib.hid (show ∀ u, Calls Tryd.prog 19 #[(.agg #[.int .u64 (x.a : Int), .int .u64 (x.b : Int), .int .u64 (x.c : Int), .int .u64 (x.d : Int), .int .u64 (x.e : Int)])] u (RetN (x.val % pp) u) from fun u => Of_any x u hx)
  have OY := Lib.hid (show ∀ u, Calls Tryd.prog 19 #[(.agg #[.int .u64 (y.a : Int), .int .u64 (y.b : Int), .int .u64 (y.c : Int), .int .u64 (y.d : Int), .int .u64 (y.e : Int)])] u (RetN (y.val % pp) u) from fun u => Of_any y u hy)
  have SK := Lib.hid (show ∀ z, Below ((w.alloc (.cells x.v 24)).alloc (.cells y.v 24)).heap.size ((w.alloc (.cells x.v 24)).alloc (.cells y.v 24)) z → C5 z w.heap.size x ∧ C5 z (w.heap.size + 1) y from fun z h =>
    ⟨c5_of ((box2 w x y).1.below' h), c5_of ((box2 w x y).2.1.below' h)⟩)
  have HB := Lib.hid (box2 w x y).2.2
  have TAB := Lib.hid (tab.below (((Below.refl w.heap.size w).alloc (Nat.le_refl _) (.cells x.v 24)).alloc (by simp) (.cells y.v 24)))
  have MUL := Lib.hid (show ∀ u, Calls Tryd.prog 28 #[(.agg #[.int .u64 (x.a : Int), .int .u64 (x.b : Int), .int .u64 (x.c : Int), .int .u64 (x.d : Int), .int .u64 (x.e : Int)]), (.agg #[.int .u64 (y.a : Int), .int .u64 (y.b : Int), .int .u64 (y.c : Int), .int .u64 (y.d : Int), .int .u64 (y.e : Int)])] u fun e w' => e = .returned (.agg (el (x.val * y.val % pp)).v) ∧ Below u.heap.size u w' from fun u => Mul_any x y u hx hy)
  have SQ := Lib.hid (show ∀ u, Calls Tryd.prog 30 #[(.agg #[.int .u64 (x.a : Int), .int .u64 (x.b : Int), .int .u64 (x.c : Int), .int .u64 (x.d : Int), .int .u64 (x.e : Int)])] u fun e w' => e = .returned (.agg (el (x.val * x.val % pp)).v) ∧ Below u.heap.size u w' from fun u => Square_any x u hx)
  clear tab hx hy
  go_enter Tryd.func6, Tryd.ntmps6
  go_upto_region 1 with fail
  change Code.wp _ _ _ _ ((w.alloc (.cells x.v 24)).alloc (.cells y.v 24))
  generalize (w.alloc (.cells x.v 24)).alloc (.cells y.v 24) = W0 at SK HB TAB ⊢
  go_region_held3 (fun z => C5 z w.heap.size x ∧ C5 z (w.heap.size + 1) y)
    (first | (refine SK.out _ ?_; first | (with_reducible exact Below.refl _ _) | (with_reducible exact (Below.refl _ _).drew) | (with_reducible exact K2) | (with_reducible exact K1)))
    (first
      | (go_at_call 19; (with_reducible refine (OX.out _).mono ?_); rintro e w1 ⟨A1, k1, c1, rfl, h11, h12, h13⟩; have K1 := k_drew h13; have T1 := Lib.hid h11; clear h11)
      | (go_at_call 19; (with_reducible refine (OY.out _).mono ?_); rintro e w2 ⟨A2, k2, c2, rfl, h21, h22, h23⟩; have K2 := K1.trans (h23.mono K1.size); have T2 := Lib.hid h21; clear h21))
  have T := Lib.hid (show Two W0 w2 w.heap.size (w.heap.size + 1) x y A1 k1 A2 k2 from ⟨(SK.out _ K2).1, (SK.out _ K2).2, T1.out.below h23, T2.out, by rw [← sl_len T1.out]; exact len16 (mod_lt _), by rw [← sl_len T2.out]; exact len16 (mod_lt _), TAB.out.below K2, K2⟩)
  clear SK TAB T1 T2 K1 K2 h12 h13 h22 h23 OX OY
  obtain ⟨a0, a1, a2, a3, a4⟩ := T.out.cx
  obtain ⟨b0, b1, b2, b3, b4⟩ := T.out.cy
  go_wp2_with fail
  (with_reducible refine (MUL.out _).mono ?_)
  rintro e w3 ⟨rfl, hb3⟩
  replace T := Lib.hid (T.out.keep hb3)
  clear hb3 a0 a1 a2 a3 a4 b0 b1 b2 b3 b4
  have RC := Lib.hid (RMul_any A1 A2 k1 k2 c1 c2 _ _ _ T.out.kx T.out.ky T.out.sx T.out.sy)
  go_wp2_with fail
  (with_reducible refine RC.out.mono ?_)
  intro e w4 hr
  obtain ⟨A4, k4, c4, rfl, hq⟩ := hr.slice ((Nat.mul_mod _ _ _).symm) (Below.refl _ _)
  obtain ⟨_, _, _, hq0, hq1, hq2, hb4⟩ := hq
  cases hq0
  have S := Lib.hid hq1
  replace T := Lib.hid (T.out.keep hb4)
  clear hr hq1 hq2 hb4 RC
  have IS := Lib.hid (is_any (x.val * y.val % pp) A4 k4 c4 _ (mod_lt _) S.out)
  go_wp2_with fail
  (with_reducible refine IS.out.mono ?_)
  rintro e w5 ⟨rfl, hb5⟩
  replace T := Lib.hid (T.out.keep hb5)
  clear hb5 IS S
  obtain ⟨a0, a1, a2, a3, a4⟩ := T.out.cx
  go_wp2_with fail
  (with_reducible refine (SQ.out _).mono ?_)
  rintro e w6 ⟨rfl, hb6⟩
  replace T := Lib.hid (T.out.keep hb6)
  clear hb6 a0 a1 a2 a3 a4
  have RC := Lib.hid (RMul_any A1 A1 k1 k1 c1 c1 _ _ _ T.out.kx T.out.kx T.out.sx T.out.sx)
  go_wp2_with fail
  (with_reducible refine RC.out.mono ?_)
  intro e w7 hr
  obtain ⟨A7, k7, c7, rfl, hq⟩ := hr.slice ((Nat.mul_mod _ _ _).symm) (Below.refl _ _)
  obtain ⟨_, _, _, hq0, hq1, hq2, hb7⟩ := hq
  cases hq0
  have S := Lib.hid hq1
  replace T := Lib.hid (T.out.keep hb7)
  clear hr hq1 hq2 hb7 RC
  have IS := Lib.hid (is_any (x.val * x.val % pp) A7 k7 c7 _ (mod_lt _) S.out)
  go_wp2_with fail
  (with_reducible refine IS.out.mono ?_)
  rintro e w8 ⟨rfl, hb8⟩
  replace T := Lib.hid (T.out.keep hb8)
  clear hb8 IS S
  go_wp2_with fail
  (with_reducible refine (known_any _ T.out.tab).mono ?_)
  rintro e w9 ⟨rfl, hb9⟩
  replace T := Lib.hid (T.out.keep hb9)
  clear hb9
  go_wp2_with fail
  go_ret
  exact ⟨rfl, below_nx HB.out (Nat.le_refl _) T.out.bel⟩
end Go.Proofs.YteechlkccmcpfaaDoor.Fd
