/-
  A square has a root, and of any quotient, or twice it, there is one: the walk of the law.
-/
import Derived.Test.YtckjkccpfaidmaaDoorFdOpen
import Derived.Deep.RegionWith
namespace Go.Proofs.YtckjkccpfaidmaaDoor.Fd
open Go.RowKit Go.Proofs.YtckjkccpfaidmaaDoor.Gn Go.Deep
set_option linter.unusedVariables false

theorem rt_mod (u v : Nat) : rt u v = rt (u % pp) (v % pp) := by
  have hu : cg u (u % pp) := (cg.mod u).symm
  have hv : cg v (v % pp) := (cg.mod v).symm
  have h1 : u * v ^ 3 * (u * v ^ 7) ^ e8 % pp = u % pp * (v % pp) ^ 3 * (u % pp * (v % pp) ^ 7) ^ e8 % pp := (hu.mul (hv.pow 3)).mul ((hu.mul (hv.pow 7)).pow e8)
  have h2 : ng u = ng (u % pp) := by unfold ng; rw [Nat.mod_mod]
  unfold rt
  rw [h1, h2, Nat.mod_mod]
  dsimp only
  generalize u % pp * (v % pp) ^ 3 * (u % pp * (v % pp) ^ 7) ^ e8 % pp = r
  have h3 : r * r * v % pp = r * r * (v % pp) % pp := (cg.rfl' (r * r)).mul hv
  rw [h3]
theorem RootQ_some {o : Option Nat} {e : Ending} (h : RootQ o e) : ∃ z : E5, e = .returned (.tuple #[.agg #[.int .u64 (z.a : Int), .int .u64 (z.b : Int), .int .u64 (z.c : Int), .int .u64 (z.d : Int), .int .u64 (z.e : Int)], .bool o.isSome]) := by
  cases o with
  | some r => exact ⟨el r, h⟩
  | none => exact ⟨⟨0, 0, 0, 0, 0⟩, h⟩
set_option maxRecDepth 100000 in
set_option maxHeartbeats 4000000 in
theorem squares_walk {w : World} (tab : Tab w) (x y sq r ne ad : E5) (b1 bv ba o1 o2 : Bool) (h12 : bv = false → ba = false → o1 = !o2)
    (SQ : ∀ w, Calls Tryd.prog 33 #[(.agg #[.int .u64 (x.a : Int), .int .u64 (x.b : Int), .int .u64 (x.c : Int), .int .u64 (x.d : Int), .int .u64 (x.e : Int)])] w fun e w' => e = .returned (.agg #[.int .u64 (sq.a : Int), .int .u64 (sq.b : Int), .int .u64 (sq.c : Int), .int .u64 (sq.d : Int), .int .u64 (sq.e : Int)]) ∧ Below w.heap.size w w')
    (S1 : ∀ w, Calls Tryd.prog 24 #[.int .u64 1] w fun e w' => e = .returned (.agg #[.int .u64 1, .int .u64 0, .int .u64 0, .int .u64 0, .int .u64 0]) ∧ Below w.heap.size w w')
    (R1 : ∀ w, Tab w → Calls Tryd.prog 41 #[(.agg #[.int .u64 (sq.a : Int), .int .u64 (sq.b : Int), .int .u64 (sq.c : Int), .int .u64 (sq.d : Int), .int .u64 (sq.e : Int)]), (.agg #[.int .u64 1, .int .u64 0, .int .u64 0, .int .u64 0, .int .u64 0])] w fun e w' => e = .returned (.tuple #[(.agg #[.int .u64 (r.a : Int), .int .u64 (r.b : Int), .int .u64 (r.c : Int), .int .u64 (r.d : Int), .int .u64 (r.e : Int)]), .bool true]) ∧ Below w.heap.size w w')
    (SM : ∀ w, Calls Tryd.prog 34 #[(.agg #[.int .u64 (r.a : Int), .int .u64 (r.b : Int), .int .u64 (r.c : Int), .int .u64 (r.d : Int), .int .u64 (r.e : Int)]), (.agg #[.int .u64 (x.a : Int), .int .u64 (x.b : Int), .int .u64 (x.c : Int), .int .u64 (x.d : Int), .int .u64 (x.e : Int)])] w fun e w' => e = .returned (.bool b1) ∧ Below w.heap.size w w')
    (NE : ∀ w, Calls Tryd.prog 30 #[(.agg #[.int .u64 (x.a : Int), .int .u64 (x.b : Int), .int .u64 (x.c : Int), .int .u64 (x.d : Int), .int .u64 (x.e : Int)])] w fun e w' => e = .returned (.agg #[.int .u64 (ne.a : Int), .int .u64 (ne.b : Int), .int .u64 (ne.c : Int), .int .u64 (ne.d : Int), .int .u64 (ne.e : Int)]) ∧ Below w.heap.size w w')
    (SN : b1 = false → ∀ w, Calls Tryd.prog 34 #[(.agg #[.int .u64 (r.a : Int), .int .u64 (r.b : Int), .int .u64 (r.c : Int), .int .u64 (r.d : Int), .int .u64 (r.e : Int)]), (.agg #[.int .u64 (ne.a : Int), .int .u64 (ne.b : Int), .int .u64 (ne.c : Int), .int .u64 (ne.d : Int), .int .u64 (ne.e : Int)])] w fun e w' => e = .returned (.bool true) ∧ Below w.heap.size w w')
    (OD : ∀ w, Calls Tryd.prog 36 #[(.agg #[.int .u64 (r.a : Int), .int .u64 (r.b : Int), .int .u64 (r.c : Int), .int .u64 (r.d : Int), .int .u64 (r.e : Int)])] w fun e w' => e = .returned (.bool false) ∧ Below w.heap.size w w')
    (SV : ∀ w, Calls Tryd.prog 34 #[(.agg #[.int .u64 (y.a : Int), .int .u64 (y.b : Int), .int .u64 (y.c : Int), .int .u64 (y.d : Int), .int .u64 (y.e : Int)]), (.agg #[.int .u64 0, .int .u64 0, .int .u64 0, .int .u64 0, .int .u64 0])] w fun e w' => e = .returned (.bool bv) ∧ Below w.heap.size w w')
    (SA : ∀ w, Calls Tryd.prog 34 #[(.agg #[.int .u64 (x.a : Int), .int .u64 (x.b : Int), .int .u64 (x.c : Int), .int .u64 (x.d : Int), .int .u64 (x.e : Int)]), (.agg #[.int .u64 0, .int .u64 0, .int .u64 0, .int .u64 0, .int .u64 0])] w fun e w' => e = .returned (.bool ba) ∧ Below w.heap.size w w')
    (R2 : ∀ w, Tab w → Calls Tryd.prog 41 #[(.agg #[.int .u64 (x.a : Int), .int .u64 (x.b : Int), .int .u64 (x.c : Int), .int .u64 (x.d : Int), .int .u64 (x.e : Int)]), (.agg #[.int .u64 (y.a : Int), .int .u64 (y.b : Int), .int .u64 (y.c : Int), .int .u64 (y.d : Int), .int .u64 (y.e : Int)])] w fun e w' => (∃ z : E5, e = .returned (.tuple #[(.agg #[.int .u64 (z.a : Int), .int .u64 (z.b : Int), .int .u64 (z.c : Int), .int .u64 (z.d : Int), .int .u64 (z.e : Int)]), .bool o1])) ∧ Below w.heap.size w w')
    (AD : ∀ w, Calls Tryd.prog 26 #[(.agg #[.int .u64 (x.a : Int), .int .u64 (x.b : Int), .int .u64 (x.c : Int), .int .u64 (x.d : Int), .int .u64 (x.e : Int)]), (.agg #[.int .u64 (x.a : Int), .int .u64 (x.b : Int), .int .u64 (x.c : Int), .int .u64 (x.d : Int), .int .u64 (x.e : Int)])] w fun e w' => e = .returned (.agg #[.int .u64 (ad.a : Int), .int .u64 (ad.b : Int), .int .u64 (ad.c : Int), .int .u64 (ad.d : Int), .int .u64 (ad.e : Int)]) ∧ Below w.heap.size w w')
    (R3 : ∀ w, Tab w → Calls Tryd.prog 41 #[(.agg #[.int .u64 (ad.a : Int), .int .u64 (ad.b : Int), .int .u64 (ad.c : Int), .int .u64 (ad.d : Int), .int .u64 (ad.e : Int)]), (.agg #[.int .u64 (y.a : Int), .int .u64 (y.b : Int), .int .u64 (y.c : Int), .int .u64 (y.d : Int), .int .u64 (y.e : Int)])] w fun e w' => (∃ z : E5, e = .returned (.tuple #[(.agg #[.int .u64 (z.a : Int), .int .u64 (z.b : Int), .int .u64 (z.c : Int), .int .u64 (z.d : Int), .int .u64 (z.e : Int)]), .bool o2])) ∧ Below w.heap.size w w') :
    Calls Tryd.prog 13 #[.agg x.v, .agg y.v] w fun e w' => e = .returned (.bool true) ∧ Below w.heap.size w w' := by
  have TAB := Lib.hid tab
  have H12 := Lib.hid h12
  replace SQ := Lib.hid SQ
  replace S1 := Lib.hid S1
  replace R1 := Lib.hid R1
  replace SM := Lib.hid SM
  replace NE := Lib.hid NE
  replace SN := Lib.hid SN
  replace OD := Lib.hid OD
  replace SV := Lib.hid SV
  replace SA := Lib.hid SA
  replace R2 := Lib.hid R2
  replace AD := Lib.hid AD
  replace R3 := Lib.hid R3
  obtain ⟨B1, B2, B3⟩ := box2 w x y
  have HX := Lib.hid B1
  have HY := Lib.hid B2
  have HB := Lib.hid B3
  have hyl : w.heap.size + 1 < ((w.alloc (.cells x.v 25)).alloc (.cells y.v 25)).heap.size := by simp
  obtain ⟨a0, a1, a2, a3, a4⟩ := c5_of B1
  clear tab h12 B1 B2 B3
  go_enter Tryd.func13, Tryd.ntmps13
  go_wp2_with fail
  refine (SQ.out _).mono ?_
  rintro e w1 ⟨rfl, hb1⟩
  have D1 := Lib.hid (below_nx HB.out (Nat.le_refl _) hb1)
  have HX1 := Lib.hid (HX.out.below' hb1)
  have HY1 := Lib.hid (HY.out.below' hb1)
  clear hb1 a0 a1 a2 a3 a4 HB HX HY hyl
  go_wp2_with fail
  refine (S1.out _).mono ?_
  rintro e w2 ⟨rfl, hb2⟩
  have D2 := Lib.hid (below_nx D1.out (Nat.le_refl _) hb2)
  have HX2 := Lib.hid (HX1.out.below' hb2)
  have HY2 := Lib.hid (HY1.out.below' hb2)
  clear hb2 D1 HX1 HY1
  go_wp2_with fail
  refine (R1.out _ (TAB.out.below D2.out)).mono ?_
  rintro e w3 ⟨rfl, hb3⟩
  have D3 := Lib.hid (below_nx D2.out (Nat.le_refl _) hb3)
  have HX3 := Lib.hid ((HX2.out.below' hb3).alloc (.cells r.v 25))
  have HY3 := Lib.hid ((HY2.out.below' hb3).alloc (.cells r.v 25))
  have HR3 := Lib.hid (Bl.new_ w3 25 r.v)
  have D3b := Lib.hid (D3.out.alloc D3.out.size (.cells r.v 25))
  clear hb3 D2 HX2 HY2 D3
  have SK := Lib.hid (show ∀ z : World, Below (w3.alloc (.cells r.v 25)).heap.size (w3.alloc (.cells r.v 25)) z → C5 z w.heap.size x ∧ C5 z w3.heap.size r from fun z h => ⟨c5_of (Bl.below' HX3.out h), c5_of (Bl.below' HR3.out h)⟩)
  go_upto_region 2 with fail
  change Code.wp _ _ _ _ (w3.alloc (.cells r.v 25))
  have hw3 : w3.heap.size + 1 = (w3.alloc (.cells r.v 25)).heap.size := by simp
  obtain ⟨g, hg⟩ : ∃ g, w3.heap.size = g := ⟨_, rfl⟩
  rw [hg] at SK
  simp only [hg] at HX3 HY3 HR3 D3b ⊢
  generalize w3.alloc (.cells r.v 25) = W3 at *
  clear HR3 hw3 hg
  go_cut [36] (fun s wx => s = .bool false ∧ Below W3.heap.size W3 wx)
  case first =>
    cases b1
    · replace SN := Lib.hid (SN.out rfl)
      go_region_held3 (fun z => C5 z w.heap.size x ∧ C5 z g r)
        (first | (refine SK.out _ ?_; first | (with_reducible exact Below.refl _ _) | (with_reducible exact (Below.refl _ _).drew) | (with_reducible exact KK)))
        (((first
          | (go_at_call 34; (first | (with_reducible refine (SM.out _).mono ?_) | (with_reducible refine (SN.out _).mono ?_)))
          | (go_at_call 30; (with_reducible refine (NE.out _).mono ?_))
          | (go_at_call 36; (with_reducible refine (OD.out _).mono ?_))); rintro e wk ⟨rfl, hbk⟩; first | (with_reducible (have KK := KK.trans (hbk.mono KK.size))) | (with_reducible (have KK := k_drew hbk))))
      all_goals go_wp2_with fail
      all_goals go_meet
      all_goals exact ⟨rfl, KK⟩
    · clear SN
      obtain ⟨⟨a0, a1, a2, a3, a4⟩, b0, b1, b2, b3, b4⟩ := SK.out W3 (Below.refl _ _)
      go_region_with (((first
          | (go_at_call 34; with_reducible refine (SM.out _).mono ?_)
          | (go_at_call 36; with_reducible refine (OD.out _).mono ?_)); rintro e wk ⟨rfl, hbk⟩; first | (with_reducible (have KK := KK.trans (hbk.mono KK.size))) | (with_reducible (have KK := k_drew hbk)); obtain ⟨-, q0, q1, q2, q3, q4⟩ := SK.out _ KK))
      all_goals go_wp2_with fail
      all_goals go_meet
      all_goals exact ⟨rfl, KK⟩
  case rest =>
    obtain ⟨rfl, hbw⟩ := hcut
    have D4 := Lib.hid (below_nx D3b.out (Nat.le_refl _) hbw)
    have HX4 := Lib.hid (HX3.out.below' hbw)
    have HY4 := Lib.hid (HY3.out.below' hbw)
    obtain ⟨c0, c1, c2, c3, c4⟩ := c5_of HY4.out
    clear hbw SK HX3 HY3 D3b
    go_wp2_with fail
    refine (SV.out _).mono ?_
    rintro e w5 ⟨rfl, hb5⟩
    have D5 := Lib.hid (below_nx D4.out (Nat.le_refl _) hb5)
    have HX5 := Lib.hid (HX4.out.below' hb5)
    have HY5 := Lib.hid (HY4.out.below' hb5)
    clear hb5 c0 c1 c2 c3 c4 D4 HX4 HY4
    cases bv
    case true =>
      go_wp2_with (go_at_call 25; refine (known_any _ (TAB.out.below D5.out)).mono ?_; rintro e w6 ⟨rfl, hb6⟩; have D6 := Lib.hid (below_nx D5.out (Nat.le_refl _) hb6); clear hb6)
      go_ret
      exact ⟨rfl, D6.out⟩
    case false =>
      obtain ⟨a0, a1, a2, a3, a4⟩ := c5_of HX5.out
      go_wp2_with fail
      refine (SA.out _).mono ?_
      rintro e w6 ⟨rfl, hb6⟩
      have D6 := Lib.hid (below_nx D5.out (Nat.le_refl _) hb6)
      have HX6 := Lib.hid (HX5.out.below' hb6)
      have HY6 := Lib.hid (HY5.out.below' hb6)
      clear hb6 a0 a1 a2 a3 a4 D5 HX5 HY5
      cases ba
      case true =>
        go_wp2_with (go_at_call 25; refine (known_any _ (TAB.out.below D6.out)).mono ?_; rintro e w7 ⟨rfl, hb7⟩; have D7 := Lib.hid (below_nx D6.out (Nat.le_refl _) hb7); clear hb7)
        go_ret
        exact ⟨rfl, D7.out⟩
      case false =>
        have ho := H12.out
        simp only [forall_const] at ho
        subst ho
        obtain ⟨a0, a1, a2, a3, a4⟩ := c5_of HX6.out
        obtain ⟨c0, c1, c2, c3, c4⟩ := c5_of HY6.out
        go_wp2_with fail
        refine (R2.out _ (TAB.out.below D6.out)).mono ?_
        rintro e w7 ⟨⟨z, rfl⟩, hb7⟩
        have D7 := Lib.hid ((below_nx D6.out (Nat.le_refl _) hb7).alloc (below_nx D6.out (Nat.le_refl _) hb7).size (.cells z.v 25))
        have HX7 := Lib.hid ((HX6.out.below' hb7).alloc (.cells z.v 25))
        have HY7 := Lib.hid ((HY6.out.below' hb7).alloc (.cells z.v 25))
        clear hb7 a0 a1 a2 a3 a4 c0 c1 c2 c3 c4 D6 HX6 HY6
        go_upto_region 7 with fail
        change Code.wp _ _ _ _ (w7.alloc (.cells z.v 25))
        obtain ⟨g7, hg7⟩ : ∃ g, w7.heap.size = g := ⟨_, rfl⟩
        simp only [hg7]
        generalize w7.alloc (.cells z.v 25) = W7 at *
        clear hg7
        have SK := Lib.hid (show ∀ z : World, Below W7.heap.size W7 z → C5 z w.heap.size x ∧ C5 z (w.heap.size + 1) y from fun z h => ⟨c5_of (Bl.below' HX7.out h), c5_of (Bl.below' HY7.out h)⟩)
        have TK := Lib.hid (show ∀ z : World, Below W7.heap.size W7 z → Tab z from fun z h => TAB.out.below (below_nx D7.out (Nat.le_refl _) h))
        go_cut [10] (fun s wx => s = .bool o2 ∧ Below W7.heap.size W7 wx)
        case first =>
          go_region_held3 (fun z => C5 z w.heap.size x ∧ C5 z (w.heap.size + 1) y)
            (first | (refine SK.out _ ?_; first | (with_reducible exact Below.refl _ _) | (with_reducible exact (Below.refl _ _).drew) | (with_reducible exact ((Below.refl _ _).drew).alloc (Nat.le_refl _) _) | (with_reducible exact ((Below.refl _ _).alloc (Nat.le_refl _) _).drew) | (with_reducible exact K1) | (with_reducible exact K1.alloc K1.size _) | (with_reducible exact K2) | (with_reducible exact K2.alloc K2.size _) | ((iterate 5 (refine Below.setCell ?_ (by first | exact Nat.le_refl _ | exact K1.size | exact K2.size) _)); with_reducible exact K2)))
            (first | (go_at_call 26; (with_reducible refine (Hid.out AD _).mono ?_); rintro e w1 ⟨rfl, hb1⟩; (first | (with_reducible (have K1 := k_alloc_drew hb1)) | (with_reducible (have K1 := k_drew_alloc hb1)) | (with_reducible (have K1 := k_drew hb1))); (try (first | (with_reducible (have m1 := m_alloc_drew hb1)) | (with_reducible (have m1 := m_drew_alloc hb1))))) | (go_at_call 41; (with_reducible refine (Hid.out R3 _ (TK.out _ (by first | (with_reducible exact K1) | (with_reducible exact K1.alloc K1.size _)))).mono ?_); rintro e w2 ⟨⟨q, rfl⟩, hb2⟩; (first | (with_reducible (have K2 := K1.trans (hb2.mono K1.size))) | (with_reducible (have K2 := K1.trans ((k_alloc' hb2).mono K1.size)))); (first | (with_reducible (have m2 := m_alloc' hb2)) | (with_reducible (have m2 := m1.below' hb2)) | skip); (try (have z0 := (cells5 m2).1.1)); (try (have z1 := (cells5 m2).1.2.1)); (try (have z2 := (cells5 m2).1.2.2.1)); (try (have z3 := (cells5 m2).1.2.2.2.1)); (try (have z4 := (cells5 m2).1.2.2.2.2)); (try (have f0 := (cells5 m2).2.1)); (try (have f1 := (cells5 m2).2.2.1)); (try (have f2 := (cells5 m2).2.2.2.1)); (try (have f3 := (cells5 m2).2.2.2.2.1)); (try (have f4 := (cells5 m2).2.2.2.2.2))))
          all_goals go_wp2_with fail
          all_goals go_meet
          · exact ⟨rfl, K2.alloc K2.size _⟩
          · exact ⟨rfl, set5_below K2 K1.size _ _ _ _ _⟩
          · exact ⟨rfl, set5_below K2 (Nat.le_refl _) _ _ _ _ _⟩
        case rest =>
          obtain ⟨rfl, hbw⟩ := hcut
          have D8 := Lib.hid (below_nx D7.out (Nat.le_refl _) hbw)
          clear hbw SK TK HX7 HY7 D7
          cases o2
          all_goals
            go_wp2_with (go_at_call 25; refine (known_any _ (TAB.out.below D8.out)).mono ?_; rintro e w9 ⟨rfl, hb9⟩; have D9 := Lib.hid (below_nx D8.out (Nat.le_refl _) hb9); clear hb9)
            go_ret
            exact ⟨rfl, D9.out⟩
theorem walk_fieldSquares {w : World} (tab : Tab w) (x : E5) (hx : x.ok) (y : E5) (hy : y.ok) : Calls Tryd.prog 13 #[.agg x.v, .agg y.v] w fun e w' => e = .returned (.bool true) ∧ Below w.heap.size w w' := by
  obtain ⟨r, h1, h2, h3, h4⟩ := rr_square (a := x.val)
  have h1' : rt (x.val * x.val % pp) 1 = some r := by rw [rt_eq _ _ (mod_lt _) pp_one]; exact h1
  have sq := el_ok (mod_lt (x.val * x.val))
  have one : (el 1).ok := el_ok pp_one
  have ro : (el r).ok := el_ok h2
  have no : (el (ng x.val)).ok := el_ok (ng_lt _)
  have ao := el_ok (mod_lt (x.val + x.val))
  have z0 : (⟨0, 0, 0, 0, 0⟩ : E5).ok := by unfold E5.ok; decide
  refine squares_walk tab x y (el (x.val * x.val % pp)) (el r) (el (ng x.val)) (el ((x.val + x.val) % pp)) (decide (r % pp = x.val % pp)) (decide (y.val % pp = 0)) (decide (x.val % pp = 0)) (rt x.val y.val).isSome (rt ((x.val + x.val) % pp) y.val).isSome ?_ ?_ ?_ ?_ ?_ ?_ ?_ ?_ ?_ ?_ ?_ ?_ ?_
  · intro hv hu
    have hv := of_decide_eq_false hv
    have hu := of_decide_eq_false hu
    have e : (x.val + x.val) % pp = (x.val % pp + x.val % pp) % pp := Nat.add_mod _ _ _
    rw [rt_mod x.val y.val, rt_mod ((x.val + x.val) % pp) y.val, Nat.mod_mod, e, rt_eq _ _ (mod_lt _) (mod_lt _), rt_eq _ _ (mod_lt _) (mod_lt _)]
    have := rr_twice (mod_lt x.val) hu (mod_lt y.val) hv
    revert this
    generalize (rr (x.val % pp) (y.val % pp)).isSome = b
    generalize (rr ((x.val % pp + x.val % pp) % pp) (y.val % pp)).isSome = c
    intro h
    cases b <;> cases c <;> first | rfl | exact absurd rfl h
  · exact fun w => Square_any x w hx
  · exact fun w => Small_any 1 w (by decide)
  · intro w t
    have := Root_any (el (x.val * x.val % pp)) (el 1) w sq one t
    rw [el_val, el_val, h1'] at this
    exact this
  · intro w
    have := Same_any (el r) x w ro hx
    rwa [el_val] at this
  · exact fun w => Neg_any x w hx
  · intro hb w
    have := Same_any (el r) (el (ng x.val)) w ro no
    rw [el_val, el_val] at this
    have hn : r % pp = ng x.val % pp := by
      rcases h4 with h4 | h4
      · exact absurd h4 (of_decide_eq_false (p := r % pp = x.val % pp) hb)
      · exact h4.trans (ng_cg x.val).symm
    rwa [decide_eq_true hn] at this
  · intro w
    have := Odd_any (el r) w ro
    rw [el_val, Nat.mod_eq_of_lt h2, decide_eq_false (by omega)] at this
    exact this
  · intro w
    have := Same_any y ⟨0, 0, 0, 0, 0⟩ w hy z0
    rwa [show (⟨0, 0, 0, 0, 0⟩ : E5).val % pp = 0 from Nat.zero_mod _] at this
  · intro w
    have := Same_any x ⟨0, 0, 0, 0, 0⟩ w hx z0
    rwa [show (⟨0, 0, 0, 0, 0⟩ : E5).val % pp = 0 from Nat.zero_mod _] at this
  · exact fun w t => (Root_any x y w hx hy t).mono fun e w' h => ⟨RootQ_some h.1, h.2⟩
  · exact fun w => Add_any x x w hx hx
  · intro w t
    have := Root_any (el ((x.val + x.val) % pp)) y w ao hy t
    rw [el_val] at this
    exact this.mono fun e w' h => ⟨RootQ_some h.1, h.2⟩
end Go.Proofs.YtckjkccpfaidmaaDoor.Fd
