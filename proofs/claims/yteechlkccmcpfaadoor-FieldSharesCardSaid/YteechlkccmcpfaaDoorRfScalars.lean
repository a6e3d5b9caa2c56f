/-
  Scalars told and folded: the walk of the law.
-/
import Derived.Test.YteechlkccmcpfaaDoorRfTimesLaw
namespace Go.Proofs.YteechlkccmcpfaaDoor.Fd
open Go.RowKit Go.Proofs.YteechlkccmcpfaaDoor.Gn Go.Deep
set_option linter.unusedVariables false

set_option maxHeartbeats 2000000 in
theorem scalars_long {w : World} (tab : Tab w) (A : Option Addr) (n ca : Nat) (h : 200 < n) :
    Calls Tryd.prog 10 #[.slice A n ca] w fun e w' => e = .returned (.bool true) ∧ Below w.heap.size w w' := by
  have KN := Lib.hid (known_any w tab)
  have t0 : decide ((200 : Int) < (n : Int)) = true := by simp; omega
  clear h tab
  go_enter Tryd.func10, Tryd.ntmps10
  go_wp2_with fail
  (with_reducible refine KN.out.mono ?_)
  rintro e w1 ⟨rfl, hb1⟩
  go_wp2_with fail
  go_ret
  exact ⟨rfl, hb1⟩
set_option maxHeartbeats 2000000 in
theorem scalars_walk {w : World} (tab : Tab w) (A : Option Addr) (n ca : Nat) (hn : n ≤ 200) (L : List Nat) (E S : Int) (hL : ∀ x ∈ L, x < 256)
    (D1 : ∀ u, Below w.heap.size w u → Calls Tryd.prog 41 #[.slice A n ca] u (RetE L E u))
    (D2 : ∀ u, Below w.heap.size w u → Calls Tryd.prog 42 #[.slice A n ca] u (RetE L E u))
    (S1 : ∀ u, Below w.heap.size w u → Calls Tryd.prog 43 #[.slice A n ca] u fun e w' => e = .returned (.int .i64 S) ∧ Below u.heap.size u w')
    (S2 : ∀ u, Below w.heap.size w u → Calls Tryd.prog 44 #[.slice A n ca] u fun e w' => e = .returned (.int .i64 S) ∧ Below u.heap.size u w') :
    Calls Tryd.prog 10 #[.slice A n ca] w fun e w' => e = .returned (.bool true) ∧ Below w.heap.size w w' := by
  have D1 := Lib.hid D1
  have D2 := Lib.hid D2
  have S1 := Lib.hid S1
  have S2 := Lib.hid S2
  have TB := Lib.hid tab
  have HL := Lib.hid hL
  have t0 : decide ((200 : Int) < (n : Int)) = false := by simp; omega
  clear tab hn hL
  go_enter Tryd.func10, Tryd.ntmps10
  go_wp2_with fail
  (with_reducible refine (D1.out _ (Below.refl _ _)).mono ?_)
  rintro e w1 ⟨A1, n1, c1, rfl, s1, hb1⟩
  have W1 := Lib.hid hb1
  have T1 := Lib.hid s1
  clear hb1 s1 D1
  go_wp2_with fail
  (with_reducible refine (D2.out _ W1.out).mono ?_)
  rintro e w2 ⟨A2, n2, c2, rfl, s2, hb2⟩
  have W2 := Lib.hid (bel_n3 W1.out hb2)
  have T2 := Lib.hid (And.intro (T1.out.below hb2) s2)
  clear hb2 s2 D2
  go_wp2_with fail
  (with_reducible refine (S1.out _ W2.out).mono ?_)
  rintro e w3 ⟨rfl, hb3⟩
  have W3 := Lib.hid (bel_n3 W2.out hb3)
  have T3 := Lib.hid (And.intro (T2.out.1.below hb3) (T2.out.2.below hb3))
  clear hb3 S1
  go_wp2_with fail
  (with_reducible refine (S2.out _ W3.out).mono ?_)
  rintro e w4 ⟨rfl, hb4⟩
  have W4 := Lib.hid (bel_n3 W3.out hb4)
  have SB := samebytes_any A1 A2 n1 n2 c1 c2 L L w4 HL.out HL.out (T3.out.1.below hb4) (T3.out.2.below hb4)
  rw [beq_self_eq_true] at SB
  have SB := Lib.hid SB
  clear hb4 S2
  go_wp2_with fail
  (with_reducible refine SB.out.mono ?_)
  rintro e w5 ⟨rfl, rfl⟩
  clear SB
  go_wp2_with fail
  (with_reducible refine (known_any _ (TB.out.below W4.out)).mono ?_)
  rintro e w6 ⟨rfl, hb6⟩
  have W6 := Lib.hid (bel_n3 W4.out hb6)
  clear hb6
  go_wp2_with fail
  go_ret
  exact ⟨rfl, W6.out⟩
theorem walk_fieldScalars {w : World} (tab : Tab w ∧ TabL w) (A : Option Addr) (n ca : Nat) (a : List Nat) (ha : BL w A n ca a) :
    Calls Tryd.prog 10 #[.slice A n ca] w fun e w' => e = .returned (.bool true) ∧ Below w.heap.size w w' := by
  by_cases h : 200 < n
  · exact scalars_long tab.1 A n ca h
  · have S1 := fun u (hu : Below w.heap.size w u) => Scalar_any A n ca a u (tab.2.below hu) (by omega) ha.2.2.1 (ha.1.below hu)
    have S2 := fun u (hu : Below w.heap.size w u) => RScalar_any A n ca a u (by omega) ha.2.2.1 (ha.1.below hu)
    by_cases h2 : 64 < n
    · exact scalars_walk tab.1 A n ca (by omega) [] 1 _ nil_lt
        (fun u _ => (Fold_long A n ca u h2 (by omega)).mono fun e w' h => h.e)
        (fun u _ => (RFold_long A n ca u h2 (by omega)).mono fun e w' h => h.e) S1 S2
    · exact scalars_walk tab.1 A n ca (by omega) (by_ (le a % Lq) 32) 0 _ (by_lt _ _)
        (fun u hu => (Fold_any A n ca a u (tab.2.below hu) (by omega) ha.2.2.1 (ha.1.below hu)).mono fun e w' h => h.e)
        (fun u hu => (RFold_any A n ca a u (by omega) ha.2.2.1 (ha.1.below hu)).mono fun e w' h => h.e) S1 S2
end Go.Proofs.YteechlkccmcpfaaDoor.Fd
