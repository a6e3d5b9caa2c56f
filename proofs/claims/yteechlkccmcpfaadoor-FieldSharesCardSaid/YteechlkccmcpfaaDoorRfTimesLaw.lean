/-
  Scalars added and multiplied: the walk of the law.
-/
import Derived.Test.YteechlkccmcpfaaDoorFsScalar
import Derived.Test.YteechlkccmcpfaaDoorFdBack
namespace Go.Proofs.YteechlkccmcpfaaDoor.Fd
open Go.RowKit Go.Proofs.YteechlkccmcpfaaDoor.Gn Go.Deep
set_option linter.unusedVariables false

/-- Bytes, and an error. -/
def RetE (l : List Nat) (k : Int) (w : World) (e : Ending) (w' : World) : Prop := ∃ A n c, e = .returned (.tuple #[.slice A n c, .int .i64 k]) ∧ Sl w' A n (bl l) ∧ Below w.heap.size w w'
theorem RetYE.e {l : List Nat} {w w' : World} {e : Ending} (h : RetYE l w e w') : RetE l 0 w e w' := by
  obtain ⟨g, rfl, h1, h2, h3⟩ := h
  exact ⟨_, _, _, rfl, bl_sl h2 rfl, h3⟩
theorem NoneE.e {w w' : World} {e : Ending} (h : NoneE w e w') : RetE [] 1 w e w' := by
  obtain ⟨rfl, h2⟩ := h
  exact ⟨_, _, _, rfl, Sl.nil_ _ _, h2⟩
theorem nil_lt : ∀ x ∈ ([] : List Nat), x < 256 := fun x h => absurd h (by simp)
set_option maxHeartbeats 2000000 in
theorem times_long_walk {w : World} (tab : Tab w) (A B C : Option Addr) (n m k ca cb cc : Nat) (h : 100 < n ∨ 100 < m ∨ 100 < k) :
    Calls Tryd.prog 11 #[.slice A n ca, .slice B m cb, .slice C k cc] w fun e w' => e = .returned (.bool true) ∧ Below w.heap.size w w' := by
  have KN := Lib.hid (known_any w tab)
  obtain ⟨b1, h1⟩ : ∃ b, decide ((100 : Int) < (n : Int)) = b := ⟨_, rfl⟩
  obtain ⟨b2, h2⟩ : ∃ b, decide ((100 : Int) < (m : Int)) = b := ⟨_, rfl⟩
  obtain ⟨b3, h3⟩ : ∃ b, decide ((100 : Int) < (k : Int)) = b := ⟨_, rfl⟩
  have H : (b1 || (b2 || b3)) = true := by
    rw [← h1, ← h2, ← h3]; simp; omega
  clear h tab
  cases b1 <;> cases b2 <;> cases b3 <;> first
    | (exact absurd H (by decide))
    | (clear H
       go_enter Tryd.func11, Tryd.ntmps11
       go_wp2_with fail
       (with_reducible refine KN.out.mono ?_)
       rintro e w1 ⟨rfl, hb1⟩
       go_wp2_with fail
       go_ret
       exact ⟨rfl, hb1⟩)
set_option maxHeartbeats 2000000 in
theorem times_walk {w : World} (tab : Tab w) (A B C : Option Addr) (n m k ca cb cc : Nat) (hn : n ≤ 100) (hm : m ≤ 100) (hk : k ≤ 100) (L : List Nat) (E : Int) (hL : ∀ x ∈ L, x < 256)
    (D1 : ∀ u, Below w.heap.size w u → Calls Tryd.prog 45 #[.slice A n ca, .slice B m cb, .slice C k cc] u (RetE L E u))
    (D2 : ∀ u, Below w.heap.size w u → Calls Tryd.prog 46 #[.slice A n ca, .slice B m cb, .slice C k cc] u (RetE L E u)) :
    Calls Tryd.prog 11 #[.slice A n ca, .slice B m cb, .slice C k cc] w fun e w' => e = .returned (.bool true) ∧ Below w.heap.size w w' := by
  have D1 := Lib.hid D1
  have D2 := Lib.hid D2
  have TB := Lib.hid tab
  have HL := Lib.hid hL
  have t0 : decide ((100 : Int) < (n : Int)) = false := by simp; omega
  have t1 : decide ((100 : Int) < (m : Int)) = false := by simp; omega
  have t2 : decide ((100 : Int) < (k : Int)) = false := by simp; omega
  clear tab hn hm hk hL
  go_enter Tryd.func11, Tryd.ntmps11
  go_wp2_with fail
  (with_reducible refine (D1.out _ (Below.refl _ _)).mono ?_)
  rintro e w1 ⟨A1, n1, c1, rfl, s1, hb1⟩
  have W1 := Lib.hid hb1
  have S1 := Lib.hid s1
  clear hb1 s1 D1
  go_wp2_with fail
  (with_reducible refine (D2.out _ W1.out).mono ?_)
  rintro e w2 ⟨A2, n2, c2, rfl, s2, hb2⟩
  have W2 := Lib.hid (bel_n3 W1.out hb2)
  have SB := samebytes_any A1 A2 n1 n2 c1 c2 L L w2 HL.out HL.out (S1.out.below hb2) s2
  rw [beq_self_eq_true] at SB
  have SB := Lib.hid SB
  clear hb2 s2 D2
  go_wp2_with fail
  (with_reducible refine SB.out.mono ?_)
  rintro e w3 ⟨rfl, rfl⟩
  clear SB
  go_wp2_with fail
  (with_reducible refine (known_any _ (TB.out.below W2.out)).mono ?_)
  rintro e w4 ⟨rfl, hb4⟩
  have W4 := Lib.hid (bel_n3 W2.out hb4)
  clear hb4
  go_wp2_with fail
  go_ret
  exact ⟨rfl, W4.out⟩
theorem walk_fieldTimes {w : World} (tab : Tab w ∧ TabL w) (A : Option Addr) (n ca : Nat) (a : List Nat) (ha : BL w A n ca a) (B : Option Addr) (m cb : Nat) (b : List Nat) (hb : BL w B m cb b) (C : Option Addr) (k cc : Nat) (c : List Nat) (hc : BL w C k cc c) :
    Calls Tryd.prog 11 #[.slice A n ca, .slice B m cb, .slice C k cc] w fun e w' => e = .returned (.bool true) ∧ Below w.heap.size w w' := by
  by_cases h : 100 < n ∨ 100 < m ∨ 100 < k
  · exact times_long_walk tab.1 A B C n m k ca cb cc h
  · by_cases h2 : 32 < n ∨ 32 < m ∨ 32 < k
    · exact times_walk tab.1 A B C n m k ca cb cc (by omega) (by omega) (by omega) [] 1 nil_lt
        (fun u _ => (Times_long A B C n m k ca cb cc u h2 (by omega) (by omega) (by omega)).mono fun e w' h => h.e)
        (fun u _ => (RTimes_long A B C n m k ca cb cc u h2 (by omega) (by omega) (by omega)).mono fun e w' h => h.e)
    · exact times_walk tab.1 A B C n m k ca cb cc (by omega) (by omega) (by omega) (by_ ((le a * le b + le c) % Lq) 32) 0 (by_lt _ _)
        (fun u hu => (Times_any A B C n m k ca cb cc a b c u (tab.2.below hu) (by omega) (by omega) (by omega) ha.2.2.1 hb.2.2.1 hc.2.2.1 (ha.1.below hu) (hb.1.below hu) (hc.1.below hu)).mono fun e w' h => h.e)
        (fun u hu => (RTimes_any A B C n m k ca cb cc a b c u (by omega) (by omega) (by omega) ha.2.2.1 hb.2.2.1 hc.2.2.1 (ha.1.below hu) (hb.1.below hu) (hc.1.below hu)).mono fun e w' h => h.e)
end Go.Proofs.YteechlkccmcpfaaDoor.Fd
