/-
  The law: both sides put numbers in the same order.
-/
import Derived.Test.YtdiihpnfeeediaaSoOrder
import Derived.Test.YtdiihpnfeeediaaSoRef
namespace Go.Proofs.Ytdiihpnfeeediaa.Sc
open Go.RowKit Go.Proofs.Ytdiihpnfeeediaa.So
set_option linter.unusedVariables false

theorem known_b (w : World) : Calls Try.prog 5 #[] w fun e w' => e = .returned (.bool true) ∧ Below w.heap.size w w' := known_any w
set_option maxHeartbeats 1000000 in
theorem walk_scoreOrders {w : World} (A : Option Addr) (n c : Nat) (l : List Nat) (hf : FL w A n l) :
    Calls Try.prog 3 #[.slice A n c] w fun e w' => e = .returned (.bool true) ∧ Below w.heap.size w w' := by
  have HF := Lib.hid hf
  have hn := hf.2.1
  clear hf
  by_cases h : 100 < n
  · have hd : decide (100 < (n : Int)) = true := decide_eq_true (by omega)
    go_enter Try.func3, Try.ntmps3
    go_wp2_with (go_at_call 5; refine (known_any _).mono ?_; rintro e w' ⟨rfl, hb⟩)
    go_ret
    exact ⟨rfl, hb⟩
  · have hd : decide (100 < (n : Int)) = false := decide_eq_false (by omega)
    have hd' : ¬ (100 : Int) < (n : Int) := by omega
    go_enter Try.func3, Try.ntmps3
    go_wp2_with fail
    refine (order_any HF.out (by omega)).mono ?_
    rintro e w1 ⟨g, cap, o, rfl, s1, ho, b1⟩
    have S1 := Lib.hid s1
    have B1 := Lib.hid b1
    have HO := Lib.hid (ho.eq (ordered_rord l n))
    have F1 := Lib.hid (show FL w1 A n l from ⟨HF.out.1.below b1, HF.out.2.1, HF.out.2.2⟩)
    clear s1 ho b1
    go_wp2_with fail
    refine (rorder_any F1.out (by omega)).mono ?_
    rintro e w2 ⟨v, rfl, own2, b2⟩
    obtain ⟨A2, c2, rfl, s2, -, -⟩ := Sl.own own2
    have B2 := Lib.hid (B1.out.trans (b2.mono B1.out.size))
    have S2 := Lib.hid (show Sl w2 A2 n (il o) by rw [HO.out]; exact s2)
    have S1' := Lib.hid (S1.out.below b2)
    have F2 := Lib.hid (show FL w2 A n l from ⟨HF.out.1.below B2.out, HF.out.2.1, HF.out.2.2⟩)
    clear own2 b2 s2 S1 F1 B1
    go_wp2_with fail
    refine (sameInts_any S1'.out S2.out (by omega)).mono ?_
    rintro e w3 ⟨rfl, m3, rfl⟩
    have F3 := Lib.hid (show FL (w2.drewN m3) A n l from ⟨drew_sl F2.out.1 m3, F2.out.2.1, F2.out.2.2⟩)
    have B3 := Lib.hid (Below.drewN B2.out m3)
    generalize w2.drewN m3 = w3 at F3 B3 ⊢
    clear S1' S2 F2 B2
    obtain ⟨q, hq⟩ : ∃ q, q = fallsB l := ⟨_, rfl⟩
    have C1 := Lib.hid (falls_any (c := c) F3.out)
    rw [← hq] at C1
    go_wp2_with fail
    refine C1.out.mono ?_
    rintro e w4 ⟨rfl, m4, rfl⟩
    have F4 := Lib.hid (show FL (w3.drewN m4) A n l from ⟨drew_sl F3.out.1 m4, F3.out.2.1, F3.out.2.2⟩)
    have B4 := Lib.hid (Below.drewN B3.out m4)
    generalize w3.drewN m4 = w4 at F4 B4 ⊢
    clear F3 B3 C1
    have C2 := Lib.hid (rfalls_any (c := c) F4.out (by omega))
    rw [← hq] at C2
    have hqq : (q == q) = true := by simp
    go_wp2_with fail
    refine C2.out.mono ?_
    rintro e w5 ⟨rfl, m5, rfl⟩
    have B5 := Lib.hid (Below.drewN B4.out m5)
    generalize w4.drewN m5 = w5 at B5 ⊢
    clear F4 B4 C2
    go_wp2_with fail
    refine (known_any _).mono ?_
    rintro e w6 ⟨rfl, hb⟩
    have B6 := Lib.hid (B5.out.trans (hb.mono B5.out.size))
    clear hb
    go_wp2_with fail
    go_ret
    exact ⟨rfl, B6.out⟩
end Go.Proofs.Ytdiihpnfeeediaa.Sc
