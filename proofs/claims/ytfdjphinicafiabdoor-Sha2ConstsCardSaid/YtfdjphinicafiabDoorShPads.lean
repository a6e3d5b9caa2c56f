/-
  The walk of the law on paddings.
-/
import Derived.Test.YtfdjphinicafiabDoorShKnown
import Derived.Test.YtfdjphinicafiabDoorShRPad
import Derived.Test.YtfdjphinicafiabDoorShFills
namespace Go.Proofs.YtfdjphinicafiabDoor.Sh
open Go.RowKit Go.Proofs.YtfdjphinicafiabDoor.Gn Go.Deep
set_option linter.unusedVariables false
attribute [local go_sem ↓] Go.wp_at_zero Go.wp_at_succ

theorem samebytes_same (l : List Nat) (A1 A2 : Option Addr) (n1 n2 c1 c2 : Nat) (w : World) (h1 : Sl w A1 n1 (bl l)) (h2 : Sl w A2 n2 (bl l)) :
    Calls Tryd.prog 21 #[.slice A1 n1 c1, .slice A2 n2 c2] w fun e w' => e = .returned (.bool true) ∧ w = w' := by
  have r1 := run_txt (P := Tryd.prog) w 30 9 5 Tryd.underlying30 Tryd.underlying5 Tryd.underlying9 A1 n1 c1 l h1
  have r2 := run_txt (P := Tryd.prog) w 30 9 5 Tryd.underlying30 Tryd.underlying5 Tryd.underlying9 A2 n2 c2 l h2
  clear h1 h2
  go_enter Tryd.func21, Tryd.ntmps21
  go_wp2
  go_ret
  exact ⟨by simp, rfl⟩
theorem pad_bits (x b : Int) (w : World) (h1 : (b == 256) = false) (h2 : (b == 512) = false) :
    Calls Tryd.prog 19 #[.int .i64 x, .int .i64 b] w fun e w' => e = .returned (.tuple #[.slice none 0 0, .int .i64 1]) ∧ w = w' := by
  go_enter Tryd.func19, Tryd.ntmps19
  go_wp2_with (go_at_call 40; refine (known_no b _ h1 h2).mono ?_; rintro e w' ⟨rfl, rfl⟩)
  go_ret2
  exact ⟨rfl, rfl⟩
theorem rpad_bits (x b : Int) (w : World) (h1 : (b != 256) = true) (h2 : (b != 512) = true) :
    Calls Tryd.prog 20 #[.int .i64 x, .int .i64 b] w fun e w' => e = .returned (.tuple #[.slice none 0 0, .int .i64 1]) ∧ w = w' := by
  go_enter Tryd.func20, Tryd.ntmps20
  go_wp2
  go_ret2
  exact ⟨rfl, rfl⟩
theorem pad32_neg (x : Int) (w : World) (h : x < 0) :
    Calls Tryd.prog 19 #[.int .i64 x, .int .i64 256] w fun e w' => e = .returned (.tuple #[.slice none 0 0, .int .i64 1]) ∧ w = w' := by
  go_enter Tryd.func19, Tryd.ntmps19
  go_wp2_with (go_at_call 40; refine (known32 _).mono ?_; rintro e w' ⟨rfl, rfl⟩)
  go_ret2
  exact ⟨rfl, rfl⟩
theorem rpad32_neg (x : Int) (w : World) (h : x < 0) :
    Calls Tryd.prog 20 #[.int .i64 x, .int .i64 256] w fun e w' => e = .returned (.tuple #[.slice none 0 0, .int .i64 1]) ∧ w = w' := by
  go_enter Tryd.func20, Tryd.ntmps20
  go_wp2
  go_ret2
  exact ⟨rfl, rfl⟩
theorem pad32_long (x : Int) (w : World) (h : 1048576 < x) :
    Calls Tryd.prog 19 #[.int .i64 x, .int .i64 256] w fun e w' => e = .returned (.tuple #[.slice none 0 0, .int .i64 2]) ∧ w = w' := by
  have h0 : decide (x < 0) = false := decide_eq_false (by omega)
  go_enter Tryd.func19, Tryd.ntmps19
  go_wp2_with (go_at_call 40; refine (known32 _).mono ?_; rintro e w' ⟨rfl, rfl⟩)
  go_ret2
  exact ⟨rfl, rfl⟩
theorem rpad32_long (x : Int) (w : World) (h : 1048576 < x) :
    Calls Tryd.prog 20 #[.int .i64 x, .int .i64 256] w fun e w' => e = .returned (.tuple #[.slice none 0 0, .int .i64 2]) ∧ w = w' := by
  have h0 : decide (x < 0) = false := decide_eq_false (by omega)
  go_enter Tryd.func20, Tryd.ntmps20
  go_wp2
  go_ret2
  exact ⟨rfl, rfl⟩
set_option maxRecDepth 100000 in
theorem pads32_ok (n : Nat) (w : World) (hn : n ≤ 100000) (tab : Tab w) :
    Calls Tryd.prog 4 #[.int .i64 (n : Int), .int .i64 256] w fun e w' => e = .returned (.bool true) ∧ Below w.heap.size w w' := by
  have TAB := Lib.hid tab
  clear tab
  have t0 : decide (100000 < (n : Int)) = false := decide_eq_false (by omega)
  go_enter Tryd.func4, Tryd.ntmps4
  go_wp2_with (go_at_call 19; (with_reducible refine (pad32_any n _ (by omega)).mono ?_); rintro e w1 ⟨rfl, hw1⟩; have B1 := Lib.hid (show Below w.heap.size w w1 by rw [hw1]; exact (Below.refl _ _).alloc (Nat.le_refl _) _); have P1 := Lib.hid (show Bl w1 w.heap.size 5 (bl (pad false n)).toArray by rw [hw1]; exact Bl.new_ w _ _); clear hw1)
  go_wp2_with (go_at_call 20; (with_reducible refine (rpad32_any n _ (by omega)).mono ?_); rintro e w2 ⟨v, rfl, hown, hb2⟩; have B2 := Lib.hid hb2; have O2 := Lib.hid hown; clear hb2 hown)
  obtain ⟨A, cap, rfl, hsl, _, _, _, _⟩ := Sl.own O2.out
  have S2 := Lib.hid hsl
  clear hsl
  have S1 := Lib.hid (show Sl w2 (some ⟨w.heap.size, 0, none⟩) (pads false n) (bl (pad false n)) from Sl.of_bl (P1.out.below' B2.out) 0 _ _ (by rw [bl_length, pad_length]) (fun k v hk => by rw [Nat.zero_add]; simpa using hk))
  go_wp2_with (go_at_call 21; (with_reducible refine (samebytes_same (pad false n) _ _ _ _ _ _ _ S1.out S2.out).mono ?_); rintro e w' ⟨rfl, rfl⟩)
  have B3 := Lib.hid (B1.out.trans (B2.out.mono B1.out.size))
  go_wp2_with (go_at_call 18; (with_reducible refine (known_any _ (TAB.out.below B3.out)).mono ?_); rintro e w5 ⟨rfl, hb5⟩)
  go_ret
  exact ⟨rfl, B3.out.trans (hb5.mono B3.out.size)⟩
theorem pad64_neg (x : Int) (w : World) (h : x < 0) :
    Calls Tryd.prog 19 #[.int .i64 x, .int .i64 512] w fun e w' => e = .returned (.tuple #[.slice none 0 0, .int .i64 1]) ∧ w = w' := by
  go_enter Tryd.func19, Tryd.ntmps19
  go_wp2_with (go_at_call 40; refine (known64 _).mono ?_; rintro e w' ⟨rfl, rfl⟩)
  go_ret2
  exact ⟨rfl, rfl⟩
theorem rpad64_neg (x : Int) (w : World) (h : x < 0) :
    Calls Tryd.prog 20 #[.int .i64 x, .int .i64 512] w fun e w' => e = .returned (.tuple #[.slice none 0 0, .int .i64 1]) ∧ w = w' := by
  go_enter Tryd.func20, Tryd.ntmps20
  go_wp2
  go_ret2
  exact ⟨rfl, rfl⟩
theorem pad64_long (x : Int) (w : World) (h : 1048576 < x) :
    Calls Tryd.prog 19 #[.int .i64 x, .int .i64 512] w fun e w' => e = .returned (.tuple #[.slice none 0 0, .int .i64 2]) ∧ w = w' := by
  have h0 : decide (x < 0) = false := decide_eq_false (by omega)
  go_enter Tryd.func19, Tryd.ntmps19
  go_wp2_with (go_at_call 40; refine (known64 _).mono ?_; rintro e w' ⟨rfl, rfl⟩)
  go_ret2
  exact ⟨rfl, rfl⟩
theorem rpad64_long (x : Int) (w : World) (h : 1048576 < x) :
    Calls Tryd.prog 20 #[.int .i64 x, .int .i64 512] w fun e w' => e = .returned (.tuple #[.slice none 0 0, .int .i64 2]) ∧ w = w' := by
  have h0 : decide (x < 0) = false := decide_eq_false (by omega)
  go_enter Tryd.func20, Tryd.ntmps20
  go_wp2
  go_ret2
  exact ⟨rfl, rfl⟩
set_option maxRecDepth 100000 in
theorem pads64_ok (n : Nat) (w : World) (hn : n ≤ 100000) (tab : Tab w) :
    Calls Tryd.prog 4 #[.int .i64 (n : Int), .int .i64 512] w fun e w' => e = .returned (.bool true) ∧ Below w.heap.size w w' := by
  have TAB := Lib.hid tab
  clear tab
  have t0 : decide (100000 < (n : Int)) = false := decide_eq_false (by omega)
  go_enter Tryd.func4, Tryd.ntmps4
  go_wp2_with (go_at_call 19; (with_reducible refine (pad64_any n _ (by omega)).mono ?_); rintro e w1 ⟨rfl, hw1⟩; have B1 := Lib.hid (show Below w.heap.size w w1 by rw [hw1]; exact (Below.refl _ _).alloc (Nat.le_refl _) _); have P1 := Lib.hid (show Bl w1 w.heap.size 5 (bl (pad true n)).toArray by rw [hw1]; exact Bl.new_ w _ _); clear hw1)
  go_wp2_with (go_at_call 20; (with_reducible refine (rpad64_any n _ (by omega)).mono ?_); rintro e w2 ⟨v, rfl, hown, hb2⟩; have B2 := Lib.hid hb2; have O2 := Lib.hid hown; clear hb2 hown)
  obtain ⟨A, cap, rfl, hsl, _, _, _, _⟩ := Sl.own O2.out
  have S2 := Lib.hid hsl
  clear hsl
  have S1 := Lib.hid (show Sl w2 (some ⟨w.heap.size, 0, none⟩) (pads true n) (bl (pad true n)) from Sl.of_bl (P1.out.below' B2.out) 0 _ _ (by rw [bl_length, pad_length]) (fun k v hk => by rw [Nat.zero_add]; simpa using hk))
  go_wp2_with (go_at_call 21; (with_reducible refine (samebytes_same (pad true n) _ _ _ _ _ _ _ S1.out S2.out).mono ?_); rintro e w' ⟨rfl, rfl⟩)
  have B3 := Lib.hid (B1.out.trans (B2.out.mono B1.out.size))
  go_wp2_with (go_at_call 18; (with_reducible refine (known_any _ (TAB.out.below B3.out)).mono ?_); rintro e w5 ⟨rfl, hb5⟩)
  go_ret
  exact ⟨rfl, B3.out.trans (hb5.mono B3.out.size)⟩
theorem pads_known (x b : Int) (w : World) (h1 : 100000 < x) (h2 : x ≤ 1048576) (tab : Tab w) :
    Calls Tryd.prog 4 #[.int .i64 x, .int .i64 b] w fun e w' => e = .returned (.bool true) ∧ Below w.heap.size w w' := by
  go_enter Tryd.func4, Tryd.ntmps4
  go_wp2_with (go_at_call 18; (with_reducible refine (known_any _ tab).mono ?_); rintro e w5 ⟨rfl, hb5⟩)
  go_ret
  exact ⟨rfl, hb5⟩
theorem pads_no (x b c : Int) (w : World) (hx : x ≤ 100000 ∨ 1048576 < x) (tab : Tab w)
    (hp : ∀ w, Calls Tryd.prog 19 #[.int .i64 x, .int .i64 b] w fun e w' => e = .returned (.tuple #[.slice none 0 0, .int .i64 c]) ∧ w = w')
    (hr : ∀ w, Calls Tryd.prog 20 #[.int .i64 x, .int .i64 b] w fun e w' => e = .returned (.tuple #[.slice none 0 0, .int .i64 c]) ∧ w = w') :
    Calls Tryd.prog 4 #[.int .i64 x, .int .i64 b] w fun e w' => e = .returned (.bool true) ∧ Below w.heap.size w w' := by
  have HP := Lib.hid hp
  have HR := Lib.hid hr
  clear hp hr
  rcases hx with hx | hx
  · have t0 : decide (100000 < x) = false := decide_eq_false (by omega)
    go_enter Tryd.func4, Tryd.ntmps4
    go_wp2_with (first | (go_at_call 19; (with_reducible refine (HP.out _).mono ?_); rintro e w' ⟨rfl, rfl⟩) | (go_at_call 20; (with_reducible refine (HR.out _).mono ?_); rintro e w' ⟨rfl, rfl⟩) | (go_at_call 21; (with_reducible refine (samebytes_same [] _ _ _ _ _ _ _ (Sl.nil_ _ _) (Sl.nil_ _ _)).mono ?_); rintro e w' ⟨rfl, rfl⟩) | (go_at_call 18; (with_reducible refine (known_any _ tab).mono ?_); rintro e w5 ⟨rfl, hb5⟩))
    go_ret
    exact ⟨rfl, hb5⟩
  · have t0 : decide (x ≤ 1048576) = false := decide_eq_false (by omega)
    have t1 : decide (100000 < x) = true := decide_eq_true (by omega)
    go_enter Tryd.func4, Tryd.ntmps4
    go_wp2_with (first | (go_at_call 19; (with_reducible refine (HP.out _).mono ?_); rintro e w' ⟨rfl, rfl⟩) | (go_at_call 20; (with_reducible refine (HR.out _).mono ?_); rintro e w' ⟨rfl, rfl⟩) | (go_at_call 21; (with_reducible refine (samebytes_same [] _ _ _ _ _ _ _ (Sl.nil_ _ _) (Sl.nil_ _ _)).mono ?_); rintro e w' ⟨rfl, rfl⟩) | (go_at_call 18; (with_reducible refine (known_any _ tab).mono ?_); rintro e w5 ⟨rfl, hb5⟩))
    go_ret
    exact ⟨rfl, hb5⟩
theorem walk_sha2Pads {w : World} (tab : Tab w) (x : Int) (hx : (Lit.int .i64 x).wf) (b : Int) (hb : (Lit.int .i64 b).wf) :
    Calls Tryd.prog 4 #[.int .i64 x, .int .i64 b] w fun e w' => e = .returned (.bool true) ∧ Below w.heap.size w w' := by
  by_cases hk : 100000 < x ∧ x ≤ 1048576
  · exact pads_known x b w hk.1 hk.2 tab
  have hk' : x ≤ 100000 ∨ 1048576 < x := by omega
  by_cases h1 : b = 256
  · subst h1
    by_cases h0 : x < 0
    · exact pads_no x _ 1 w hk' tab (fun w => pad32_neg x w h0) (fun w => rpad32_neg x w h0)
    by_cases h2 : 1048576 < x
    · exact pads_no x _ 2 w hk' tab (fun w => pad32_long x w h2) (fun w => rpad32_long x w h2)
    obtain ⟨n, rfl⟩ : ∃ n : Nat, x = (n : Int) := ⟨x.toNat, by omega⟩
    exact pads32_ok n w (by omega) tab
  by_cases h2 : b = 512
  · subst h2
    by_cases h0 : x < 0
    · exact pads_no x _ 1 w hk' tab (fun w => pad64_neg x w h0) (fun w => rpad64_neg x w h0)
    by_cases h2 : 1048576 < x
    · exact pads_no x _ 2 w hk' tab (fun w => pad64_long x w h2) (fun w => rpad64_long x w h2)
    obtain ⟨n, rfl⟩ : ∃ n : Nat, x = (n : Int) := ⟨x.toNat, by omega⟩
    exact pads64_ok n w (by omega) tab
  · have t1 : (b == 256) = false := by simpa using h1
    have t2 : (b == 512) = false := by simpa using h2
    have t3 : (b != 256) = true := by simpa using h1
    have t4 : (b != 512) = true := by simpa using h2
    exact pads_no x b 1 w hk' tab (fun w => pad_bits x b w t1 t2) (fun w => rpad_bits x b w t3 t4)
end Go.Proofs.YtfdjphinicafiabDoor.Sh
