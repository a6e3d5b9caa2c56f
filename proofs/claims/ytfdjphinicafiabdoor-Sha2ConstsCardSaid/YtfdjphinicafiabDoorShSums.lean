/-
  The walks of the laws that hold digests against the document's.
-/
import Derived.Test.YtfdjphinicafiabDoorShPads
import Derived.Test.YtfdjphinicafiabDoorShSum2
import Derived.Test.YtfdjphinicafiabDoorShRS
namespace Go.Proofs.YtfdjphinicafiabDoor.Sh
open Go.RowKit Go.Proofs.YtfdjphinicafiabDoor.Gn Go.Deep
set_option linter.unusedVariables false
attribute [local go_sem ↓] Go.wp_at_zero Go.wp_at_succ

theorem long_no (A : Option Addr) (n c : Nat) (w : World) (hn : n ≤ 600) : Calls Tryd.prog 22 #[.slice A n c] w fun e w' => e = .returned (.bool false) ∧ w = w' := by
  have t : decide (600 < (n : Int)) = false := decide_eq_false (by omega)
  go_enter Tryd.func22, Tryd.ntmps22
  go_wp2
  go_ret
  exact ⟨rfl, rfl⟩
theorem long_yes (A : Option Addr) (n c : Nat) (w : World) (hn : 600 < n) : Calls Tryd.prog 22 #[.slice A n c] w fun e w' => e = .returned (.bool true) ∧ w = w' := by
  have t : decide (600 < (n : Int)) = true := decide_eq_true (by omega)
  go_enter Tryd.func22, Tryd.ntmps22
  go_wp2
  go_ret
  exact ⟨rfl, rfl⟩
theorem sums_long (A : Option Addr) (n c : Nat) (b : Bool) (w : World) (hn : 600 < n) (tab : Tab w) :
    Calls Tryd.prog 5 #[.slice A n c, .bool b] w fun e w' => e = .returned (.bool true) ∧ Below w.heap.size w w' := by
  go_enter Tryd.func5, Tryd.ntmps5
  go_wp2_with (first | (go_at_call 22; (with_reducible refine (long_yes _ _ _ _ hn).mono ?_); rintro e w' ⟨rfl, rfl⟩) | (go_at_call 18; (with_reducible refine (known_any _ tab).mono ?_); rintro e w5 ⟨rfl, hb5⟩))
  go_ret
  exact ⟨rfl, hb5⟩
theorem lsum32 (l : List Nat) (A : Option Addr) (n c : Nat) (hn : l.length = n) (w : World) (hl : ∀ x ∈ l, x < 256) (hsl : Sl w A n (bl l)) (hlc : n ≤ c) (hmax : n ≤ 1048576) (tab : Tab w) :
    Calls Tryd.prog 23 #[.slice A n c, .bool false] w
      fun e w' => ∃ q, e = .returned (.tuple #[.slice (some ⟨q, 0, none⟩) 32 32, .int .i64 0]) ∧ w.heap.size ≤ q ∧ Bl w' q 5 (bl (dg false l)).toArray ∧ Below w.heap.size w w' := by
  have HC := Lib.hid (Sumx256 l n hn A c w hl hsl hlc hmax tab)
  clear hn hl hsl tab
  go_enter Tryd.func23, Tryd.ntmps23
  go_wp2_with (go_at_call 39; (with_reducible refine HC.out.mono ?_); rintro e w1 ⟨q, rfl, hq, hbl, hb⟩)
  go_ret2
  exact ⟨q, rfl, hq, hbl, hb⟩
theorem dg_length32 (T : List Nat) : (dg false T).length = 32 := by
  unfold dg
  rw [flat_length, run_length]
  rfl
set_option maxRecDepth 100000 in
theorem sums32_ok {w : World} (l : List Nat) (A : Option Addr) (n c : Nat) (hb : BL w A n c l) (hn : n ≤ 600) (tab : Tab w) :
    Calls Tryd.prog 5 #[.slice A n c, .bool false] w fun e w' => e = .returned (.bool true) ∧ Below w.heap.size w w' := by
  obtain ⟨hsl, -, hl, hnil, hlc⟩ := hb
  have hln : l.length = n := by have := hsl.1; rwa [bl_length] at this
  have TAB := Lib.hid tab
  have HS := Lib.hid hsl
  have HSUM := Lib.hid (lsum32 l A n c hln w hl hsl hlc (by omega) tab)
  have HR := Lib.hid (fun (wx : World) (h : Below w.heap.size w wx) => rsum32_any l A n c wx hl (hsl.below h) hnil (by omega))
  clear hsl hl hnil hln tab
  go_enter Tryd.func5, Tryd.ntmps5
  go_wp2_with (first | (go_at_call 22; (with_reducible refine (long_no _ _ _ _ hn).mono ?_); rintro e w' ⟨rfl, rfl⟩) | (go_at_call 23; (with_reducible refine HSUM.out.mono ?_); rintro e w1 ⟨q, rfl, hq, hbl, hb1⟩; have B1 := Lib.hid hb1; have K1 := Lib.hid hbl; clear hq hbl hb1) | (go_at_call 25; (with_reducible refine (which_false _).mono ?_); rintro e w' ⟨rfl, rfl⟩))
  go_wp2_with (go_at_call 24; (with_reducible refine (HR.out _ B1.out).mono ?_); rintro e w2 ⟨v, rfl, hown, hb2⟩; have B2 := Lib.hid hb2; have O2 := Lib.hid hown; clear hb2 hown)
  obtain ⟨A2, cap2, rfl, hsl2, _, _, _, _⟩ := Sl.own O2.out
  have S2 := Lib.hid hsl2
  clear hsl2
  have S1 := Lib.hid (show Sl w2 (some ⟨q, 0, none⟩) 32 (bl (dg false l)) from Sl.of_bl (K1.out.below' B2.out) 0 _ _ (by rw [bl_length, dg_length32]) (fun k v hk => by rw [Nat.zero_add]; simpa using hk))
  go_wp2_with (go_at_call 21; (with_reducible refine (samebytes_same (dg false l) _ _ _ _ _ _ _ S1.out S2.out).mono ?_); rintro e w' ⟨rfl, rfl⟩)
  have B3 := Lib.hid (B1.out.trans (B2.out.mono B1.out.size))
  go_wp2_with (go_at_call 18; (with_reducible refine (known_any _ (TAB.out.below B3.out)).mono ?_); rintro e w5 ⟨rfl, hb5⟩)
  go_ret
  exact ⟨rfl, B3.out.trans (hb5.mono B3.out.size)⟩
theorem lsum64 (l : List Nat) (A : Option Addr) (n c : Nat) (hn : l.length = n) (w : World) (hl : ∀ x ∈ l, x < 256) (hsl : Sl w A n (bl l)) (hlc : n ≤ c) (hmax : n ≤ 1048576) (tab : Tab w) :
    Calls Tryd.prog 23 #[.slice A n c, .bool true] w
      fun e w' => ∃ q, e = .returned (.tuple #[.slice (some ⟨q, 0, none⟩) 64 64, .int .i64 0]) ∧ w.heap.size ≤ q ∧ Bl w' q 5 (bl (dg true l)).toArray ∧ Below w.heap.size w w' := by
  have HC := Lib.hid (Sumx512 l n hn A c w hl hsl hlc hmax tab)
  clear hn hl hsl tab
  go_enter Tryd.func23, Tryd.ntmps23
  go_wp2_with (go_at_call 42; (with_reducible refine HC.out.mono ?_); rintro e w1 ⟨q, rfl, hq, hbl, hb⟩)
  go_ret2
  exact ⟨q, rfl, hq, hbl, hb⟩
theorem dg_length64 (T : List Nat) : (dg true T).length = 64 := by
  unfold dg
  rw [flat_length, run_length]
  rfl
set_option maxRecDepth 100000 in
theorem sums64_ok {w : World} (l : List Nat) (A : Option Addr) (n c : Nat) (hb : BL w A n c l) (hn : n ≤ 600) (tab : Tab w) :
    Calls Tryd.prog 5 #[.slice A n c, .bool true] w fun e w' => e = .returned (.bool true) ∧ Below w.heap.size w w' := by
  obtain ⟨hsl, -, hl, hnil, hlc⟩ := hb
  have hln : l.length = n := by have := hsl.1; rwa [bl_length] at this
  have TAB := Lib.hid tab
  have HS := Lib.hid hsl
  have HSUM := Lib.hid (lsum64 l A n c hln w hl hsl hlc (by omega) tab)
  have HR := Lib.hid (fun (wx : World) (h : Below w.heap.size w wx) => rsum64_any l A n c wx hl (hsl.below h) hnil (by omega))
  clear hsl hl hnil hln tab
  go_enter Tryd.func5, Tryd.ntmps5
  go_wp2_with (first | (go_at_call 22; (with_reducible refine (long_no _ _ _ _ hn).mono ?_); rintro e w' ⟨rfl, rfl⟩) | (go_at_call 23; (with_reducible refine HSUM.out.mono ?_); rintro e w1 ⟨q, rfl, hq, hbl, hb1⟩; have B1 := Lib.hid hb1; have K1 := Lib.hid hbl; clear hq hbl hb1) | (go_at_call 25; (with_reducible refine (which_true _).mono ?_); rintro e w' ⟨rfl, rfl⟩))
  go_wp2_with (go_at_call 24; (with_reducible refine (HR.out _ B1.out).mono ?_); rintro e w2 ⟨v, rfl, hown, hb2⟩; have B2 := Lib.hid hb2; have O2 := Lib.hid hown; clear hb2 hown)
  obtain ⟨A2, cap2, rfl, hsl2, _, _, _, _⟩ := Sl.own O2.out
  have S2 := Lib.hid hsl2
  clear hsl2
  have S1 := Lib.hid (show Sl w2 (some ⟨q, 0, none⟩) 64 (bl (dg true l)) from Sl.of_bl (K1.out.below' B2.out) 0 _ _ (by rw [bl_length, dg_length64]) (fun k v hk => by rw [Nat.zero_add]; simpa using hk))
  go_wp2_with (go_at_call 21; (with_reducible refine (samebytes_same (dg true l) _ _ _ _ _ _ _ S1.out S2.out).mono ?_); rintro e w' ⟨rfl, rfl⟩)
  have B3 := Lib.hid (B1.out.trans (B2.out.mono B1.out.size))
  go_wp2_with (go_at_call 18; (with_reducible refine (known_any _ (TAB.out.below B3.out)).mono ?_); rintro e w5 ⟨rfl, hb5⟩)
  go_ret
  exact ⟨rfl, B3.out.trans (hb5.mono B3.out.size)⟩
theorem walk_sha2Sums {w : World} (tab : Tab w) (A : Option Addr) (n c : Nat) (l : List Nat) (hl : BL w A n c l) (b : Bool) :
    Calls Tryd.prog 5 #[.slice A n c, .bool b] w fun e w' => e = .returned (.bool true) ∧ Below w.heap.size w w' := by
  by_cases h : 600 < n
  · exact sums_long A n c b w h tab
  · cases b
    · exact sums32_ok l A n c hl (by omega) tab
    · exact sums64_ok l A n c hl (by omega) tab
end Go.Proofs.YtfdjphinicafiabDoor.Sh
