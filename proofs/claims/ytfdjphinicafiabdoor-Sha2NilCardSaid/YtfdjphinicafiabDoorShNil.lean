/-
  The walk of the law on a hash that is not there.
-/
import Derived.Test.YtfdjphinicafiabDoorShKnown
namespace Go.Proofs.YtfdjphinicafiabDoor.Sh
open Go.RowKit Go.Proofs.YtfdjphinicafiabDoor.Gn Go.Deep
set_option linter.unusedVariables false
attribute [local go_sem ↓] Go.wp_at_zero Go.wp_at_succ

theorem new256 (w : World) (tab : Tab w) : Calls Tryd.prog 27 #[.int .i64 256] w fun e w' => ∃ g, e = .returned (.tuple #[.pointer (some ⟨g, 0, none⟩), .int .i64 0]) ∧ Below w.heap.size w w' ∧ Tab w' :=
  (new32_any w tab).mono fun e w' ⟨g, h1, _, _, h4, h5⟩ => ⟨g, h1, h4, h5⟩
theorem new512 (w : World) (tab : Tab w) : Calls Tryd.prog 27 #[.int .i64 512] w fun e w' => ∃ g, e = .returned (.tuple #[.pointer (some ⟨g, 0, none⟩), .int .i64 0]) ∧ Below w.heap.size w w' ∧ Tab w' :=
  (new64_any w tab).mono fun e w' ⟨g, h1, _, _, h4, h5⟩ => ⟨g, h1, h4, h5⟩
set_option maxRecDepth 100000 in
set_option maxHeartbeats 1000000 in
theorem walk_sha2Nil {w : World} (tab : Tab w) (A : Option Addr) (n c : Nat) (l : List Nat) (hl : BL w A n c l) (x : Int) (hx : (Lit.int .i64 x).wf) :
    Calls Tryd.prog 11 #[.slice A n c, .int .i64 x] w fun e w' => e = .returned (.bool true) ∧ Below w.heap.size w w' := by
  have TAB := Lib.hid tab
  clear tab hl hx
  by_cases h1 : x = 256
  · subst h1
    go_enter Tryd.func11, Tryd.ntmps11
    go_wp2_with (first | (go_at_call 33; refine (reset_nil _).mono ?_; rintro e w' ⟨rfl, rfl⟩) | (go_at_call 27; refine (new256 _ TAB.out).mono ?_; rintro e w1 ⟨g, rfl, hb, ht⟩; have HB := Lib.hid hb; have T1 := Lib.hid ht; clear hb ht) | (go_at_call 28; refine (write_nil _ _ _ _).mono ?_; rintro e w' ⟨rfl, rfl⟩) | (go_at_call 30; refine (sum_nil _).mono ?_; rintro e w' ⟨rfl, rfl⟩) | (go_at_call 31; refine (hsize_nil _).mono ?_; rintro e w' ⟨rfl, rfl⟩) | (go_at_call 29; refine (count_nil _).mono ?_; rintro e w' ⟨rfl, rfl⟩) | (go_at_call 32; refine (copy_nil _).mono ?_; rintro e w' ⟨rfl, rfl⟩) | (go_at_call 18; refine (known_any _ T1.out).mono ?_; rintro e w2 ⟨rfl, hb2⟩))
    go_ret
    exact ⟨rfl, HB.out.trans (hb2.mono HB.out.size)⟩
  by_cases h2 : x = 512
  · subst h2
    go_enter Tryd.func11, Tryd.ntmps11
    go_wp2_with (first | (go_at_call 33; refine (reset_nil _).mono ?_; rintro e w' ⟨rfl, rfl⟩) | (go_at_call 27; refine (new512 _ TAB.out).mono ?_; rintro e w1 ⟨g, rfl, hb, ht⟩; have HB := Lib.hid hb; have T1 := Lib.hid ht; clear hb ht) | (go_at_call 28; refine (write_nil _ _ _ _).mono ?_; rintro e w' ⟨rfl, rfl⟩) | (go_at_call 30; refine (sum_nil _).mono ?_; rintro e w' ⟨rfl, rfl⟩) | (go_at_call 31; refine (hsize_nil _).mono ?_; rintro e w' ⟨rfl, rfl⟩) | (go_at_call 29; refine (count_nil _).mono ?_; rintro e w' ⟨rfl, rfl⟩) | (go_at_call 32; refine (copy_nil _).mono ?_; rintro e w' ⟨rfl, rfl⟩) | (go_at_call 18; refine (known_any _ T1.out).mono ?_; rintro e w2 ⟨rfl, hb2⟩))
    go_ret
    exact ⟨rfl, HB.out.trans (hb2.mono HB.out.size)⟩
  · have t1 : (x == 256) = false := by simpa using h1
    have t2 : (x == 512) = false := by simpa using h2
    have t3 : (x != 256) = true := by simpa using h1
    have t4 : (x != 512) = true := by simpa using h2
    clear h1 h2
    go_enter Tryd.func11, Tryd.ntmps11
    go_wp2_with (first | (go_at_call 33; refine (reset_nil _).mono ?_; rintro e w' ⟨rfl, rfl⟩) | (go_at_call 27; refine (new_no x _ t1 t2).mono ?_; rintro e w' ⟨rfl, rfl⟩) | (go_at_call 28; refine (write_nil _ _ _ _).mono ?_; rintro e w' ⟨rfl, rfl⟩) | (go_at_call 30; refine (sum_nil _).mono ?_; rintro e w' ⟨rfl, rfl⟩) | (go_at_call 31; refine (hsize_nil _).mono ?_; rintro e w' ⟨rfl, rfl⟩) | (go_at_call 29; refine (count_nil _).mono ?_; rintro e w' ⟨rfl, rfl⟩) | (go_at_call 32; refine (copy_nil _).mono ?_; rintro e w' ⟨rfl, rfl⟩) | (go_at_call 18; refine (known_any _ TAB.out).mono ?_; rintro e w2 ⟨rfl, hb2⟩))
    go_ret
    exact ⟨rfl, hb2⟩
end Go.Proofs.YtfdjphinicafiabDoor.Sh
