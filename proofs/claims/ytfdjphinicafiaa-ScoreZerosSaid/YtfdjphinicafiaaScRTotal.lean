/-
  The contract of the document's Total, and the walk of the law of totals.
-/
import Derived.Test.YtfdjphinicafiaaScOpen
import Derived.Test.YtfdjphinicafiaaScMid
namespace Go.Proofs.Ytfdjphinicafiaa.Sc
open Go.RowKit
set_option linter.unusedVariables false

theorem Sl.drewN {w : World} {A : Option Addr} {n : Nat} {xs : List Value} (h : Sl w A n xs) (m : Nat) : Sl (w.drewN m) A n xs := h

set_option maxHeartbeats 800000 in
theorem rtotal_any (A : Option Addr) (n c : Nat) (l : List Nat) (w : World) (hn : n ≤ 9223372036854775807) (hl : ∀ x ∈ l, x < 18446744073709551616) (hs : Sl w A n (fl l)) :
    Calls Try.prog 35 #[.slice A n c] w fun e w' => e = .returned (.tuple #[.float .f64 (totX l), .int .i64 (totE l)]) ∧ w = w' := by
  have HL := Lib.hid hl
  have HS := Lib.hid hs
  clear hl hs
  go_enter Try.func35, Try.ntmps35
  go_wp2
  go_loop [4, 5] (fun t i => TotRel l n w t (.int .i64 0) i w) (fun _ i => n - (intOf i).toNat)
  case atStart => exact ⟨0, 0, 0, Nat.zero_le _, rfl, rfl, by decide, valid_zero, rfl, rfl, rfl⟩
  case round =>
    obtain ⟨k, s, m, hk, rfl, rfl, hsl, hsv, -, htot, -⟩ := hrel
    have HSV := Lib.hid hsv
    clear hsv
    have HSL := Lib.hid hsl
    have HT := Lib.hid htot
    clear hsl htot
    by_cases hlt : k < n
    · obtain ⟨ad, rfl, hcell⟩ := HS.out.at_ hlt
      obtain ⟨x, hx⟩ : ∃ x, l[k]? = some x := ⟨l[k]'(by have := HS.out.1; simp [fl] at this; omega), List.getElem?_eq_getElem _⟩
      have hc : w.cell? (ad.add k) = some (.float .f64 x) := by rw [hcell]; simp [fl, hx]
      have HX := Lib.hid hx
      have hxl := Lib.hid (HL.out x (List.mem_of_getElem? hx))
      clear hcell hx
      cases hv : valid x
      · go_wp2_with (first | (go_at_call 30; refine (rvalid_any _ _ hxl.out).mono ?_; rintro e w' ⟨rfl, rfl⟩))
        go_ret2
        obtain ⟨e1, e2⟩ := tot_bad HX.out HT.out (by unfold step; rw [hv]; rfl)
        exact ⟨ret_back e1.symm e2.symm, rfl⟩
      · obtain ⟨r, ha, hrv⟩ := add_valid HSL.out hxl.out HSV.out hv
        have HRV := Lib.hid hrv
        clear hrv
        have ha : addF s x = some r := ha
        have hrun := fun w => run_float_arith (P := Try.prog) w .add 22 .f64 s x r ha
        have hrl := Lib.hid (add_lt ha)
        have HA := Lib.hid ha
        clear ha
        cases h4 : cls r == 4
        · have h4' : cls r ≠ 4 := by simpa using h4
          have hst := Lib.hid (show step s x = some r by unfold step; rw [if_pos hv, HA.out]; simp [h4'])
          have h1 : (cls r == 1) = false := by have := HRV.out h4'; have := (cls_valid this).2.2; simpa using this
          clear h4'
          go_wp2_with (first | (go_at_call 30; refine (rvalid_any _ _ hxl.out).mono ?_; rintro e w' ⟨rfl, rfl⟩) | (go_at_call 16; refine (rclass_any _ _ hrl.out).mono ?_; rintro e w' ⟨rfl, rfl⟩))
          go_round
          case rel => exact ⟨k + 1, r, 0, by omega, by go_num, rfl, hrl.out, HRV.out (by simpa using h4), rfl, tot_ok HX.out HT.out hst.out, rfl⟩
          case measure => simp [intOf]; omega
        · have hst := Lib.hid (show step s x = none by unfold step; rw [if_pos hv, HA.out]; simpa using h4)
          go_wp2_with (first | (go_at_call 30; refine (rvalid_any _ _ hxl.out).mono ?_; rintro e w' ⟨rfl, rfl⟩) | (go_at_call 16; refine (rclass_any _ _ hrl.out).mono ?_; rintro e w' ⟨rfl, rfl⟩))
          go_ret2
          obtain ⟨e1, e2⟩ := tot_bad HX.out HT.out hst.out
          exact ⟨ret_back e1.symm e2.symm, rfl⟩
    · go_wp2
      go_ret2
      obtain rfl : k = n := by omega
      obtain ⟨e1, e2⟩ := tot_end (by have := HS.out.1; simpa [fl] using this) HT.out
      exact ⟨ret_back e1.symm e2.symm, rfl⟩

set_option maxHeartbeats 400000 in
theorem walk_scoreTotals (w : World) (A : Option Addr) (n c : Nat) (l : List Nat) (hf : FL w A n l) :
    Calls Try.prog 7 #[.slice A n c] w fun e w' => e = .returned (.bool true) ∧ Below w.heap.size w w' := by
  obtain ⟨hs, hn, hl⟩ := hf
  have HS := Lib.hid hs
  have HL := Lib.hid hl
  clear hs hl
  by_cases h : 500 < n
  · go_enter Try.func7, Try.ntmps7
    go_wp2_with (go_at_call 21; refine (known_any _).mono ?_; rintro e w' ⟨rfl, hb⟩)
    go_ret
    exact ⟨rfl, hb⟩
  · go_enter Try.func7, Try.ntmps7
    go_wp2_with fail
    refine (total_any _ _ _ l _ hn HL.out HS.out).mono ?_
    rintro e w1 ⟨rfl, m, rfl⟩
    have HS1 := Lib.hid (Sl.drewN HS.out m)
    go_wp2_with (first | (go_at_call 35; refine (rtotal_any _ _ _ l _ hn HL.out HS1.out).mono ?_; rintro e w' ⟨rfl, rfl⟩) | (go_at_call 24; refine (rsame_any _ _ _).mono ?_; rintro e w' ⟨rfl, rfl⟩) | (go_at_call 21; refine (known_any _).mono ?_; rintro e w' ⟨rfl, hb⟩))
    go_ret
    exact ⟨rfl, (Below.drewN (Below.refl _ w) m).trans hb⟩
end Go.Proofs.Ytfdjphinicafiaa.Sc
