/-
  The contracts of Total, over a list of numbers that is only read.
-/
import Derived.Test.YtdiihpnfeeediaaScRef
import Derived.Test.YtdiihpnfeeediaaScFloat
namespace Go.Proofs.Ytdiihpnfeeediaa.Sc
open Go.RowKit
set_option linter.unusedVariables false

/-- A slice value that reads as a row of values, nil let in: what is asked of it where it is only read. -/
def Sl (w : World) (A : Option Addr) (n : Nat) (xs : List Value) : Prop :=
  xs.length = n ∧ ∀ k v, xs[k]? = some v → ∃ ad, A = some ad ∧ w.cell? (ad.add k) = some v
theorem Sl.at_ {w : World} {A : Option Addr} {n : Nat} {xs : List Value} (h : Sl w A n xs) {k : Nat} (hk : k < n) : ∃ ad, A = some ad ∧ w.cell? (ad.add k) = xs[k]? := by
  obtain ⟨hl, hc⟩ := h
  have hk' : k < xs.length := by omega
  obtain ⟨ad, rfl, hcell⟩ := hc k xs[k] (List.getElem?_eq_getElem hk')
  exact ⟨ad, rfl, by rw [hcell, List.getElem?_eq_getElem hk']⟩
theorem Sl.keep {w w' : World} {A : Option Addr} {n : Nat} {xs : List Value} (h : Sl w A n xs) (hk : ∀ p : Addr, (∃ v, w.cell? p = some v) → w'.cell? p = w.cell? p) : Sl w' A n xs :=
  ⟨h.1, fun k v hv => by obtain ⟨ad, e, hc⟩ := h.2 k v hv; exact ⟨ad, e, by rw [hk _ ⟨v, hc⟩]; exact hc⟩⟩

def fl (l : List Nat) : List Value := l.map (Value.float .f64)
def addF (s x : Nat) : Option Nat := FloatKind.f64.format.add s x
def step (s x : Nat) : Option Nat := if valid x then (match addF s x with | some r => if cls r = 4 then none else some r | none => none) else none
def totR (l : List Nat) : Option Nat := l.foldl (fun s x => s.bind (step · x)) (some 0)
def totE (l : List Nat) : Int := if (totR l).isSome then 0 else 10
def totX (l : List Nat) : Nat := (totR l).getD 0
theorem totR_snoc (l : List Nat) (x : Nat) : totR (l ++ [x]) = (totR l).bind (step · x) := by simp [totR, List.foldl_append]
theorem totR_none {l : List Nat} (k : Nat) (h : totR (l.take k) = none) : totR l = none := by
  have : ∀ m : List Nat, List.foldl (fun s x => s.bind (step · x)) none m = none := by
    intro m; induction m with
    | nil => rfl
    | cons a m ih => simpa using ih
  rw [← List.take_append_drop k l]
  unfold totR at h ⊢
  rw [List.foldl_append, h, this]
theorem take_snoc {α : Type} (l : List α) (k : Nat) (x : α) (h : l[k]? = some x) : l.take (k + 1) = l.take k ++ [x] := by
  rw [List.take_add_one, h]; rfl

theorem add_none (x y : Nat) (h : addF x y = none) (w : World) : ∃ v, v < 18446744073709551616 ∧ (binOp .add 29 (.float .f64 x) (.float .f64 y)).run Try.prog w = .ok (.float .f64 v) w.drew := by
  unfold addF at h
  refine ⟨(Question.nanBits .f64 x y).cut (w.tape w.drawn (.nanBits .f64 x y)), ?_, ?_⟩
  · simp only [Question.cut]; omega
  · simp only [binOp, Op.floatArith, h]
    rfl

/-- What holds at the head of each round: so many numbers have been added, and none was refused. -/
def TotRel (l : List Nat) (n : Nat) (w : World) (t e i : Value) (wr : World) : Prop :=
  ∃ k s m : Nat, k ≤ n ∧ i = .int .i64 (k : Int) ∧ t = .float .f64 s ∧ s < 18446744073709551616 ∧ valid s = true ∧ e = .int .i64 0 ∧ totR (l.take k) = some s ∧ wr = w.drewN m
theorem valid_zero : valid 0 = true := by rw [valid_iff]; unfold cls; simp
theorem add_lt {s x r : Nat} (h : addF s x = some r) : r < 18446744073709551616 := by
  have := Ieee.Format.add_lt FloatKind.f64.format h
  exact this

theorem tot_bad {l : List Nat} {k x s : Nat} (hx : l[k]? = some x) (hs : totR (l.take k) = some s) (hb : step s x = none) : totX l = 0 ∧ totE l = 10 := by
  have : totR l = none := totR_none (k + 1) (by rw [take_snoc l k x hx, totR_snoc, hs]; exact hb)
  unfold totX totE; rw [this]; exact ⟨rfl, rfl⟩
theorem tot_ok {l : List Nat} {k x s r : Nat} (hx : l[k]? = some x) (hs : totR (l.take k) = some s) (hb : step s x = some r) : totR (l.take (k + 1)) = some r := by
  rw [take_snoc l k x hx, totR_snoc, hs]; exact hb
theorem tot_end {l : List Nat} {n s : Nat} (hn : l.length = n) (hs : totR (l.take n) = some s) : totX l = s ∧ totE l = 0 := by
  rw [List.take_of_length_le (by omega)] at hs
  unfold totX totE; rw [hs]; exact ⟨rfl, rfl⟩

set_option maxHeartbeats 800000 in
theorem total_any (A : Option Addr) (n c : Nat) (l : List Nat) (w : World) (hn : n ≤ 9223372036854775807) (hl : ∀ x ∈ l, x < 18446744073709551616) (hs : Sl w A n (fl l)) :
    Calls Try.prog 11 #[.slice A n c] w fun e w' => e = .returned (.tuple #[.float .f64 (totX l), .int .i64 (totE l)]) ∧ ∃ m, w' = w.drewN m := by
  have HL := Lib.hid hl
  have HS := Lib.hid hs
  clear hl hs
  go_enter Try.func11, Try.ntmps11
  go_wp2
  go_step3
  go_wp2
  go_step3
  go_wp2
  go_loopw [4, 5, 11] (fun t e i wr => TotRel l n w t e i wr) (fun _ _ i _ => n - (intOf i).toNat)
  case atStart => exact ⟨0, 0, 0, Nat.zero_le _, rfl, rfl, by decide, valid_zero, rfl, rfl, rfl⟩
  case round =>
    obtain ⟨k, s, m, hk, rfl, rfl, hsl, hsv, rfl, htot, rfl⟩ := hrel
    have HSV := Lib.hid hsv
    clear hsv
    have HSL := Lib.hid hsl
    have HT := Lib.hid htot
    clear hsl htot
    by_cases hlt : k < n
    · obtain ⟨ad, rfl, hcell⟩ := HS.out.at_ hlt
      obtain ⟨x, hx⟩ : ∃ x, l[k]? = some x := ⟨l[k]'(by have := HS.out.1; simp [fl] at this; omega), List.getElem?_eq_getElem _⟩
      have hc : w.cell? (ad.add k) = some (.float .f64 x) := by rw [hcell]; simp [fl, hx]
      have HX := Lib.hid hx
      have hxl := Lib.hid (HL.out x (List.mem_of_getElem? hx))
      clear hcell hx
      cases hv : valid x
      · have hr : ∃ v, v < 18446744073709551616 ∧ ∃ mm, (binOp .add 29 (.float .f64 s) (.float .f64 x)).run Try.prog (w.drewN m) = .ok (.float .f64 v) (w.drewN mm) := by
          cases ha : addF s x with
          | none => obtain ⟨v, h1, h2⟩ := add_none s x ha (w.drewN m); exact ⟨v, h1, m + 1, h2⟩
          | some r => exact ⟨r, add_lt ha, m, run_float_arith _ .add _ .f64 s x r ha⟩
        obtain ⟨v, hv1, mm, hrun⟩ := hr
        have HV := Lib.hid hv1
        clear hv1
        go_wp2_with (first | (go_at_call 18; refine (valid_any _ _ hxl.out).mono ?_; rintro e w' ⟨rfl, rfl⟩))
        rw [Exit.noGoto_ret]
        go_ret2
        obtain ⟨e1, e2⟩ := tot_bad HX.out HT.out (by unfold step; rw [hv]; rfl)
        exact ⟨ret_back e1.symm e2.symm, mm, rfl⟩
      · obtain ⟨r, ha, hrv⟩ := add_valid HSL.out hxl.out HSV.out hv
        have HRV := Lib.hid hrv
        clear hrv
        · have ha : addF s x = some r := ha
          have hrun := fun w => run_float_arith (P := Try.prog) w .add 29 .f64 s x r ha
          have hrl := Lib.hid (add_lt ha)
          have HA := Lib.hid ha
          clear ha
          cases h4 : cls r == 4
          · have h4' : cls r ≠ 4 := by simpa using h4
            have hst := Lib.hid (show step s x = some r by unfold step; rw [if_pos hv, HA.out]; simp [h4'])
            clear h4'
            go_wp2_with (first | (go_at_call 18; refine (valid_any _ _ hxl.out).mono ?_; rintro e w' ⟨rfl, rfl⟩) | (go_at_call 19; refine (class_any _ _ hrl.out).mono ?_; rintro e w' ⟨rfl, rfl⟩))
            go_roundw
            case rel => exact ⟨k + 1, r, m, by omega, by go_num, rfl, hrl.out, HRV.out (by simpa using h4), rfl, tot_ok HX.out HT.out hst.out, rfl⟩
            case measure => simp [intOf]; omega
          · have hst := Lib.hid (show step s x = none by unfold step; rw [if_pos hv, HA.out]; simpa using h4)
            go_wp2_with (first | (go_at_call 18; refine (valid_any _ _ hxl.out).mono ?_; rintro e w' ⟨rfl, rfl⟩) | (go_at_call 19; refine (class_any _ _ hrl.out).mono ?_; rintro e w' ⟨rfl, rfl⟩))
            rw [Exit.noGoto_ret]
            go_ret2
            obtain ⟨e1, e2⟩ := tot_bad HX.out HT.out hst.out
            exact ⟨ret_back e1.symm e2.symm, m, rfl⟩
    · go_wp2
      rw [Exit.noGoto_ret]
      go_ret2
      obtain rfl : k = n := by omega
      obtain ⟨e1, e2⟩ := tot_end (by have := HS.out.1; simpa [fl] using this) HT.out
      exact ⟨ret_back e1.symm e2.symm, m, rfl⟩
end Go.Proofs.Ytdiihpnfeeediaa.Sc
