/-
  The contract of the document's Steps, and the walk of the law of the number below and of numbers between two.
-/
import Derived.Test.YtgcolbkgldcfiabScSteps
import Derived.WalkSpells
namespace Go.Proofs.Ytgcolbkgldcfiab.Sc
open Go.RowKit Go.Deep
set_option linter.unusedVariables false

theorem rcode_q (b : Nat) (w : World) (hb : b < 18446744073709551616) : Calls Try.prog 18 #[.float .f64 b] w fun e w' => e = .returned (.int .u64 ((code b : Nat) : Int)) ∧ w' = w :=
  (rcode_any b w hb).mono fun _ _ h => ⟨h.1, h.2.symm⟩
/-- What holds at the head of each round: so many numbers have been put to the list. -/
def RStepsRel (c d n : Nat) (w : World) (i o : Value) (wr : World) : Prop :=
  ∃ k : Nat, k ≤ n ∧ i = .int .u64 ((k : Int) + 1) ∧ wr.ownsRow w.heap.size 22 1 o k (fl ((stl c d n).take k)) ∧ Below w.heap.size w wr

theorem step_arg (c d n k F P R : Nat) (hcd : c ≤ d) (hd : d < 18446744073709551616) (hk : k < n) (hn : n ≤ 1000) (hF : F = d - c) (hP : P = F / (n + 1)) (hR : R = F % (n + 1)) :
    ((IntKind.u64.wrap ((c : Int) + IntKind.u64.wrap ((P : Int) * ((k : Int) + 1))) + IntKind.u64.wrap ((IntKind.u64.wrap ((R : Int) * ((k : Int) + 1))).tdiv ((n : Int) + 1))) % 18446744073709551616).toNat = stc c d n (k + 1) := by
  have hs := stc_le c d n (k + 1) hcd (by omega)
  have hr : R * (k + 1) < 18446744073709551616 := by
    have : R ≤ 1000 := by have := Nat.mod_lt F (show 0 < n + 1 by omega); omega
    have : R * (k + 1) ≤ 1000 * 1000 := Nat.mul_le_mul this (by omega)
    omega
  have e0 : stc c d n (k + 1) = c + P * (k + 1) + R * (k + 1) / (n + 1) := by unfold stc; rw [hP, hR, hF]
  have e1 : (P : Int) * ((k : Int) + 1) = ((P * (k + 1) : Nat) : Int) := by simp
  have e2 : (R : Int) * ((k : Int) + 1) = ((R * (k + 1) : Nat) : Int) := by simp
  have e3 : (n : Int) + 1 = ((n + 1 : Nat) : Int) := by simp
  rw [e0] at hs ⊢
  rw [e1, e2, e3]
  generalize P * (k + 1) = A at *
  generalize hB : R * (k + 1) = B at *
  have e4 : IntKind.u64.wrap (B : Int) = (B : Int) := by rw [IntKind.wrap_u64]; omega
  have e5 : ((B : Int)).tdiv ((n + 1 : Nat) : Int) = ((B / (n + 1) : Nat) : Int) := by rw [Int.tdiv_eq_ediv_of_nonneg (by omega)]; simp
  rw [e4, e5]
  generalize B / (n + 1) = D at *
  simp only [IntKind.wrap_u64]
  omega

theorem rback_wq (x : Int) (w : World) :
    Calls Try.prog 19 #[.int .u64 (IntKind.u64.wrap x)] w fun e w' => e = .returned (.tuple #[.float .f64 (backX (x % 18446744073709551616).toNat), .int .i64 (backE (x % 18446744073709551616).toNat)]) ∧ w' = w :=
  (rback_w x w).mono fun _ _ h => ⟨h.1, h.2.symm⟩

set_option maxHeartbeats 1000000 in
theorem rsteps_le (a b n : Nat) (w : World) (HA : Hid (a < 18446744073709551616)) (HB : Hid (b < 18446744073709551616)) (hva : valid a = true) (hvb : valid b = true) (h1 : 1 ≤ n) (h2 : n ≤ 1000) (hle : code a ≤ code b) :
    Calls Try.prog 6 #[.float .f64 a, .float .f64 b, .int .i64 (n : Int)] w fun e w' =>
      ∃ v, e = .returned (.tuple #[v, .int .i64 0]) ∧ w'.ownsRow w.heap.size 22 1 v n (fl (stl (code a) (code b) n)) ∧ Below w.heap.size w w' := by
  have t1 : decide ((n : Int) < 1) = false := by simp; omega
  have t2 : decide (1000 < (n : Int)) = false := by simp; omega
  have ht : decide (((code b : Nat) : Int) < ((code a : Nat) : Int)) = false := by simp; omega
  have ht' : decide (code b < code a) = false := by simp; omega
  obtain ⟨F, hF⟩ : ∃ F, F = code b - code a := ⟨_, rfl⟩
  have HF := Lib.hid hF
  have hw : IntKind.u64.wrap (((code b : Nat) : Int) - ((code a : Nat) : Int)) = (F : Int) := by have := code_lt b HB.out; rw [IntKind.wrap_u64]; omega
  have HLE := Lib.hid hle
  clear hF hle
  go_enter Try.func6, Try.ntmps6
  go_wp2_with (first | (go_at_call 17; refine (rvalid_any _ _ (by first | exact HA.out | exact HB.out)).mono ?_; rintro e w' ⟨rfl, rfl⟩) | (go_at_call 18; refine (rcode_any _ _ (by first | exact HA.out | exact HB.out)).mono ?_; rintro e w' ⟨rfl, rfl⟩))
  clear hw
  have hF1 : (F : Int) ≤ 18446744073709551615 := by have := HF.out; have := code_lt b HB.out; omega
  obtain ⟨P, hP⟩ : ∃ P, P = F / (n + 1) := ⟨_, rfl⟩
  obtain ⟨R, hR⟩ : ∃ R, R = F % (n + 1) := ⟨_, rfl⟩
  have hp : IntKind.u64.wrap ((F : Int) / ((n : Int) + 1)) = (P : Int) := by
    have h1 : F / (n + 1) ≤ F := Nat.div_le_self _ _
    have h4 : (F : Int) / ((n : Int) + 1) = ((F / (n + 1) : Nat) : Int) := by simp
    rw [h4, IntKind.wrap_u64, hP]; omega
  have hr : (F : Int) % ((n : Int) + 1) = (R : Int) := by rw [hR]; simp
  have HPP := Lib.hid hP
  have HRR := Lib.hid hR
  have HF1 := Lib.hid hF1
  have HPQ := Lib.hid hp
  have HRQ := Lib.hid hr
  clear hP hR hF1 hp hr
  obtain ⟨i0, hi, hz0, hz1, hz2⟩ := info_parts infof
  go_loopw [11, 10] (fun i o wr => RStepsRel (code a) (code b) n w i o wr) (fun i _ _ => n + 1 - (intOf i).toNat)
  case atStart => exact ⟨0, Nat.zero_le _, rfl, own_nil _ _ _, Below.refl _ _⟩
  case round =>
    obtain ⟨k, hk, rfl, hown, hbel⟩ := hrel
    obtain ⟨A, cap, rfl, hsl, hnil, hmax⟩ := Sl.own hown
    have HOWN := Lib.hid hown
    have HBEL := Lib.hid hbel
    clear hown hbel hsl hnil hmax
    by_cases hlt : k < n
    · have hlt' : (k : Int) + 1 < (n : Int) + 1 := by omega
      go_wp2_with fail
      have hF1 := HF1.out
      have hp := HPQ.out
      have hr := HRQ.out
      go_quiet ((first | (go_at_call 18; exact Calls.quiet_of_same (rcode_q _ _ HA.out)) | (go_at_call 19; exact Calls.quiet_of_same (rback_wq _ _))))
      clear hF1 hp hr
      have hv1 := code_valid HA.out hva
      have hv2 := code_valid HB.out hvb
      have hst := stc_le (code a) (code b) n (k + 1) HLE.out (by omega)
      have he : backE (stc (code a) (code b) n (k + 1)) = 0 := backE_ok (by omega) (by omega)
      have hx := step_arg (code a) (code b) n k F P R HLE.out (code_lt b HB.out) hlt h2 HF.out HPP.out HRR.out
      rw [hx, backX_ok he, he]
      obtain ⟨X, hX⟩ : ∃ X, X = num (stc (code a) (code b) n (k + 1)) := ⟨_, rfl⟩
      rw [← hX]
      have HX := Lib.hid hX
      clear hx he hst hv1 hv2 hX
      generalize hwq : wr.drewN nq = wq
      have HO2 := Lib.hid (show wq.ownsRow w.heap.size 22 1 (Value.slice A k cap) k (fl (List.take k (stl (code a) (code b) n))) by rw [← hwq]; exact HOWN.out)
      have HB2 := Lib.hid (show Below w.heap.size w wq by rw [← hwq]; exact Below.drewN HBEL.out nq)
      clear hwq
      go_wp2_with (at_builtin; refine wpList_append_sl rfl _ _ 23 rfl w.heap.size 22 i0 _ 8 Try.underlying23 hi hz0 hz1 hz2 rfl _ k (fl (List.take k (stl (code a) (code b) n))) rfl (HO2.out.alloc _) (some ⟨wq.heap.size, 0, none⟩) 1 1 [.float .f64 X] rfl (by simp) ?c1 ?c2 ?c3 ?c4 ?c5 ?_)
      case c1 => exact Sl.new_ wq 22 [.float .f64 X]
      case c2 => intro u hu; simp at hu; subst hu; rfl
      case c3 => unfold maxLen; omega
      case c4 => omega
      case c5 => have := HB2.out.size; simp; omega
      intro v' w1 hown1 hgrow
      have hbel1 : Below w.heap.size w w1 := (HB2.out.alloc HB2.out.size _).grown hgrow (by have := HB2.out.size; simp; omega) (fun g hg => (HO2.out.lt g hg).1)
      have HO1 := Lib.hid hown1
      have HB1 := Lib.hid hbel1
      clear hown1 hgrow hbel1
      go_wp2
      go_roundw
      case rel =>
        refine ⟨k + 1, by omega, by go_num, ?_, HB1.out⟩
        have e : (stl (code a) (code b) n).take (k + 1) = (stl (code a) (code b) n).take k ++ [X] := by
          rw [HX.out]; exact take_snoc _ k _ (stl_get _ _ _ k hlt)
        rw [e]
        simpa [fl] using HO1.out
      case measure => simp [intOf]; omega
    · go_wp2
      go_ret2
      obtain rfl : k = n := by omega
      have := HOWN.out
      rw [List.take_of_length_le (by rw [stl_length]; omega)] at this
      exact ⟨_, rfl, this, HBEL.out⟩

/-- Of two codes the lesser one first. -/
theorem lo_le {a b : Nat} (h : code a ≤ code b) : lo a b = code a ∧ hi a b = code b := by unfold lo hi; omega
theorem lo_gt {a b : Nat} (h : code b ≤ code a) : lo a b = code b ∧ hi a b = code a := by unfold lo hi; omega
set_option maxHeartbeats 1000000 in
theorem rsteps_ok (a b n : Nat) (w : World) (HA : Hid (a < 18446744073709551616)) (HB : Hid (b < 18446744073709551616)) (hva : valid a = true) (hvb : valid b = true) (h1 : 1 ≤ n) (h2 : n ≤ 1000) :
    Calls Try.prog 6 #[.float .f64 a, .float .f64 b, .int .i64 (n : Int)] w fun e w' =>
      ∃ v, e = .returned (.tuple #[v, .int .i64 0]) ∧ w'.ownsRow w.heap.size 22 1 v n (fl (stl (lo a b) (hi a b) n)) ∧ Below w.heap.size w w' := by
  by_cases hle : code a ≤ code b
  · rw [(lo_le hle).1, (lo_le hle).2]
    exact rsteps_le a b n w HA HB hva hvb h1 h2 hle
  have hlo := lo_gt (a := a) (b := b) (by omega)
  have ht : decide (((code b : Nat) : Int) < ((code a : Nat) : Int)) = true := by simp; omega
  have ht' : decide (code b < code a) = true := by simp; omega
  have ht2 : code b < code a := by omega
  have t1 : decide ((n : Int) < 1) = false := by simp; omega
  have t2 : decide (1000 < (n : Int)) = false := by simp; omega
  rw [hlo.1, hlo.2]
  clear hlo hle
  go_enter Try.func6, Try.ntmps6
  go_wp2_with (first | (go_at_call 17; refine (rvalid_any _ _ (by first | exact HA.out | exact HB.out)).mono ?_; rintro e w' ⟨rfl, rfl⟩) | (go_at_call 18; refine (rcode_any _ _ (by first | exact HA.out | exact HB.out)).mono ?_; rintro e w' ⟨rfl, rfl⟩))
  refine (rsteps_le b a n _ HB HA hvb hva h1 h2 (Nat.le_of_lt ht2)).mono ?_
  rintro e w1 ⟨v, rfl, ho, hb⟩
  have HO := Lib.hid ho
  have HBB := Lib.hid hb
  clear ho hb
  go_wp2
  go_ret2
  exact ⟨v, rfl, HO.out, HBB.out⟩
end Go.Proofs.Ytgcolbkgldcfiab.Sc
