/-
  The contract of Steps, and the walk of the law that goes up and down.
-/
import Derived.Test.YtgcolbkgldcfiabScPrev
import Derived.Test.YtgcolbkgldcfiabScOwn
import Derived.Deep.OwnRows
namespace Go.Proofs.Ytgcolbkgldcfiab.Sc
open Go.RowKit Go.Deep
set_option linter.unusedVariables false

/-- A float is stored as any other value of one cell. -/
theorem run_store_float {P : Program} {w : World} {a : Addr} {m : Mode} (k : FloatKind) (b : Nat) : (store a (.float k b) m).run P w = stored P w a (.float k b) m := run_store P w a _ m rfl
attribute [local go_sem] run_store_float

/-- The code of the i-th of n numbers between two. -/
def stc (c d n i : Nat) : Nat := c + (d - c) / (n + 1) * i + (d - c) % (n + 1) * i / (n + 1)
theorem stc_le (c d n i : Nat) (h : c ≤ d) (hi : i ≤ n) : c ≤ stc c d n i ∧ stc c d n i ≤ d := by
  unfold stc
  have h1 : (d - c) / (n + 1) * (n + 1) + (d - c) % (n + 1) = d - c := by rw [Nat.mul_comm]; exact Nat.div_add_mod _ _
  have h2 : (d - c) % (n + 1) * i / (n + 1) ≤ (d - c) % (n + 1) := by
    refine Nat.div_le_of_le_mul ?_
    rw [Nat.mul_comm]
    exact Nat.mul_le_mul_right _ (by omega)
  have h3 : (d - c) / (n + 1) * i ≤ (d - c) / (n + 1) * (n + 1) := Nat.mul_le_mul_left _ (by omega)
  generalize (d - c) / (n + 1) * i = A at *
  generalize (d - c) / (n + 1) * (n + 1) = B at *
  generalize (d - c) % (n + 1) * i / (n + 1) = C at *
  generalize (d - c) % (n + 1) = D at *
  omega
theorem stc_mono (c d n i j : Nat) (h : i ≤ j) : stc c d n i ≤ stc c d n j := by
  unfold stc
  have h1 : (d - c) / (n + 1) * i ≤ (d - c) / (n + 1) * j := Nat.mul_le_mul_left _ h
  have h2 : (d - c) % (n + 1) * i / (n + 1) ≤ (d - c) % (n + 1) * j / (n + 1) := Nat.div_le_div_right (Nat.mul_le_mul_left _ h)
  generalize (d - c) / (n + 1) * i = A at *
  generalize (d - c) / (n + 1) * j = B at *
  generalize (d - c) % (n + 1) * i / (n + 1) = C at *
  generalize (d - c) % (n + 1) * j / (n + 1) = D at *
  omega
def stl (c d n : Nat) : List Nat := (List.range n).map fun k => num (stc c d n (k + 1))
theorem stl_length (c d n : Nat) : (stl c d n).length = n := by simp [stl]
theorem stl_get (c d n k : Nat) (h : k < n) : (stl c d n)[k]? = some (num (stc c d n (k + 1))) := by simp [stl, List.getElem?_range h]

def StepsRel (c d n : Nat) (w : World) (i : Value) (wr : World) : Prop :=
  ∃ (k : Nat) (arr : Array Value), k ≤ n ∧ i = .int .i64 (k : Int) ∧ arr.size = n ∧ (∀ j, j < k → arr[j]? = some (.float .f64 (num (stc c d n (j + 1))))) ∧ wr = w.alloc (.cells arr 22)
theorem infof : (Try.prog.info? 22).map (fun i => (i.zero, i.size, i.bytes)) = some (some (.float .f64 0), 1, 8) := by kernel_rfl

theorem step_val (c d n k F P R : Nat) (hcd : c ≤ d) (hd : d < 18446744073709551616) (hk : k < n) (hn : n ≤ 1000) (hF : F = d - c) (hP : P = F / (n + 1)) (hR : R = F % (n + 1)) :
    Value.float .f64 (num (((IntKind.u64.wrap ((c : Int) + IntKind.u64.wrap ((P : Int) * ((k : Int) + 1))) + IntKind.u64.wrap ((IntKind.u64.wrap ((R : Int) * ((k : Int) + 1))).tdiv ((n : Int) + 1))) % 18446744073709551616).toNat)) = .float .f64 (num (stc c d n (k + 1))) := by
  have hs := stc_le c d n (k + 1) hcd (by omega)
  have hr : R * (k + 1) < 18446744073709551616 := by
    have : R ≤ 1000 := by have := Nat.mod_lt F (show 0 < n + 1 by omega); omega
    have : R * (k + 1) ≤ 1000 * 1000 := Nat.mul_le_mul this (by omega)
    omega
  have e0 : stc c d n (k + 1) = c + P * (k + 1) + R * (k + 1) / (n + 1) := by unfold stc; rw [hP, hR, hF]
  have e1 : (P : Int) * ((k : Int) + 1) = ((P * (k + 1) : Nat) : Int) := by simp
  have e2 : (R : Int) * ((k : Int) + 1) = ((R * (k + 1) : Nat) : Int) := by simp
  have e3 : (n : Int) + 1 = ((n + 1 : Nat) : Int) := by simp
  rw [e0] at hs ⊢
  congr 2
  rw [e1, e2, e3]
  generalize P * (k + 1) = A at *
  generalize hB : R * (k + 1) = B at *
  have e4 : IntKind.u64.wrap (B : Int) = (B : Int) := by rw [IntKind.wrap_u64]; omega
  have e5 : ((B : Int)).tdiv ((n + 1 : Nat) : Int) = ((B / (n + 1) : Nat) : Int) := by rw [Int.tdiv_eq_ediv_of_nonneg (by omega)]; simp
  rw [e4, e5]
  generalize B / (n + 1) = D at *
  simp only [IntKind.wrap_u64]
  omega

set_option maxHeartbeats 1000000 in
theorem steps_ok (a b n : Nat) (w : World) (HA : Hid (a < 18446744073709551616)) (HB : Hid (b < 18446744073709551616)) (hva : valid a = true) (hvb : valid b = true) (h1 : 1 ≤ n) (h2 : n ≤ 1000) :
    Calls Try.prog 5 #[.float .f64 a, .float .f64 b, .int .i64 (n : Int)] w fun e w' =>
      ∃ g, e = .returned (.tuple #[.slice (some ⟨g, 0, none⟩) n n, .int .i64 0]) ∧ Sl w' (some ⟨g, 0, none⟩) n (fl (stl (lo a b) (hi a b) n)) ∧ Below w.heap.size w w' := by
  have hmk := fun w => run_make_row' (P := Try.prog) 23 22 (.float .f64 0) 8 Try.underlying23 infof rfl .i64 .i64 n (by omega) (by omega) w
  have t1 : decide ((n : Int) < 1) = false := by simp; omega
  have t2 : decide (1000 < (n : Int)) = false := by simp; omega
  have hle := Lib.hid (lo_hi a b HA.out HB.out)
  obtain ⟨c, hc⟩ : ∃ c, c = lo a b := ⟨_, rfl⟩
  obtain ⟨d, hd⟩ : ∃ d, d = hi a b := ⟨_, rfl⟩
  have HC := Lib.hid hc
  have HD := Lib.hid hd
  rw [← hc, ← hd]
  have hle' := Lib.hid (show c ≤ d ∧ d < 18446744073709551616 by rw [hc, hd]; exact hle.out)
  have hio : ∀ w, Calls Try.prog 15 #[.float .f64 a, .float .f64 b] w fun e w' => e = .returned (.tuple #[.int .u64 (c : Int), .int .u64 (d : Int)]) ∧ w = w' := by
    intro w; rw [hc, hd]; exact inOrder_any a b w HA.out HB.out
  have HIO := Lib.hid hio
  clear hc hd hle hio
  go_enter Try.func5, Try.ntmps5
  go_wp2_with (first | (go_at_call 14; refine (valid_any _ _ (by first | exact HA.out | exact HB.out)).mono ?_; rintro e w' ⟨rfl, rfl⟩) | (go_at_call 15; refine (HIO.out _).mono ?_; rintro e w' ⟨rfl, rfl⟩))
  obtain ⟨F, hF⟩ : ∃ F, F = d - c := ⟨_, rfl⟩
  have hw : IntKind.u64.wrap ((d : Int) - (c : Int)) = (F : Int) := by have := hle'.out; rw [IntKind.wrap_u64]; omega
  have hF1 : (F : Int) ≤ 18446744073709551615 := by have := hle'.out; omega
  have HF := Lib.hid hF
  clear hF
  go_quiet (fail)
  clear hF1 hw
  generalize hw0 : w.drewN nq = w0
  have HW0 := Lib.hid (show Below w.heap.size w w0 by rw [← hw0]; exact Below.drewN (Below.refl _ _) nq)
  clear hw0
  obtain ⟨P, hP⟩ : ∃ P, P = F / (n + 1) := ⟨_, rfl⟩
  obtain ⟨R, hR⟩ : ∃ R, R = F % (n + 1) := ⟨_, rfl⟩
  have hp : IntKind.u64.wrap ((F : Int) / ((n : Int) + 1)) = (P : Int) := by
    have h1 : F / (n + 1) ≤ F := Nat.div_le_self _ _
    have h2 := hle'.out
    have h3 := HF.out
    have h4 : (F : Int) / ((n : Int) + 1) = ((F / (n + 1) : Nat) : Int) := by simp
    rw [h4, IntKind.wrap_u64, hP]; omega
  have hr : (F : Int) % ((n : Int) + 1) = (R : Int) := by rw [hR]; simp
  have HP := Lib.hid hP
  have HR := Lib.hid hR
  clear hP hR
  rw [hp, hr]
  clear hp hr
  go_wp2
  go_loopw [53] (fun i wr => StepsRel c d n w0 i wr) (fun i _ => n - (intOf i).toNat)
  case atStart => exact ⟨0, _, Nat.zero_le _, rfl, size_madeCells _ _, fun j hj => by omega, rfl⟩
  case round =>
    obtain ⟨k, arr, hk, rfl, hsz, harr, rfl⟩ := hrel
    have HSZ := Lib.hid hsz
    have HARR := Lib.hid harr
    clear hsz harr
    by_cases hlt : k < n
    · have hks : k < arr.size := by rw [HSZ.out]; exact hlt
      have hc : (w0.alloc (.cells arr 22)).cell? ⟨w0.heap.size, k, none⟩ = some arr[k] := by
        have := cell_of_row _ _ k arr 22 (0, 0) (heap_alloc_new w0 (.cells arr 22))
        rw [Array.getElem?_eq_getElem hks] at this
        exact this
      go_wp2_with (first | (go_at_call 16; refine (number_w _ _).mono ?_; rintro e w' ⟨rfl, rfl⟩))
      go_roundw
      case rel =>
        refine ⟨k + 1, _, by omega, by go_num, ?_, ?_, rfl⟩
        · simp [HSZ.out]
        · intro j hj
          rw [Array.getElem?_setIfInBounds]
          by_cases hjk : k = j
          · subst hjk
            rw [if_pos rfl, if_pos (by rw [HSZ.out]; exact hlt), step_val c d n k F P R hle'.out.1 hle'.out.2 hlt h2 HF.out HP.out HR.out]
          · rw [if_neg hjk]; exact HARR.out j (by omega)
      case measure => simp [intOf]; omega
    · go_wp2
      go_ret2
      obtain rfl : k = n := by omega
      refine ⟨_, rfl, ⟨by simp [fl, stl_length], fun j v hj => ⟨_, rfl, ?_⟩⟩, HW0.out.alloc HW0.out.size _⟩
      rw [add_at, cell_of_row _ _ _ arr 22 (0, 0) (heap_alloc_new w0 _)]
      have hjk : j < k := by have := (List.getElem?_eq_some_iff.1 hj).1; simpa [fl, stl_length] using this
      rw [HARR.out j hjk, ← hj]
      simp [fl, stl_get c d k j hjk]
end Go.Proofs.Ytgcolbkgldcfiab.Sc
