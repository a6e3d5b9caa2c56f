/-
  The walk of the law that goes up and down, and between two.
-/
import Derived.Test.YtgcolbkgldcfiabScSteps
import Derived.Test.YtgcolbkgldcfiabScOrder
namespace Go.Proofs.Ytgcolbkgldcfiab.Sc
open Go.RowKit Go.Deep
set_option linter.unusedVariables false

theorem num_code' {b : Nat} (hb : b < 18446744073709551616) (h5 : cls b ≠ 5) : num (code b) = b := by
  have := cls_lt h5
  unfold code; rw [if_neg h5]; unfold num
  repeat' split
  all_goals omega
theorem code_num5 {b : Nat} (hb : b < 18446744073709551616) (h5 : cls b ≠ 5) : 4503599627370495 ≤ code b ∧ code b ≤ 18442240474082181120 := by
  rcases code_range b hb with h | h
  · exact absurd ((code_nan b hb).1 h) h5
  · exact h
theorem prev_next {b : Nat} (hb : b < 18446744073709551616) (h5 : cls b ≠ 5) : prev (next b) = b := by
  have hr := code_num5 hb h5
  have hn := num_code' hb h5
  unfold next
  split
  · have : code b = 18442240474082181120 := by omega
    unfold prev; rw [code_num _ (.inl rfl), if_pos rfl, ← this, hn]
  · unfold prev; rw [code_num _ (.inr (by omega)), if_neg (by omega), if_neg (by omega), Nat.add_sub_cancel, hn]
theorem next_prev {b : Nat} (hb : b < 18446744073709551616) (h5 : cls b ≠ 5) (hl : code b ≠ 4503599627370495) : next (prev b) = b := by
  have hr := code_num5 hb h5
  have hn := num_code' hb h5
  unfold prev
  rw [if_neg (by omega), if_neg hl]
  unfold next; rw [code_num _ (.inr (by omega)), if_neg (by omega), Nat.sub_add_cancel (by omega), hn]
theorem prev_lt (b : Nat) (hb : b < 18446744073709551616) : prev b < 18446744073709551616 := by
  have := code_lt b hb
  unfold prev
  split
  · exact num_lt _ (by omega)
  · split
    · exact num_lt _ (by omega)
    · exact num_lt _ (by omega)
theorem cmp_neg (a b : Nat) : decide (cmp a b < 0) = decide (code a < code b) := by
  unfold cmp; repeat' split
  all_goals (simp; try omega)
theorem low_not {b : Nat} (hb : b < 18446744073709551616) (hl : code b = 4503599627370495) : cls b = 4 ∧ (FloatKind.f64.format.order b 0 == some .gt) = false := by
  have h5 : cls b ≠ 5 := fun h => by have := (code_nan b hb).2 h; omega
  have hn := num_code' hb h5
  rw [hl] at hn
  have hv : num 4503599627370495 = 18442240474082181120 := by unfold num; simp
  rw [hv] at hn
  refine ⟨by rw [← hn]; unfold cls; simp, ?_⟩
  rw [beq_eq_false_iff_ne]
  intro h
  have := (order_code hb (show 0 < 18446744073709551616 by omega)).2.1 h
  rw [hl, code0] at this
  omega

set_option maxHeartbeats 400000 in
theorem steps_bad (a b : Nat) (n : Int) (w : World) (HA : Hid (a < 18446744073709551616)) (HB : Hid (b < 18446744073709551616)) (h : valid a = false ∨ valid b = false ∨ n < 1 ∨ 1000 < n) :
    Calls Try.prog 5 #[.float .f64 a, .float .f64 b, .int .i64 n] w fun e w' => ∃ er, er ≠ 0 ∧ e = .returned (.tuple #[.slice none 0 0, .int .i64 er]) ∧ w = w' := by
  cases hva : valid a
  · go_enter Try.func5, Try.ntmps5
    go_wp2_with (first | (go_at_call 14; refine (valid_any _ _ (by first | exact HA.out | exact HB.out)).mono ?_; rintro e w' ⟨rfl, rfl⟩))
    go_ret2
    exact ⟨10, by decide, rfl, rfl⟩
  cases hvb : valid b
  · go_enter Try.func5, Try.ntmps5
    go_wp2_with (first | (go_at_call 14; refine (valid_any _ _ (by first | exact HA.out | exact HB.out)).mono ?_; rintro e w' ⟨rfl, rfl⟩))
    go_ret2
    exact ⟨10, by decide, rfl, rfl⟩
  rcases h with h | h | h | h
  · rw [hva] at h; cases h
  · rw [hvb] at h; cases h
  · have t1 : decide (n < 1) = true := by simp; omega
    go_enter Try.func5, Try.ntmps5
    go_wp2_with (first | (go_at_call 14; refine (valid_any _ _ (by first | exact HA.out | exact HB.out)).mono ?_; rintro e w' ⟨rfl, rfl⟩))
    go_ret2
    exact ⟨1, by decide, rfl, rfl⟩
  · have t1 : decide (n < 1) = false := by simp; omega
    have t2 : decide (1000 < n) = true := by simp; omega
    go_enter Try.func5, Try.ntmps5
    go_wp2_with (first | (go_at_call 14; refine (valid_any _ _ (by first | exact HA.out | exact HB.out)).mono ?_; rintro e w' ⟨rfl, rfl⟩))
    go_ret2
    exact ⟨1, by decide, rfl, rfl⟩

theorem inf_order {x : Nat} (hx : x < 18446744073709551616) (h4 : cls x = 4) :
    ((FloatKind.f64.format.order x 0 == some .lt) = true ∧ (FloatKind.f64.format.order x 0 == some .gt) = false) ∨ ((FloatKind.f64.format.order x 0 == some .lt) = false ∧ (FloatKind.f64.format.order x 0 == some .gt) = true ∧ code x ≠ 4503599627370495) := by
  have hr := read_inf hx (cls_4 h4)
  have hf : FloatKind.f64.format = Ieee.double := rfl
  have ho : Ieee.double.order x 0 = some (if (!decide (x < 9223372036854775808)) = true then .lt else .gt) := by
    unfold Ieee.Format.order; rw [hr, read_zero]; rfl
  rw [hf, ho]
  by_cases h : x < 9223372036854775808
  · right
    refine ⟨by simp [h], by simp [h], ?_⟩
    have c5 : cls x ≠ 5 := by rw [h4]; decide
    unfold code; rw [if_neg c5, if_pos h]; omega
  · left; simp [h]
/-- The four ways that a number can go through the law's first half. -/
def Ways (x : Nat) : Prop :=
  (cls x != 5) = false ∨
  ((cls x != 5) = true ∧ (cls x != 4) = true ∧ ((prev (next x) : Int) == (x : Int)) = true ∧ ((next (prev x) : Int) == (x : Int)) = true) ∨
  ((cls x != 5) = true ∧ (cls x != 4) = false ∧ (FloatKind.f64.format.order x 0 == some .lt) = true ∧ (FloatKind.f64.format.order x 0 == some .gt) = false ∧ ((prev (next x) : Int) == (x : Int)) = true) ∨
  ((cls x != 5) = true ∧ (cls x != 4) = false ∧ (FloatKind.f64.format.order x 0 == some .lt) = false ∧ (FloatKind.f64.format.order x 0 == some .gt) = true ∧ ((next (prev x) : Int) == (x : Int)) = true)
theorem ways (x : Nat) (hx : x < 18446744073709551616) : Ways x := by
  by_cases h5 : cls x = 5
  · left; rw [h5]; rfl
  right
  have hp : ((prev (next x) : Int) == (x : Int)) = true := by rw [prev_next hx h5]; simp
  by_cases h4 : cls x = 4
  · right
    rcases inf_order hx h4 with ⟨h1, h2⟩ | ⟨h1, h2, h3⟩
    · left; exact ⟨by rw [h4]; rfl, by rw [h4]; rfl, h1, h2, hp⟩
    · right; exact ⟨by rw [h4]; rfl, by rw [h4]; rfl, h1, h2, by rw [next_prev hx h5 h3]; simp⟩
  · left
    refine ⟨bne_iff_ne.2 h5, bne_iff_ne.2 h4, hp, ?_⟩
    rw [next_prev hx h5 (fun h => h4 (low_not hx h).1)]; simp

set_option maxHeartbeats 1000000 in
theorem walks_first (x a b : Nat) (n : Int) (w : World) (HX : Hid (x < 18446744073709551616)) (HA : Hid (a < 18446744073709551616)) (HB : Hid (b < 18446744073709551616)) (HN : Hid (next x < 18446744073709551616)) (HP : Hid (prev x < 18446744073709551616))
    (hw : Ways x) (HS : Hid (valid a = false ∨ valid b = false ∨ n < 1 ∨ 1000 < n)) :
    Calls Try.prog 4 #[.float .f64 x, .float .f64 a, .float .f64 b, .int .i64 n] w fun e w' => e = .returned (.bool true) ∧ Below w.heap.size w w' := by
  rcases hw with h5 | ⟨h5, h4, s1, s2⟩ | ⟨h5, h4, h6, h7, s1⟩ | ⟨h5, h4, h6, h7, s2⟩
  all_goals
    go_enter Try.func4, Try.ntmps4
    go_wp2_with (first | (go_at_call 11; refine (rclass_any _ _ HX.out).mono ?_; rintro e w' ⟨rfl, rfl⟩) | (go_at_call 12; refine (next_any _ _ (by first | exact HX.out | exact HP.out)).mono ?_; rintro e w' ⟨rfl, rfl⟩) | (go_at_call 8; refine (prev_any _ _ (by first | exact HX.out | exact HN.out)).mono ?_; rintro e w' ⟨rfl, rfl⟩) | (go_at_call 7; refine (rsame_any _ _ _).mono ?_; rintro e w' ⟨rfl, rfl⟩))
    refine (steps_bad _ _ _ _ HA HB HS.out).mono ?_
    rintro e w1 ⟨er, hne, rfl, rfl⟩
    have hq : (er != 0) = true := by rw [bne_iff_ne]; exact hne
    clear hne
    go_wp2_with (go_at_call 10; refine (known_any _).mono ?_; rintro e w' ⟨rfl, hb⟩)
    go_ret
    exact ⟨rfl, hb⟩

theorem cmp_pos (a b : Nat) : decide (0 < cmp a b) = decide (code b < code a) := by
  unfold cmp; repeat' split
  all_goals (simp; try omega)
theorem Sl.drewN {w : World} {A : Option Addr} {n : Nat} {xs : List Value} (h : Sl w A n xs) (m : Nat) : Sl (w.drewN m) A n xs := h
structure Fine (a b : Nat) (l : List Nat) (n : Nat) : Prop where
  len : l.length = n
  lt : ∀ x ∈ l, x < 18446744073709551616
  lo : ∀ x ∈ l, lo a b ≤ code x
  hi : ∀ x ∈ l, code x ≤ hi a b
  up : ∀ (i : Nat) (x y : Nat), l[i]? = some x → l[i + 1]? = some y → code x ≤ code y
theorem fine_stl (a b n : Nat) (ha : a < 18446744073709551616) (hb : b < 18446744073709551616) (va : valid a = true) (vb : valid b = true) : Fine a b (stl (lo a b) (hi a b) n) n := by
  have h1 := code_valid ha va
  have h2 := code_valid hb vb
  have hle := lo_hi a b ha hb
  have hlo : 4503599627370496 ≤ lo a b := by unfold lo; omega
  have hhi : hi a b < 18442240474082181120 := by unfold hi; omega
  have hs : ∀ k, k < n → code (num (stc (lo a b) (hi a b) n (k + 1))) = stc (lo a b) (hi a b) n (k + 1) := by
    intro k hk
    have := stc_le (lo a b) (hi a b) n (k + 1) hle.1 (by omega)
    exact code_num _ (.inr (by omega))
  have hm : ∀ x ∈ stl (lo a b) (hi a b) n, ∃ k, k < n ∧ x = num (stc (lo a b) (hi a b) n (k + 1)) := by
    intro x hx
    simp [stl] at hx
    obtain ⟨k, hk, rfl⟩ := hx
    exact ⟨k, hk, rfl⟩
  refine ⟨stl_length _ _ _, fun x hx => ?_, fun x hx => ?_, fun x hx => ?_, fun i x y hx hy => ?_⟩
  · obtain ⟨k, hk, rfl⟩ := hm x hx
    have := stc_le (lo a b) (hi a b) n (k + 1) hle.1 (by omega)
    exact num_lt _ (by omega)
  · obtain ⟨k, hk, rfl⟩ := hm x hx
    rw [hs k hk]; exact (stc_le (lo a b) (hi a b) n (k + 1) hle.1 (by omega)).1
  · obtain ⟨k, hk, rfl⟩ := hm x hx
    rw [hs k hk]; exact (stc_le (lo a b) (hi a b) n (k + 1) hle.1 (by omega)).2
  · have hi1 : i + 1 < n := by have := (List.getElem?_eq_some_iff.1 hy).1; rw [stl_length] at this; exact this
    rw [stl_get _ _ _ _ (by omega)] at hx
    rw [stl_get _ _ _ _ hi1] at hy
    cases hx; cases hy
    rw [hs i (by omega), hs (i + 1) hi1]
    exact stc_mono _ _ _ _ _ (by omega)

theorem compare_q (a b : Nat) (w : World) (ha : a < 18446744073709551616) (hb : b < 18446744073709551616) :
    Calls Try.prog 13 #[.float .f64 a, .float .f64 b] w fun e w' => e = .returned (.int .i64 (cmp a b)) ∧ w' = w :=
  (compare_any a b w ha hb).mono fun _ _ h => ⟨h.1, h.2.symm⟩
def WalkRel (w : World) (g n : Nat) (L : List Nat) (i : Value) (wr : World) : Prop :=
  ∃ k : Nat, k ≤ n ∧ i = .int .i64 (k : Int) ∧ Below w.heap.size w wr ∧ Sl wr (some ⟨g, 0, none⟩) n (fl L)

set_option maxHeartbeats 1000000 in
theorem walks_second (x a b n : Nat) (w : World) (HX : Hid (x < 18446744073709551616)) (HA : Hid (a < 18446744073709551616)) (HB : Hid (b < 18446744073709551616)) (HN : Hid (next x < 18446744073709551616)) (HP : Hid (prev x < 18446744073709551616))
    (hw : Ways x) (hva : valid a = true) (hvb : valid b = true) (h1 : 1 ≤ n) (h2 : n ≤ 1000) :
    Calls Try.prog 4 #[.float .f64 x, .float .f64 a, .float .f64 b, .int .i64 (n : Int)] w fun e w' => e = .returned (.bool true) ∧ Below w.heap.size w w' := by
  have HF := Lib.hid (fine_stl a b n HA.out HB.out hva hvb)
  have HVA := Lib.hid hva
  have HVB := Lib.hid hvb
  clear hva hvb
  cases hgt : decide (0 < cmp a b)
  · have HLM := Lib.hid (show lo a b = code a ∧ hi a b = code b by
      rw [cmp_pos, decide_eq_false_iff_not] at hgt; unfold lo hi; omega)
    rcases hw with h5 | ⟨h5, h4, s1, s2⟩ | ⟨h5, h4, h6, h7, s1⟩ | ⟨h5, h4, h6, h7, s2⟩
    all_goals
      go_enter Try.func4, Try.ntmps4
      go_wp2_with (first | (go_at_call 11; refine (rclass_any _ _ HX.out).mono ?_; rintro e w' ⟨rfl, rfl⟩) | (go_at_call 12; refine (next_any _ _ (by first | exact HX.out | exact HP.out)).mono ?_; rintro e w' ⟨rfl, rfl⟩) | (go_at_call 8; refine (prev_any _ _ (by first | exact HX.out | exact HN.out)).mono ?_; rintro e w' ⟨rfl, rfl⟩) | (go_at_call 7; refine (rsame_any _ _ _).mono ?_; rintro e w' ⟨rfl, rfl⟩))
      refine (steps_ok _ _ _ _ HA HB HVA.out HVB.out h1 h2).mono ?_
      rintro e w1 ⟨g, rfl, hsl, hbel⟩
      have HSL := Lib.hid hsl
      have HBEL := Lib.hid hbel
      clear hsl hbel
      go_wp2_with (go_at_call 13; refine (compare_any _ _ _ HA.out HB.out).mono ?_; rintro e w' ⟨rfl, rfl⟩)
      go_loopw [14] (fun i wr => WalkRel w g n (stl (lo a b) (hi a b) n) i wr) (fun i _ => n - (intOf i).toNat)
      case atStart => exact ⟨0, Nat.zero_le _, rfl, HBEL.out, HSL.out⟩
      case round =>
        obtain ⟨k, hk, rfl, hbel, hsl⟩ := hrel
        have HSR := Lib.hid hsl
        have HBR := Lib.hid hbel
        clear hsl hbel
        by_cases hlt : k < n
        · obtain ⟨z, hz⟩ : ∃ z, (stl (lo a b) (hi a b) n)[k]? = some z := ⟨_, List.getElem?_eq_getElem (by rw [stl_length]; exact hlt)⟩
          have hc : wr.cell? ⟨g, k, none⟩ = some (.float .f64 z) := by
            obtain ⟨ad, he, hcell⟩ := HSR.out.at_ hlt
            cases he
            rw [add_at] at hcell
            rw [hcell]; simp [fl, hz]
          have HZ := Lib.hid (HF.out.lt z (List.mem_of_getElem? hz))
          have c1 : decide (cmp z a < 0) = false := by
            rw [cmp_neg, decide_eq_false_iff_not]; have := HF.out.lo z (List.mem_of_getElem? hz); have := HLM.out.1; omega
          have c2 : decide (cmp b z < 0) = false := by
            rw [cmp_neg, decide_eq_false_iff_not]; have := HF.out.hi z (List.mem_of_getElem? hz); have := HLM.out.2; omega
          by_cases h0 : k = 0
          · subst h0
            have HZZ := Lib.hid hz
            clear hz
            go_wp2_with fail
            go_quiet ((go_at_call 13; exact Calls.quiet_of_same (compare_q _ _ _ (by first | exact HZ.out | exact HA.out | exact HB.out) (by first | exact HZ.out | exact HA.out | exact HB.out))))
            go_wp2
            go_roundw
            case rel => exact ⟨1, by omega, by go_num, Below.drewN HBR.out _, Sl.drewN HSR.out _⟩
            case measure => simp [intOf]; omega
          · obtain ⟨j, rfl⟩ : ∃ j, k = j + 1 := ⟨k - 1, by omega⟩
            obtain ⟨y, hy⟩ : ∃ y, (stl (lo a b) (hi a b) n)[j]? = some y := ⟨_, List.getElem?_eq_getElem (by rw [stl_length]; omega)⟩
            have hcy : wr.cell? ⟨g, j, none⟩ = some (.float .f64 y) := by
              obtain ⟨ad, he, hcell⟩ := HSR.out.at_ (show j < n by omega)
              cases he
              rw [add_at] at hcell
              rw [hcell]; simp [fl, hy]
            have HY := Lib.hid (HF.out.lt y (List.mem_of_getElem? hy))
            have c3 : decide (cmp z y < 0) = false := by
              rw [cmp_neg, decide_eq_false_iff_not]; have := HF.out.up j y z hy hz; omega
            have t0 : decide ((0 : Int) < (j : Int) + 1) = true := by rw [decide_eq_true_eq]; omega
            have t3 : (0 : Int) < (j : Int) + 1 := by omega
            have t4 : (0 : Int) ≤ (j : Int) := by omega
            have t5 : (j : Int) < (n : Int) := by omega
            have t6 : (j : Int) + 1 < (n : Int) := by omega
            have t7 : IntKind.i64.wrap (j : Int) = (j : Int) := IntWalk.i64_in _ (by omega)
            have ec : ((j + 1 : Nat) : Int) = (j : Int) + 1 := by omega
            rw [ec]
            clear ec h0
            have HZZ := Lib.hid hz
            have HYY := Lib.hid hy
            clear hz hy
            go_wp2_with fail
            go_quiet ((go_at_call 13; exact Calls.quiet_of_same (compare_q _ _ _ (by first | exact HZ.out | exact HY.out | exact HA.out | exact HB.out) (by first | exact HZ.out | exact HY.out | exact HA.out | exact HB.out))))
            go_wp2
            go_roundw
            case rel => exact ⟨j + 1 + 1, by omega, by go_num, Below.drewN HBR.out _, Sl.drewN HSR.out _⟩
            case measure => simp [intOf]; omega
        · obtain rfl : k = n := by omega
          go_wp2_with (go_at_call 10; refine (known_any _).mono ?_; rintro e w' ⟨rfl, hb⟩)
          go_ret
          exact ⟨rfl, HBR.out.trans (hb.mono HBR.out.size)⟩
  · have HLM := Lib.hid (show lo a b = code b ∧ hi a b = code a by
      rw [cmp_pos, decide_eq_true_eq] at hgt; unfold lo hi; omega)
    rcases hw with h5 | ⟨h5, h4, s1, s2⟩ | ⟨h5, h4, h6, h7, s1⟩ | ⟨h5, h4, h6, h7, s2⟩
    all_goals
      go_enter Try.func4, Try.ntmps4
      go_wp2_with (first | (go_at_call 11; refine (rclass_any _ _ HX.out).mono ?_; rintro e w' ⟨rfl, rfl⟩) | (go_at_call 12; refine (next_any _ _ (by first | exact HX.out | exact HP.out)).mono ?_; rintro e w' ⟨rfl, rfl⟩) | (go_at_call 8; refine (prev_any _ _ (by first | exact HX.out | exact HN.out)).mono ?_; rintro e w' ⟨rfl, rfl⟩) | (go_at_call 7; refine (rsame_any _ _ _).mono ?_; rintro e w' ⟨rfl, rfl⟩))
      refine (steps_ok _ _ _ _ HA HB HVA.out HVB.out h1 h2).mono ?_
      rintro e w1 ⟨g, rfl, hsl, hbel⟩
      have HSL := Lib.hid hsl
      have HBEL := Lib.hid hbel
      clear hsl hbel
      go_wp2_with (go_at_call 13; refine (compare_any _ _ _ HA.out HB.out).mono ?_; rintro e w' ⟨rfl, rfl⟩)
      go_loopw [14] (fun i wr => WalkRel w g n (stl (lo a b) (hi a b) n) i wr) (fun i _ => n - (intOf i).toNat)
      case atStart => exact ⟨0, Nat.zero_le _, rfl, HBEL.out, HSL.out⟩
      case round =>
        obtain ⟨k, hk, rfl, hbel, hsl⟩ := hrel
        have HSR := Lib.hid hsl
        have HBR := Lib.hid hbel
        clear hsl hbel
        by_cases hlt : k < n
        · obtain ⟨z, hz⟩ : ∃ z, (stl (lo a b) (hi a b) n)[k]? = some z := ⟨_, List.getElem?_eq_getElem (by rw [stl_length]; exact hlt)⟩
          have hc : wr.cell? ⟨g, k, none⟩ = some (.float .f64 z) := by
            obtain ⟨ad, he, hcell⟩ := HSR.out.at_ hlt
            cases he
            rw [add_at] at hcell
            rw [hcell]; simp [fl, hz]
          have HZ := Lib.hid (HF.out.lt z (List.mem_of_getElem? hz))
          have c1 : decide (cmp z b < 0) = false := by
            rw [cmp_neg, decide_eq_false_iff_not]; have := HF.out.lo z (List.mem_of_getElem? hz); have := HLM.out.1; omega
          have c2 : decide (cmp a z < 0) = false := by
            rw [cmp_neg, decide_eq_false_iff_not]; have := HF.out.hi z (List.mem_of_getElem? hz); have := HLM.out.2; omega
          by_cases h0 : k = 0
          · subst h0
            have HZZ := Lib.hid hz
            clear hz
            go_wp2_with fail
            go_quiet ((go_at_call 13; exact Calls.quiet_of_same (compare_q _ _ _ (by first | exact HZ.out | exact HA.out | exact HB.out) (by first | exact HZ.out | exact HA.out | exact HB.out))))
            go_wp2
            go_roundw
            case rel => exact ⟨1, by omega, by go_num, Below.drewN HBR.out _, Sl.drewN HSR.out _⟩
            case measure => simp [intOf]; omega
          · obtain ⟨j, rfl⟩ : ∃ j, k = j + 1 := ⟨k - 1, by omega⟩
            obtain ⟨y, hy⟩ : ∃ y, (stl (lo a b) (hi a b) n)[j]? = some y := ⟨_, List.getElem?_eq_getElem (by rw [stl_length]; omega)⟩
            have hcy : wr.cell? ⟨g, j, none⟩ = some (.float .f64 y) := by
              obtain ⟨ad, he, hcell⟩ := HSR.out.at_ (show j < n by omega)
              cases he
              rw [add_at] at hcell
              rw [hcell]; simp [fl, hy]
            have HY := Lib.hid (HF.out.lt y (List.mem_of_getElem? hy))
            have c3 : decide (cmp z y < 0) = false := by
              rw [cmp_neg, decide_eq_false_iff_not]; have := HF.out.up j y z hy hz; omega
            have t0 : decide ((0 : Int) < (j : Int) + 1) = true := by rw [decide_eq_true_eq]; omega
            have t3 : (0 : Int) < (j : Int) + 1 := by omega
            have t4 : (0 : Int) ≤ (j : Int) := by omega
            have t5 : (j : Int) < (n : Int) := by omega
            have t6 : (j : Int) + 1 < (n : Int) := by omega
            have t7 : IntKind.i64.wrap (j : Int) = (j : Int) := IntWalk.i64_in _ (by omega)
            have ec : ((j + 1 : Nat) : Int) = (j : Int) + 1 := by omega
            rw [ec]
            clear ec h0
            have HZZ := Lib.hid hz
            have HYY := Lib.hid hy
            clear hz hy
            go_wp2_with fail
            go_quiet ((go_at_call 13; exact Calls.quiet_of_same (compare_q _ _ _ (by first | exact HZ.out | exact HY.out | exact HA.out | exact HB.out) (by first | exact HZ.out | exact HY.out | exact HA.out | exact HB.out))))
            go_wp2
            go_roundw
            case rel => exact ⟨j + 1 + 1, by omega, by go_num, Below.drewN HBR.out _, Sl.drewN HSR.out _⟩
            case measure => simp [intOf]; omega
        · obtain rfl : k = n := by omega
          go_wp2_with (go_at_call 10; refine (known_any _).mono ?_; rintro e w' ⟨rfl, hb⟩)
          go_ret
          exact ⟨rfl, HBR.out.trans (hb.mono HBR.out.size)⟩

theorem walk_scoreWalks (x : Nat) (wx : (Lit.float .f64 x).wf = true) (a : Nat) (wa : (Lit.float .f64 a).wf = true) (b : Nat) (wb : (Lit.float .f64 b).wf = true) (n : Int) (_wn : (Lit.int .i64 n).wf = true) (w : World) :
    Calls Try.prog 4 #[.float .f64 x, .float .f64 a, .float .f64 b, .int .i64 n] w fun e w' => e = .returned (.bool true) ∧ Below w.heap.size w w' := by
  have hx := wf_f64 wx
  have ha := wf_f64 wa
  have hb := wf_f64 wb
  by_cases h : valid a = false ∨ valid b = false ∨ n < 1 ∨ 1000 < n
  · exact walks_first x a b n w (Lib.hid hx) (Lib.hid ha) (Lib.hid hb) (Lib.hid (next_lt x hx)) (Lib.hid (prev_lt x hx)) (ways x hx) (Lib.hid h)
  · have h1 : valid a = true := by cases hv : valid a; exact absurd (.inl hv) h; rfl
    have h2 : valid b = true := by cases hv : valid b; exact absurd (.inr (.inl hv)) h; rfl
    have h3 : 1 ≤ n ∧ n ≤ 1000 := by omega
    obtain ⟨m, rfl⟩ := Int.eq_ofNat_of_zero_le (show 0 ≤ n by omega)
    exact walks_second x a b m w (Lib.hid hx) (Lib.hid ha) (Lib.hid hb) (Lib.hid (next_lt x hx)) (Lib.hid (prev_lt x hx)) (ways x hx) h1 h2 (by omega) (by omega)
end Go.Proofs.Ytgcolbkgldcfiab.Sc
