/-
  The document's package's own arithmetic: the roots of primes.
-/
import Derived.Test.YtfdjphinicafiabDoorShPower
namespace Go.Proofs.YtfdjphinicafiabDoor.Sh
open Go.RowKit Go.Proofs.YtfdjphinicafiabDoor.Gn Go.Deep
set_option linter.unusedVariables false
attribute [local go_sem ↓] Go.wp_at_zero Go.wp_at_succ

theorem above_eq (a b : List Nat) (r : Bool) (hr : abv a b = r) (n m : Nat) (hn : a.length = n) (hm : b.length = m) (A B : Option Addr) (c d : Nat) (w : World) (hn1 : n ≤ 40) (hm1 : m ≤ 40) (ha : Sl w A n (nl a)) (hb : Sl w B m (nl b)) :
    Calls Tryd.prog 37 #[.slice A n c, .slice B m d] w fun e w' => e = .returned (.bool r) ∧ w = w' := by
  subst hr; exact above_any a b n m hn hm A B c d w hn1 hm1 ha hb
theorem prl_le : ∀ x ∈ prl, x < 410 := by
  intro x hx
  have := (List.mem_filter.1 hx).1
  exact List.mem_range.1 this
theorem prl_get (i : Nat) : prl.getD i 0 < 410 := by
  rw [List.getD_eq_getElem?_getD]
  cases h : prl[i]? with
  | none => decide
  | some x => exact prl_le x (List.mem_of_getElem? h)
theorem sq_small {h p : Nat} (hp : p < 410) (hh : h * h ≤ p) : h ≤ 20 := by
  rcases Nat.lt_or_ge h 21 with h1 | h1
  · omega
  · have := Nat.mul_le_mul h1 h1; omega
theorem cu_small {h p : Nat} (hp : p < 410) (hh : h * h * h ≤ p) : h ≤ 20 := by
  rcases Nat.lt_or_ge h 21 with h1 | h1
  · omega
  · have := Nat.mul_le_mul (Nat.mul_le_mul h1 h1) h1; omega
theorem rk2_at (k h : Nat) (hk : k < 8) (h1 : h * h ≤ prl.getD k 0) (h2 : prl.getD k 0 < (h + 1) * (h + 1)) : rok h (sc.getD k 0) 2 (prl.getD k 0) = true := by
  have hh := sq_small (prl_get k) h1
  have t := rk2_true
  unfold rk2 at t
  rw [List.all_eq_true] at t
  have t1 := t k (List.mem_range.2 hk)
  rw [List.all_eq_true] at t1
  have a := t1 h (List.mem_range.2 (by omega))
  simp only [decide_eq_true h1, decide_eq_true h2, Bool.and_self, Bool.not_true, Bool.false_or] at a
  exact a
theorem rk3_at (k h : Nat) (hk : k < 80) (h1 : h * h * h ≤ prl.getD k 0) (h2 : prl.getD k 0 < (h + 1) * (h + 1) * (h + 1)) : rok h (kc.getD k 0) 3 (prl.getD k 0) = true := by
  have hh := cu_small (prl_get k) h1
  have t := rk3_true
  unfold rk3 at t
  rw [List.all_eq_true] at t
  have t1 := t k (List.mem_range.2 hk)
  rw [List.all_eq_true] at t1
  have a := t1 h (List.mem_range.2 (by omega))
  simp only [decide_eq_true h1, decide_eq_true h2, Bool.and_self, Bool.not_true, Bool.false_or] at a
  exact a
theorem rok_parts {h c of p : Nat} (hr : rok h c of p = true) : abv (pw h c of false) (want of p) = false ∧ abv (pw h c of true) (want of p) = true := by
  unfold rok at hr
  simpa using hr
theorem sc_lt : ∀ x ∈ sc, x < 18446744073709551616 := by decide
theorem kc_lt : ∀ x ∈ kc, x < 18446744073709551616 := by decide
theorem getD_lt {l : List Nat} {M : Nat} (hM : 0 < M) (h : ∀ x ∈ l, x < M) (i : Nat) : l.getD i 0 < M := by
  rw [List.getD_eq_getElem?_getD]
  cases e : l[i]? with
  | none => exact hM
  | some x => exact h x (List.mem_of_getElem? e)
set_option maxRecDepth 100000 in
set_option maxHeartbeats 4000000 in
theorem root2_any (i : Nat) (hi : i < 8) (w : World) :
    Calls Tryd.prog 17 #[.int .i64 (i : Int), .int .u64 ((sc.getD i 0 : Nat) : Int), .int .i64 2] w fun e w' => e = .returned (.bool true) ∧ Below w.heap.size w w' := by
  obtain ⟨c, hc⟩ : ∃ c, c = sc.getD i 0 := ⟨_, rfl⟩
  obtain ⟨p, hp⟩ : ∃ p, p = prl.getD i 0 := ⟨_, rfl⟩
  have hcb := Lib.hid (show c < 18446744073709551616 by rw [hc]; exact getD_lt (by decide) sc_lt i)
  have hpb : p < 410 := by rw [hp]; exact prl_get i
  have PA := Lib.hid (prime_any i (by omega) w)
  have RK := Lib.hid (fun h => rk2_at i h hi)
  rw [← hp] at PA RK
  rw [← hc] at RK ⊢
  obtain ⟨i0, hi0, hz0, hz1, hz2⟩ := info_parts info64
  have hmk := fun w => (show Sem.run Tryd.prog (Instr.makeSlice 56 (.int .i64 4) (.int .i64 4)) w = _ from run_make_row' (P := Tryd.prog) 56 22 (.int .u64 0) 8 Tryd.underlying56 info64 rfl .i64 .i64 4 (by omega) (by omega) w)
  have MK := Lib.hid hmk
  clear hc hp hmk
  go_enter Tryd.func17, Tryd.ntmps17
  go_wp2_with (go_at_call 36; (with_reducible refine PA.out.mono ?_); rintro e w' ⟨rfl, rfl⟩)
  go_loopw [8] (fun x wr => ∃ h : Nat, h ≤ 20 ∧ x = .int .u64 (h : Int) ∧ h * h ≤ p ∧ w = wr) (fun x _ => 30 - (intOf x).toNat)
  case atStart => exact ⟨0, by decide, rfl, by simp, rfl⟩
  case round =>
    obtain ⟨h, hh, rfl, hle, rfl⟩ := hrel
    have LE := Lib.hid hle
    clear hle
    obtain ⟨Q, hQ⟩ : ∃ Q, Q = (h + 1) * (h + 1) := ⟨_, rfl⟩
    have hQb : Q ≤ 21 * 21 := by rw [hQ]; exact Nat.mul_le_mul (by omega) (by omega)
    have eQ : IntKind.u64.wrap (((h : Int) + 1) * ((h : Int) + 1)) = (Q : Int) := by
      have e : ((h : Int) + 1) * ((h : Int) + 1) = (Q : Int) := by rw [hQ]; simp
      rw [e, IntKind.wrap_u64]; omega
    have HQ := Lib.hid hQ
    clear hQ
    by_cases hq : Q ≤ p
    · have LE1 := Lib.hid (show (h + 1) * (h + 1) ≤ p by rw [← HQ.out]; exact hq)
      have h20 : h + 1 ≤ 20 := sq_small hpb LE1.out
      go_wp2_with fail
      go_roundw
      case rel => exact ⟨h + 1, h20, by go_num, LE1.out, by trivial⟩
      case measure => simp [intOf] <;> omega
    · have RP := Lib.hid (rok_parts (RK.out h LE.out (by rw [← HQ.out]; omega)))
      have hmk := MK.out
      go_upto_region 6 with fail
      clear hmk eQ 
      have O0 := Lib.hid (show (w.alloc (.cells (madeCells #[.int .u64 0] 4) 22)).ownsRow w.heap.size 22 1 (.slice (some ⟨w.heap.size, 0, none⟩) 4 4) 4 (nl [0, 0, 0, 0]) by
        have e : madeCells #[.int .u64 0] 4 = (nl [0, 0, 0, 0]).toArray := by apply Array.ext'; rw [toList_madeCells_one]; rfl
        rw [e]; exact own_new w 22 (nl [0, 0, 0, 0]) (by decide))
      have D0 := Lib.hid (show Below w.heap.size w (w.alloc (.cells (madeCells #[.int .u64 0] 4) 22)) from (Below.refl _ _).alloc (Nat.le_refl _) _)
      generalize w.alloc _ = w0 at O0 D0 ⊢
      go_wp2_with (at_builtin; refine wpList_append_sl rfl _ _ 56 rfl w.heap.size 22 i0 _ 8 Tryd.underlying56 hi0 hz0 hz1 hz2 rfl _ 4 (nl [0, 0, 0, 0]) rfl (own_below O0.out ((Below.refl _ _).alloc (Nat.le_refl _) _)) (some ⟨w0.heap.size, 0, none⟩) 1 1 [.int .u64 (p : Int)] rfl (fun h => by cases h) (Sl.new_ w0 _ [.int .u64 (p : Int)]) (nl_one [p]) (by unfold maxLen; omega) (by omega) (by have := D0.out.size; simp; omega) ?_; intro v1 w1 hown1 hgrow; have D1 := Lib.hid (show Below w.heap.size w w1 from (D0.out.alloc D0.out.size _).grown hgrow (by have := D0.out.size; simp; omega) (own_blk O0.out)); obtain ⟨A1, c1, rfl, hs1, -⟩ := Sl.own hown1; have S1 := Lib.hid (show Sl w1 A1 5 (nl (want 2 p)) from hs1); clear hown1 hgrow hs1)
      have P2 := Lib.hid (power2_false h c w1 (by omega) hcb.out)
      go_wp2_with (first | (go_at_call 38; (with_reducible refine P2.out.mono ?_); rintro e w2 ⟨g2, L2, rfl, hl2, h9, hb2, hd2⟩; have Q2 := Lib.hid (bl_sl hb2 hl2); have L9 := Lib.hid (And.intro hl2 h9); have D2 := Lib.hid (D1.out.trans (hd2.mono D1.out.size)); have S2 := Lib.hid (S1.out.below hd2); clear hl2 h9 hb2 hd2) | (go_at_call 37; (with_reducible refine (above_eq _ _ false RP.out.1 L2 5 L9.out.1 rfl _ _ L2 _ w2 (by have := L9.out.2; omega) (by decide) Q2.out S2.out).mono ?_); rintro e w' ⟨rfl, rfl⟩))
      have P3 := Lib.hid (power2_true h c w2 (by omega) hcb.out)
      go_wp2_with (first | (go_at_call 38; (with_reducible refine P3.out.mono ?_); rintro e w3 ⟨g3, L3, rfl, hl3, h9, hb3, hd3⟩; have Q3 := Lib.hid (bl_sl hb3 hl3); have K9 := Lib.hid (And.intro hl3 h9); have D3 := Lib.hid (D2.out.trans (hd3.mono D2.out.size)); have S3 := Lib.hid (S2.out.below hd3); clear hl3 h9 hb3 hd3) | (go_at_call 37; (with_reducible refine (above_eq _ _ true RP.out.2 L3 5 K9.out.1 rfl _ _ L3 _ w3 (by have := K9.out.2; omega) (by decide) Q3.out S3.out).mono ?_); rintro e w' ⟨rfl, rfl⟩))
      go_ret
      exact ⟨rfl, D3.out⟩
set_option maxRecDepth 100000 in
set_option maxHeartbeats 4000000 in
theorem root3_any (i : Nat) (hi : i < 80) (w : World) :
    Calls Tryd.prog 17 #[.int .i64 (i : Int), .int .u64 ((kc.getD i 0 : Nat) : Int), .int .i64 3] w fun e w' => e = .returned (.bool true) ∧ Below w.heap.size w w' := by
  obtain ⟨c, hc⟩ : ∃ c, c = kc.getD i 0 := ⟨_, rfl⟩
  obtain ⟨p, hp⟩ : ∃ p, p = prl.getD i 0 := ⟨_, rfl⟩
  have hcb := Lib.hid (show c < 18446744073709551616 by rw [hc]; exact getD_lt (by decide) kc_lt i)
  have hpb : p < 410 := by rw [hp]; exact prl_get i
  have PA := Lib.hid (prime_any i (by omega) w)
  have RK := Lib.hid (fun h => rk3_at i h hi)
  rw [← hp] at PA RK
  rw [← hc] at RK ⊢
  obtain ⟨i0, hi0, hz0, hz1, hz2⟩ := info_parts info64
  have hmk := fun w => (show Sem.run Tryd.prog (Instr.makeSlice 56 (.int .i64 6) (.int .i64 6)) w = _ from run_make_row' (P := Tryd.prog) 56 22 (.int .u64 0) 8 Tryd.underlying56 info64 rfl .i64 .i64 6 (by omega) (by omega) w)
  have MK := Lib.hid hmk
  clear hc hp hmk
  go_enter Tryd.func17, Tryd.ntmps17
  go_wp2_with (go_at_call 36; (with_reducible refine PA.out.mono ?_); rintro e w' ⟨rfl, rfl⟩)
  go_loopw [8] (fun x wr => ∃ h : Nat, h ≤ 20 ∧ x = .int .u64 (h : Int) ∧ h * h * h ≤ p ∧ w = wr) (fun x _ => 30 - (intOf x).toNat)
  case atStart => exact ⟨0, by decide, rfl, by simp, rfl⟩
  case round =>
    obtain ⟨h, hh, rfl, hle, rfl⟩ := hrel
    have LE := Lib.hid hle
    clear hle
    obtain ⟨Q, hQ⟩ : ∃ Q, Q = (h + 1) * (h + 1) := ⟨_, rfl⟩
    have hQb : Q ≤ 21 * 21 := by rw [hQ]; exact Nat.mul_le_mul (by omega) (by omega)
    have eQ : IntKind.u64.wrap (((h : Int) + 1) * ((h : Int) + 1)) = (Q : Int) := by
      have e : ((h : Int) + 1) * ((h : Int) + 1) = (Q : Int) := by rw [hQ]; simp
      rw [e, IntKind.wrap_u64]; omega
    have HQ := Lib.hid hQ
    clear hQ
    obtain ⟨Q3, hQ3⟩ : ∃ Q3, Q3 = Q * (h + 1) := ⟨_, rfl⟩
    have hQ3b : Q3 ≤ 21 * 21 * 21 := by rw [hQ3]; exact Nat.mul_le_mul hQb (by omega)
    have eQ3 : IntKind.u64.wrap ((Q : Int) * ((h : Int) + 1)) = (Q3 : Int) := by
      have e : (Q : Int) * ((h : Int) + 1) = (Q3 : Int) := by rw [hQ3]; simp
      rw [e, IntKind.wrap_u64]; omega
    have HQ3 := Lib.hid (show Q3 = (h + 1) * (h + 1) * (h + 1) by rw [hQ3, HQ.out])
    clear hQ3
    by_cases hq : Q3 ≤ p
    · have LE1 := Lib.hid (show (h + 1) * (h + 1) * (h + 1) ≤ p by rw [← HQ3.out]; exact hq)
      have h20 : h + 1 ≤ 20 := cu_small hpb LE1.out
      go_wp2_with fail
      go_roundw
      case rel => exact ⟨h + 1, h20, by go_num, LE1.out, by trivial⟩
      case measure => simp [intOf] <;> omega
    · have RP := Lib.hid (rok_parts (RK.out h LE.out (by rw [← HQ3.out]; omega)))
      have hmk := MK.out
      go_upto_region 6 with fail
      clear hmk eQ eQ3
      have O0 := Lib.hid (show (w.alloc (.cells (madeCells #[.int .u64 0] 6) 22)).ownsRow w.heap.size 22 1 (.slice (some ⟨w.heap.size, 0, none⟩) 6 6) 6 (nl [0, 0, 0, 0, 0, 0]) by
        have e : madeCells #[.int .u64 0] 6 = (nl [0, 0, 0, 0, 0, 0]).toArray := by apply Array.ext'; rw [toList_madeCells_one]; rfl
        rw [e]; exact own_new w 22 (nl [0, 0, 0, 0, 0, 0]) (by decide))
      have D0 := Lib.hid (show Below w.heap.size w (w.alloc (.cells (madeCells #[.int .u64 0] 6) 22)) from (Below.refl _ _).alloc (Nat.le_refl _) _)
      generalize w.alloc _ = w0 at O0 D0 ⊢
      go_wp2_with (at_builtin; refine wpList_append_sl rfl _ _ 56 rfl w.heap.size 22 i0 _ 8 Tryd.underlying56 hi0 hz0 hz1 hz2 rfl _ 6 (nl [0, 0, 0, 0, 0, 0]) rfl (own_below O0.out ((Below.refl _ _).alloc (Nat.le_refl _) _)) (some ⟨w0.heap.size, 0, none⟩) 1 1 [.int .u64 (p : Int)] rfl (fun h => by cases h) (Sl.new_ w0 _ [.int .u64 (p : Int)]) (nl_one [p]) (by unfold maxLen; omega) (by omega) (by have := D0.out.size; simp; omega) ?_; intro v1 w1 hown1 hgrow; have D1 := Lib.hid (show Below w.heap.size w w1 from (D0.out.alloc D0.out.size _).grown hgrow (by have := D0.out.size; simp; omega) (own_blk O0.out)); obtain ⟨A1, c1, rfl, hs1, -⟩ := Sl.own hown1; have S1 := Lib.hid (show Sl w1 A1 7 (nl (want 3 p)) from hs1); clear hown1 hgrow hs1)
      have P2 := Lib.hid (power3_false h c w1 (by omega) hcb.out)
      go_wp2_with (first | (go_at_call 38; (with_reducible refine P2.out.mono ?_); rintro e w2 ⟨g2, L2, rfl, hl2, h9, hb2, hd2⟩; have Q2 := Lib.hid (bl_sl hb2 hl2); have L9 := Lib.hid (And.intro hl2 h9); have D2 := Lib.hid (D1.out.trans (hd2.mono D1.out.size)); have S2 := Lib.hid (S1.out.below hd2); clear hl2 h9 hb2 hd2) | (go_at_call 37; (with_reducible refine (above_eq _ _ false RP.out.1 L2 7 L9.out.1 rfl _ _ L2 _ w2 (by have := L9.out.2; omega) (by decide) Q2.out S2.out).mono ?_); rintro e w' ⟨rfl, rfl⟩))
      have P3 := Lib.hid (power3_true h c w2 (by omega) hcb.out)
      go_wp2_with (first | (go_at_call 38; (with_reducible refine P3.out.mono ?_); rintro e w3 ⟨g3, L3, rfl, hl3, h9, hb3, hd3⟩; have Q3 := Lib.hid (bl_sl hb3 hl3); have K9 := Lib.hid (And.intro hl3 h9); have D3 := Lib.hid (D2.out.trans (hd3.mono D2.out.size)); have S3 := Lib.hid (S2.out.below hd3); clear hl3 h9 hb3 hd3) | (go_at_call 37; (with_reducible refine (above_eq _ _ true RP.out.2 L3 7 K9.out.1 rfl _ _ L3 _ w3 (by have := K9.out.2; omega) (by decide) Q3.out S3.out).mono ?_); rintro e w' ⟨rfl, rfl⟩))
      go_ret
      exact ⟨rfl, D3.out⟩
end Go.Proofs.YtfdjphinicafiabDoor.Sh
