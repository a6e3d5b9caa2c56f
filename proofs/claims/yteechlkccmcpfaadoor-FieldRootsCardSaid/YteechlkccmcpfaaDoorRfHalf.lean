/-
  Halves of numbers, as rows of digits.
-/
import Derived.Test.YteechlkccmcpfaaDoorRfBase
namespace Go.Proofs.YteechlkccmcpfaaDoor.Fd
open Go.RowKit Go.Proofs.YteechlkccmcpfaaDoor.Gn Go.Deep
set_option linter.unusedVariables false

theorem bel_n1 {w a b : World} (h : Below w.heap.size w a) (k : Below a.heap.size a b) : Below w.heap.size w b := h.trans (k.mono h.size)
/-- The digits of a half up to a place. -/
def hf (m i : Nat) : List Nat := (List.range i).map fun j => (m / 2) / 65536 ^ j % 65536
theorem hf_succ (m i x : Nat) (hx : x = (m / 2) / 65536 ^ i % 65536) : hf m i ++ [x] = hf m (i + 1) := by unfold hf; rw [List.range_succ, List.map_append, hx]; rfl
theorem hf_len (m i : Nat) : (hf m i).length = i := by simp [hf]
theorem hf_dg (m i : Nat) : Dg (hf m i) := by
  intro x hx
  obtain ⟨j, -, rfl⟩ := List.mem_map.1 hx
  exact Nat.mod_lt _ (by decide)
theorem hf_all (m k : Nat) (h : m < 65536 ^ k) : vl (hf m k) = m / 2 := by
  have e : hf m k = dgk (m / 2) k k := by
    unfold hf dgk
    apply List.map_congr_left
    intro j hj
    rw [if_pos (List.mem_range.1 hj)]
  rw [e]
  exact vl_dgk_of (Nat.lt_of_le_of_lt (Nat.div_le_self _ _) h)
theorem hf_digit (m j : Nat) : (m / 2) / 65536 ^ j % 65536 = (dg m).getD j 0 / 2 + (dg m).getD (j + 1) 0 % 2 * 32768 := by
  have := shift_digit (dg m) (dg_dg m) 0 j 1 2 32768 rfl rfl
  rwa [vl_dg, Nat.pow_zero, Nat.one_mul, Nat.zero_add] at this
theorem div_pow_succ (M t : Nat) : M / 2 ^ t / 2 = M / 2 ^ (t + 1) := by rw [Nat.div_div_eq_div_mul, Nat.pow_succ]
def HfRel (M T : Nat) (w0 : World) (a n : Value) (wr : World) : Prop :=
  ∃ (t k c : Nat) (A : Option Addr), t ≤ T ∧ n = .int .i64 ((T - t : Nat) : Int) ∧ a = .slice A k c ∧ Sl wr A k (nl (dg (M / 2 ^ t))) ∧ k ≤ c ∧ k ≤ 100 ∧ Below w0.heap.size w0 wr
def HiRel2 (m k : Nat) (w1 : World) (o i : Value) (wr : World) : Prop :=
  ∃ j : Nat, j ≤ k ∧ i = .int .i64 (j : Int) ∧ wr.ownsRow w1.heap.size 22 1 o j (nl (hf m j)) ∧ Below w1.heap.size w1 wr
set_option maxHeartbeats 4000000 in
set_option maxRecDepth 100000 in
theorem half_any (A : Option Addr) (n c T : Nat) (M : Nat) (w : World) (hn : n ≤ 100) (hc : n ≤ c) (hT : T ≤ 1000) (ha : Sl w A n (nl (dg M))) :
    Calls Tryd.prog 63 #[.slice A n c, .int .i64 (T : Int)] w (RetN (M / 2 ^ T) w) := by
  obtain ⟨i0, hi, hz0, hz1, hz2⟩ := info_parts info64
  have R0 := Lib.hid (show HfRel M T w (.slice A n c) (.int .i64 (T : Int)) w from ⟨0, n, c, A, Nat.zero_le _, rfl, rfl, by rw [Nat.pow_zero, Nat.div_one]; exact ha, hc, hn, Below.refl _ _⟩)
  clear ha hn hc
  go_enter Tryd.func63, Tryd.ntmps63
  go_wp2_with fail
  go_loopw [0, 1] (fun a n wr => HfRel M T w a n wr) (fun _ n _ => (intOf n).toNat)
  case atStart => exact R0.out
  case round =>
    clear R0
    obtain ⟨wq, rfl⟩ : ∃ wq : World, wq = wr := ⟨_, rfl⟩
    obtain ⟨t, k, c, A, ht, rfl, rfl, hsl, hkc, hk, hbw⟩ := hrel
    have S0 := Lib.hid hsl
    have W0 := Lib.hid hbw
    have HK := Lib.hid (sl_len hsl)
    obtain ⟨u, hu⟩ : ∃ u, T - t = u := ⟨_, rfl⟩
    have HU := Lib.hid hu
    rw [hu]
    clear hsl hbw hu
    by_cases h0 : 0 < u
    · have t0 : decide (0 < u) = true := by simp; omega
      have ub : u ≤ 1000 := by have := HU.out; omega
      obtain ⟨m, hm⟩ : ∃ m, M / 2 ^ t = m := ⟨_, rfl⟩
      rw [hm] at S0 HK
      have HM := Lib.hid hm
      have L0 := Lib.hid (show HiRel2 m k wq (.slice none 0 0) (.int .i64 0) wq from ⟨0, Nat.zero_le _, rfl, own_nil _ _ _, Below.refl _ _⟩)
      clear hm
      go_wp2_with fail
      go_loopw [5, 6] (fun o i wx => HiRel2 m k wq o i wx) (fun _ i _ => k - (intOf i).toNat)
      case atStart => exact L0.out
      case round =>
        clear L0
        obtain ⟨j, hj, rfl, hown, hbw⟩ := hrel
        have HO := Lib.hid hown
        have HW := Lib.hid hbw
        obtain ⟨A3, cap3, rfl, hsl3, hnil3, hlc3, hmax3, hA3⟩ := Sl.own hown
        have S3 := Lib.hid hsl3
        have HA3 := Lib.hid hA3
        clear hown hbw hsl3 hnil3 hmax3 hA3
        by_cases hlt : j < k
        · obtain ⟨ad, rfl, -⟩ := (S0.out.below HW.out).at_ hlt
          obtain ⟨a, ha⟩ : ∃ a, a = (dg m).getD j 0 := ⟨_, rfl⟩
          have ca := sl_num (S0.out.below HW.out) hlt
          rw [← ha] at ca
          have ab : a < 65536 := by rw [ha]; exact (dg_dg m).get j
          obtain ⟨a1, ha1⟩ : ∃ a1, a1 = a / 2 := ⟨_, rfl⟩
          have ea1 : (a : Int) / 2 = (a1 : Int) := by omega
          have a1b : a1 < 32768 := by omega
          obtain ⟨j1, hj1⟩ : ∃ j1, j1 = j + 1 := ⟨_, rfl⟩
          have ej1 : (j : Int) + 1 = (j1 : Int) := by omega
          have DG := hf_digit m j
          rw [← ha, ← ha1, ← hj1] at DG
          have j1k : j1 ≤ k := by omega
          by_cases hlt1 : j1 < k
          · obtain ⟨b, hb⟩ : ∃ b, b = (dg m).getD j1 0 := ⟨_, rfl⟩
            have cb := sl_num (S0.out.below HW.out) hlt1
            rw [← hb] at cb
            have bb : b < 65536 := by rw [hb]; exact (dg_dg m).get j1
            obtain ⟨b1, hb1⟩ : ∃ b1, b1 = b % 2 := ⟨_, rfl⟩
            have eb1 : (b : Int) % 2 = (b1 : Int) := by omega
            obtain ⟨b2, hb2⟩ : ∃ b2, b2 = b1 * 32768 := ⟨_, rfl⟩
            have eb2 : (b1 : Int) * 32768 = (b2 : Int) := by omega
            obtain ⟨v, hv⟩ : ∃ v, v = a1 + b2 := ⟨_, rfl⟩
            have ev : (a1 : Int) + (b2 : Int) = (v : Int) := by omega
            have b1b : b1 < 2 := by omega
            have b2b : b2 < 65536 := by omega
            have ST := Lib.hid (show hf m j ++ [v] = hf m j1 by rw [hj1]; exact hf_succ m j v (by rw [DG, ← hb, ← hb1, hv, hb2]))
            have HJ1 := Lib.hid hj1
            clear hj1 ha ha1 hb hb1 hb2 hv DG
            go_wp2_with (at_builtin; refine wpList_append_sl rfl _ _ 34 rfl wq.heap.size 22 i0 _ 8 Tryd.underlying34 hi hz0 hz1 hz2 rfl _ j (nl (hf m j)) rfl (own_below HO.out ((Below.refl _ _).alloc (Nat.le_refl _) _)) (some ⟨wr.heap.size, 0, none⟩) 1 1 [.int .u64 (v : Int)] rfl (fun h => by cases h) ?c1 ?c2 ?c3 ?c4 ?c5 ?_)
            case c1 => exact Sl.new_ wr _ [.int .u64 (v : Int)]
            case c2 => first | rfl | exact nl_one [v]
            case c3 => unfold maxLen; omega
            case c4 => omega
            case c5 => have := HW.out.size; simp; omega
            intro v' w5 hown1 hgrow
            have HB5 := Lib.hid (show Below wq.heap.size wq w5 from (HW.out.alloc HW.out.size _).grown hgrow (by have := HW.out.size; simp; omega) (by
              intro g hg; simp only [Value.ownBlock] at hg; cases hA' : A3 with
              | none => rw [hA'] at hg; cases hg
              | some a => rw [hA'] at hg; simp at hg; have := HA3.out a hA'; omega))
            have HO1 := Lib.hid (show w5.ownsRow wq.heap.size 22 1 v' (j + 1) (nl (hf m j1)) by rw [← ST.out, nl_append]; exact hown1)
            clear hown1 hgrow ea1 eb1 eb2 ev ca cb
            go_wp2_with fail
            go_roundw
            case rel => exact ⟨j1, j1k, rfl, by have h := HO1.out; rw [← HJ1.out] at h; exact h, HB5.out⟩
            case measure => have := HJ1.out; simp [intOf]; omega
          · have ST := Lib.hid (show hf m j ++ [a1] = hf m j1 by rw [hj1]; exact hf_succ m j a1 (by rw [DG, getD_out (dg m) j1 (by rw [HK.out]; omega)]; simp))
            have HJ1 := Lib.hid hj1
            clear hj1 ha ha1 DG
            go_wp2_with (at_builtin; refine wpList_append_sl rfl _ _ 34 rfl wq.heap.size 22 i0 _ 8 Tryd.underlying34 hi hz0 hz1 hz2 rfl _ j (nl (hf m j)) rfl (own_below HO.out ((Below.refl _ _).alloc (Nat.le_refl _) _)) (some ⟨wr.heap.size, 0, none⟩) 1 1 [.int .u64 (a1 : Int)] rfl (fun h => by cases h) ?c1 ?c2 ?c3 ?c4 ?c5 ?_)
            case c1 => exact Sl.new_ wr _ [.int .u64 (a1 : Int)]
            case c2 => first | rfl | exact nl_one [a1]
            case c3 => unfold maxLen; omega
            case c4 => omega
            case c5 => have := HW.out.size; simp; omega
            intro v' w5 hown1 hgrow
            have HB5 := Lib.hid (show Below wq.heap.size wq w5 from (HW.out.alloc HW.out.size _).grown hgrow (by have := HW.out.size; simp; omega) (by
              intro g hg; simp only [Value.ownBlock] at hg; cases hA' : A3 with
              | none => rw [hA'] at hg; cases hg
              | some a => rw [hA'] at hg; simp at hg; have := HA3.out a hA'; omega))
            have HO1 := Lib.hid (show w5.ownsRow wq.heap.size 22 1 v' (j + 1) (nl (hf m j1)) by rw [← ST.out, nl_append]; exact hown1)
            clear hown1 hgrow ea1 ca
            go_wp2_with fail
            go_roundw
            case rel => exact ⟨j1, j1k, rfl, by have h := HO1.out; rw [← HJ1.out] at h; exact h, HB5.out⟩
            case measure => have := HJ1.out; simp [intOf]; omega
        · obtain rfl : j = k := by omega
          have HV := Lib.hid (show vl (hf m j) = M / 2 ^ (t + 1) by
            rw [hf_all m j ((dg_len m j).1 (by rw [HK.out]; exact Nat.le_refl _)), ← HM.out, div_pow_succ])
          have WW := Lib.hid (bel_n1 W0.out HW.out)
          go_wp2_with fail
          (with_reducible refine (trim_any A3 j cap3 (hf m j) _ (by omega) hlc3 (hf_dg _ _) S3.out).mono ?_)
          rintro e w5 ⟨A5, k5, c5, rfl, h51, h52, h53⟩
          rw [HV.out] at h51
          have T5 := Lib.hid h51
          have K5 := Lib.hid (show k5 ≤ 100 by
            rw [← sl_len h51, ← div_pow_succ, HM.out]
            refine Nat.le_trans (dg_len' (k := j) ?_) hk
            exact Nat.lt_of_le_of_lt (Nat.div_le_self _ _) ((dg_len m j).1 (by rw [HK.out]; exact Nat.le_refl _)))
          have W5 := Lib.hid (bel_n1 WW.out h53)
          obtain ⟨u1, hu1⟩ : ∃ u1, u1 = u - 1 := ⟨_, rfl⟩
          have eu1 : (u : Int) - 1 = (u1 : Int) := by omega
          have HU1 := Lib.hid hu1
          clear h51 h53 hu1
          go_wp2_with fail
          go_roundw
          case rel => exact ⟨t + 1, k5, c5, A5, by have := HU.out; omega, by rw [show T - (t + 1) = u1 by have := HU.out; have := HU1.out; omega], rfl, T5.out, h52, K5.out, W5.out⟩
          case measure => have := HU1.out; simp [intOf]; omega
    · obtain rfl : u = 0 := by omega
      have TT := Lib.hid (show t = T by have := HU.out; omega)
      go_wp2_with fail
      go_ret
      exact ⟨A, k, c, rfl, by rw [← TT.out]; exact S0.out, hkc, W0.out⟩
end Go.Proofs.YteechlkccmcpfaaDoor.Fd
