/-
  The small element of a number, as the document reckons it.
-/
import Derived.Test.YteechlkccmcpfaaDoorRfBytes
import Derived.Test.YteechlkccmcpfaaDoorRfMod
import Derived.Test.YteechlkccmcpfaaDoorFdElem
namespace Go.Proofs.YteechlkccmcpfaaDoor.Fd
open Go.RowKit Go.Proofs.YteechlkccmcpfaaDoor.Gn Go.Deep
set_option linter.unusedVariables false

def ElRel (N g : Nat) (w0 : World) (i : Value) (wr : World) : Prop :=
  ∃ k : Nat, k ≤ 255 ∧ i = .int .i64 (k : Int) ∧ Bl wr g 24 (nl (lbs N k)).toArray ∧ Below g w0 wr
theorem lbs_zero (N : Nat) : lbs N 0 = [0, 0, 0, 0, 0] := by simp [lbs, lb_zero]
theorem lb_lt51 (N k j : Nat) : lb N k j < 2251799813685248 := by
  unfold lb
  refine Nat.lt_of_lt_of_le (Nat.mod_lt _ (Nat.pow_pos (by decide))) ?_
  exact Nat.le_trans (Nat.pow_le_pow_right (by decide) (Nat.min_le_left _ _)) (by decide)
set_option maxHeartbeats 4000000 in
set_option maxRecDepth 100000 in
theorem RElem_any (A : Option Addr) (n c : Nat) (N : Nat) (w : World) (hn : n ≤ 100) (hN : N < pp) (ha : Sl w A n (nl (dg N))) :
    Calls Tryd.prog 40 #[.slice A n c] w fun e w' => e = .returned (.agg (el N).v) ∧ Below w.heap.size w w' := by
  have A0 := (Below.refl w.heap.size w).alloc (Nat.le_refl _) (.cells z5 24)
  have Z0 := Lib.hid (Bl.new_ w 24 z5)
  have BY := Bytes_any A n c 32 (dg N) (w.alloc (.cells z5 24)) (by omega) (by decide) (dg_dg _) (ha.below A0)
  rw [vl_dg] at BY
  have BY := Lib.hid (show Calls Tryd.prog 20 #[.slice A n c, .int .i64 32] (w.alloc (.cells z5 24)) (RetY (by_ N 32) (w.alloc (.cells z5 24))) from BY)
  have W0 := Lib.hid A0
  have HN := Lib.hid hN
  obtain ⟨y, hy⟩ : ∃ y, el N = y := ⟨_, rfl⟩
  have HY := Lib.hid hy
  rw [hy]
  clear ha A0 hN hy
  go_enter Tryd.func40, Tryd.ntmps40
  go_wp2_with fail
  change Calls _ _ _ (w.alloc (.cells z5 24)) _
  (with_reducible refine BY.out.mono ?_)
  rintro e w1 ⟨gb, rfl, hgb, hbb, hb1⟩
  rw [by_length]
  have B1 := Lib.hid hbb
  have W1 := Lib.hid (bel_nx W0.out (Nat.le_refl _) hb1)
  have Z1 := Lib.hid (Z0.out.below' hb1)
  clear hgb hbb hb1 BY W0 Z0
  go_wp2_with fail
  have hel : Bl (w1.alloc (.cells (nl [0, 0, 0, 0, 0]).toArray 24)) w1.heap.size 24 (nl (lbs N 0)).toArray := by rw [lbs_zero]; exact Bl.new_ _ _ _
  have a1 := (Below.refl w1.heap.size w1).alloc (Nat.le_refl _) (.cells (nl [0, 0, 0, 0, 0]).toArray 24)
  change Code.wp _ _ _ _ (w1.alloc (.cells (nl [0, 0, 0, 0, 0]).toArray 24))
  obtain ⟨g, hg⟩ : ∃ g, g = w1.heap.size := ⟨_, rfl⟩
  have HG := Lib.hid hg
  rw [← hg] at hel a1 ⊢
  generalize w1.alloc (.cells (nl [0, 0, 0, 0, 0]).toArray 24) = w2 at hel a1 ⊢
  have E2 := Lib.hid hel
  have A2 := Lib.hid a1
  clear hel a1 hg
  go_loopw [5] (fun i wr => ElRel N g w2 i wr) (fun i _ => 255 - (intOf i).toNat)
  case atStart => exact ⟨0, Nat.zero_le _, rfl, E2.out, Below.refl _ _⟩
  case round =>
    obtain ⟨k, hk, rfl, hbl, hbw⟩ := hrel
    have BL := Lib.hid hbl
    have BW := Lib.hid hbw
    have WX := Lib.hid (show Below w1.heap.size w1 wr from A2.out |> fun h => by have h2 := HG.out; subst h2; exact h.trans hbw)
    have BB := Lib.hid (B1.out.below' WX.out)
    clear hbl hbw
    by_cases hlt : k < 255
    · obtain ⟨q, hq⟩ : ∃ q, q = k / 8 := ⟨_, rfl⟩
      obtain ⟨m, hm⟩ : ∃ m, m = k % 8 := ⟨_, rfl⟩
      obtain ⟨u, hu⟩ : ∃ u, u = k / 51 := ⟨_, rfl⟩
      obtain ⟨r, hr⟩ : ∃ r, r = k % 51 := ⟨_, rfl⟩
      have e1 : (k : Int) / 8 = (q : Int) := by omega
      have e2 : (k : Int) % 8 = (m : Int) := by omega
      have e3 : (k : Int) / 51 = (u : Int) := by omega
      have e4 : (k : Int) % 51 = (r : Int) := by omega
      have q32 : (q : Int) < 32 := by omega
      have u5 : (u : Int) < 5 := by omega
      have m64 : (m : Int) < 64 := by omega
      have r64 : (r : Int) < 64 := by omega
      have em : IntKind.u64.wrap (m : Int) = (m : Int) := by rw [IntKind.wrap_u64]; omega
      have er : IntKind.u64.wrap (r : Int) = (r : Int) := by rw [IntKind.wrap_u64]; omega
      obtain ⟨x, hx⟩ : ∃ x, x = (by_ N 32).getD q 0 := ⟨_, rfl⟩
      have hxv : x = N / 256 ^ q % 256 := by
        rw [hx, List.getD_eq_getElem?_getD]
        unfold by_
        simp [show q < 32 by omega]
      have cb := bl_cell BB.out (k := q) (by rw [by_length]; omega)
      rw [← hx] at cb
      have ex : IntKind.u64.wrap (x : Int) = (x : Int) := by rw [IntKind.wrap_u64, hxv]; omega
      obtain ⟨y, hy⟩ : ∃ y, y = x / 2 ^ m := ⟨_, rfl⟩
      have ey : (x : Int) / 2 ^ m = (y : Int) := by rw [hy]; simp
      obtain ⟨d, hd⟩ : ∃ d, d = y % 2 := ⟨_, rfl⟩
      have ed : (y : Int) % 2 = (d : Int) := by omega
      have hdv : d = N / 2 ^ k % 2 := by rw [hd, hy, hxv, hq, hm, byte_bit]
      obtain ⟨o, ho⟩ : ∃ o, o = lb N k u := ⟨_, rfl⟩
      have co := nl_cell BL.out (k := u) (by rw [lbs_len]; omega)
      rw [show (lbs N k).getD u 0 = o by rw [ho, List.getD_eq_getElem?_getD, lbs_get _ _ _ (by omega)]; rfl] at co
      have fo := BL.out.frozen u
      obtain ⟨z, hz⟩ : ∃ z, z = d * 2 ^ r := ⟨_, rfl⟩
      have hp51 : 2 ^ r ≤ 2251799813685248 := Nat.le_trans (Nat.pow_le_pow_right (by decide) (show r ≤ 51 by omega)) (by decide)
      have hzb : z ≤ 2251799813685248 := by
        rw [hz]
        have : d ≤ 1 := by omega
        exact Nat.le_trans (Nat.mul_le_mul_right _ this) (by omega)
      have ez : IntKind.u64.wrap ((d : Int) * 2 ^ r) = (z : Int) := by
        have : (d : Int) * 2 ^ r = (z : Int) := by rw [hz]; simp
        rw [this, IntKind.wrap_u64]; omega
      obtain ⟨v, hv⟩ : ∃ v, v = o + z := ⟨_, rfl⟩
      have hol : o < 2251799813685248 := by rw [ho]; exact lb_lt51 _ _ _
      have ev : IntKind.u64.wrap ((o : Int) + (z : Int)) = (v : Int) := by rw [IntKind.wrap_u64]; omega
      have ST := Lib.hid (show (lbs N k).set u v = lbs N (k + 1) by
        refine lbs_set N k u r v (by omega) (by omega) (by omega) ?_
        rw [(lb_step N k u r (by omega) (by omega)).1, hv, hz, hdv, ho])
      clear hq hm hu hr hx hxv hy hd hdv ho hz hp51 hzb hv hol
      go_wp2_with fail
      clear e1 e2 e3 e4 q32 u5 m64 r64 em er ex ey ed ez ev
      go_roundw
      case rel => exact ⟨k + 1, by omega, by go_num, by rw [← ST.out, ← nlu_set]; exact BL.out.set_ u _, BW.out.setCell (p := ⟨g, u, none⟩) (Nat.le_refl _) _⟩
      case measure => simp [intOf]; omega
    · obtain rfl : k = 255 := by omega
      have hE : (nl (lbs N 255)).toArray = (el N).v := by
        rw [lbs_all N (by have := HN.out; have := P255_pp; omega)]; rfl
      have hbe := BL.out
      rw [hE, HY.out] at hbe
      obtain ⟨⟨a0, a1, a2, a3, a4⟩, -⟩ := cells5 hbe
      obtain ⟨⟨r0, r1, r2, r3, r4⟩, f0, f1, f2, f3, f4⟩ := cells5 (Z1.out.below' WX.out)
      have WW := Lib.hid (bel_nx W1.out (Nat.le_refl _) WX.out)
      clear hE hbe hlt
      go_wp2
      refine bodyPost_ret (v := .agg y.v) ?_ rfl ⟨rfl, set5_below WW.out (Nat.le_refl _) _ _ _ _ _⟩
      simp [results, Tryd.results40, go_sem, E5.v, r0, r1, r2, r3, r4]
end Go.Proofs.YteechlkccmcpfaaDoor.Fd
