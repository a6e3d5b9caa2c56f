/-
  Differences of numbers as rows of digits; which of two is the lesser one.
-/
import Derived.Test.YteechlkccmcpfaaDoorRfBase
import Derived.Deep.QuietTactic
import Derived.BigQuiet
namespace Go.Proofs.YteechlkccmcpfaaDoor.Fd
open Go.RowKit Go.Proofs.YteechlkccmcpfaaDoor.Gn Go.Deep
set_option linter.unusedVariables false

def MinRel (la lb : List Nat) (n g : Nat) (w0 : World) (c i : Value) (wr : World) : Prop :=
  ∃ (k bw : Nat) (o : List Nat), k ≤ n ∧ i = .int .i64 (k : Int) ∧ c = .int .u64 (bw : Int) ∧ bw ≤ 1 ∧ o.length = n ∧ Dg o ∧ vl (o.take k) + vl (lb.take k) = vl (la.take k) + 65536 ^ k * bw ∧
    Bl wr g 22 (nl o).toArray ∧ Below g w0 wr
set_option maxHeartbeats 2000000 in
theorem minus_any (A B : Option Addr) (n m c d : Nat) (la lb : List Nat) (w : World) (hn : n ≤ 4000) (hmn : m ≤ n) (hla : Dg la) (hlb : Dg lb) (hle : vl lb ≤ vl la) (ha : Sl w A n (nl la)) (hb : Sl w B m (nl lb)) :
    Calls Tryd.prog 57 #[.slice A n c, .slice B m d] w (RetN (vl la - vl lb) w) := by
  have HA := Lib.hid ha
  have HB := Lib.hid hb
  have HLA := Lib.hid hla
  have HLB := Lib.hid hlb
  have HLE := Lib.hid hle
  have HN := Lib.hid (sl_len ha)
  have HM := Lib.hid (sl_len hb)
  have hmk := make64 n (by omega)
  clear ha hb hla hlb hle
  go_enter Tryd.func57, Tryd.ntmps57
  go_wp2
  clear hmk
  have B0 := Lib.hid (Bl.new_ w 22 (nl (List.replicate n 0)).toArray)
  have G0 := Lib.hid ((Below.refl w.heap.size w).alloc (Nat.le_refl _) (.cells (nl (List.replicate n 0)).toArray 22))
  go_loopw [6, 7] (fun c i wr => MinRel la lb n w.heap.size (w.alloc (.cells (nl (List.replicate n 0)).toArray 22)) c i wr) (fun _ i _ => n - (intOf i).toNat)
  case atStart => exact ⟨0, 0, _, Nat.zero_le _, rfl, rfl, by decide, by simp, Dg.replicate _, by simp [vl_nil], B0.out, Below.refl _ _⟩
  case round =>
    obtain ⟨k, bw, o, hk, rfl, rfl, hbo, hol, hod, hv, hbl, hbw⟩ := hrel
    have BL := Lib.hid hbl
    have BW := Lib.hid hbw
    have OL := Lib.hid hol
    have OD := Lib.hid hod
    have HV := Lib.hid hv
    have GW := Lib.hid (G0.out.trans hbw)
    clear hbl hbw hol hod hv
    by_cases hlt : k < n
    · obtain ⟨ad, rfl, -⟩ := (HA.out.below GW.out).at_ hlt
      obtain ⟨x, hx⟩ : ∃ x, x = la.getD k 0 := ⟨_, rfl⟩
      have c1 := sl_num (HA.out.below GW.out) hlt
      rw [← hx] at c1
      have fz := BL.out.frozen k
      have co := nl_cell BL.out (show k < o.length by rw [OL.out]; omega)
      have hxb : x < 65536 := by rw [hx]; exact HLA.out.get k
      have HX := Lib.hid hx
      clear hx
      obtain ⟨z0, hz0⟩ : ∃ z0, z0 = 65536 + x := ⟨_, rfl⟩
      have e00 : (65536 : Int) + (x : Int) = (z0 : Int) := by omega
      obtain ⟨z1, hz1⟩ : ∃ z1, z1 = z0 - bw := ⟨_, rfl⟩
      have e01 : (z0 : Int) - (bw : Int) = (z1 : Int) := by omega
      have z0b : z0 < 131072 := by omega
      have z1b : z1 < 131072 := by omega
      have z1c : 65535 ≤ z1 := by omega
      by_cases hlm : k < m
      · obtain ⟨bd, rfl, -⟩ := (HB.out.below GW.out).at_ hlm
        obtain ⟨y, hy⟩ : ∃ y, y = lb.getD k 0 := ⟨_, rfl⟩
        have c2 := sl_num (HB.out.below GW.out) hlm
        rw [← hy] at c2
        have hyb : y < 65536 := by rw [hy]; exact HLB.out.get k
        obtain ⟨z, hz⟩ : ∃ z, z = z1 - y := ⟨_, rfl⟩
        have e0 : (z1 : Int) - (y : Int) = (z : Int) := by omega
        have e1 : (z : Int) % 65536 = ((z % 65536 : Nat) : Int) := by omega
        have e2 : (z : Int) / 65536 = ((z / 65536 : Nat) : Int) := by omega
        have zb : z < 131072 := by omega
        have ST := Lib.hid (minus_step la lb o k bw z (by rw [OL.out]; omega) hbo HLA.out HLB.out HV.out (by rw [← HX.out, ← hy]; omega))
        obtain ⟨r, hr⟩ : ∃ r, z % 65536 = r := ⟨_, rfl⟩
        obtain ⟨q, hq⟩ : ∃ q, z / 65536 = q := ⟨_, rfl⟩
        obtain ⟨b', hb'⟩ : ∃ b', 1 - q = b' := ⟨_, rfl⟩
        rw [hr] at e1
        rw [hq] at e2
        have HR := Lib.hid hr
        have HQ := Lib.hid hq
        have HQ' := Lib.hid hb'
        have q1 : q ≤ 1 := by omega
        have e3 : (1 : Int) - (q : Int) = (b' : Int) := by omega
        have b1 : b' ≤ 1 := by omega
        have r1 : r < 65536 := by omega
        clear hz hy hr hq hz0 hz1 hb'
        go_wp2
        go_roundw
        case rel => exact ⟨k + 1, b', o.set k r, by omega, by go_num, rfl, b1, by rw [List.length_set]; exact OL.out, OD.out.set _ _ r1, by rw [← HQ'.out, ← HR.out, ← HQ.out]; exact ST.out.1, by rw [← nlu_set]; exact BL.out.set_ k _, BW.out.setCell (p := ⟨w.heap.size, k, none⟩) (Nat.le_refl _) _⟩
        case measure => simp [intOf]; omega
      · have e1 : (z1 : Int) % 65536 = ((z1 % 65536 : Nat) : Int) := by omega
        have e2 : (z1 : Int) / 65536 = ((z1 / 65536 : Nat) : Int) := by omega
        have ST := Lib.hid (minus_step la lb o k bw z1 (by rw [OL.out]; omega) hbo HLA.out HLB.out HV.out (by rw [← HX.out, getD_out lb k (by rw [HM.out]; omega)]; omega))
        obtain ⟨r, hr⟩ : ∃ r, z1 % 65536 = r := ⟨_, rfl⟩
        obtain ⟨q, hq⟩ : ∃ q, z1 / 65536 = q := ⟨_, rfl⟩
        obtain ⟨b', hb'⟩ : ∃ b', 1 - q = b' := ⟨_, rfl⟩
        rw [hr] at e1
        rw [hq] at e2
        have HR := Lib.hid hr
        have HQ := Lib.hid hq
        have HQ' := Lib.hid hb'
        have q1 : q ≤ 1 := by omega
        have e3 : (1 : Int) - (q : Int) = (b' : Int) := by omega
        have b1 : b' ≤ 1 := by omega
        have r1 : r < 65536 := by omega
        clear hr hq hz0 hz1 hb'
        go_wp2
        go_roundw
        case rel => exact ⟨k + 1, b', o.set k r, by omega, by go_num, rfl, b1, by rw [List.length_set]; exact OL.out, OD.out.set _ _ r1, by rw [← HQ'.out, ← HR.out, ← HQ.out]; exact ST.out.1, by rw [← nlu_set]; exact BL.out.set_ k _, BW.out.setCell (p := ⟨w.heap.size, k, none⟩) (Nat.le_refl _) _⟩
        case measure => simp [intOf]; omega
    · obtain rfl : k = n := by omega
      have HE := Lib.hid (minus_end la lb o k bw HN.out (by rw [HM.out]; exact hmn) OL.out OD.out HLE.out HV.out)
      have SL2 := Lib.hid (nl_sl BL.out OL.out)
      go_wp2_with fail
      (with_reducible refine (trim_any _ k k o _ (by omega) (Nat.le_refl _) OD.out SL2.out).mono ?_)
      intro e w2 h2
      have R2 := Lib.hid (h2.of HE.out GW.out)
      clear h2
      obtain ⟨A2, k2, c2, rfl, h3, h4, h5⟩ := R2.out
      have R3 := Lib.hid (show RetN (vl la - vl lb) w (.returned (.slice A2 k2 c2)) w2 from R2.out)
      clear R2 h3 h4 h5
      go_wp2
      go_ret
      exact R3.out
/-- Two numbers that agree from a digit on. -/
theorem least_part {a b : Nat} (p : Nat) (hd : (dg a).drop (p + 1) = (dg b).drop (p + 1)) (hn : (dg a).getD p 0 ≠ (dg b).getD p 0) : decide ((dg a).getD p 0 < (dg b).getD p 0) = decide (a < b) := by
  have ha := vl_split (dg a) (p + 1)
  have hb := vl_split (dg b) (p + 1)
  rw [vl_take_succ, vl_dg] at ha hb
  rw [hd] at ha
  have la : vl ((dg a).take p) < 65536 ^ p := Nat.lt_of_lt_of_le (vl_lt _ ((dg_dg a).take p)) (Nat.pow_le_pow_right (by decide) (by rw [List.length_take]; omega))
  have lb : vl ((dg b).take p) < 65536 ^ p := Nat.lt_of_lt_of_le (vl_lt _ ((dg_dg b).take p)) (Nat.pow_le_pow_right (by decide) (by rw [List.length_take]; omega))
  generalize (dg a).getD p 0 = x at *
  generalize (dg b).getD p 0 = y at *
  generalize vl ((dg a).take p) = s at *
  generalize vl ((dg b).take p) = t at *
  generalize 65536 ^ (p + 1) * vl ((dg b).drop (p + 1)) = z at *
  generalize 65536 ^ p = B at *
  rw [decide_eq_decide]
  constructor
  · intro h
    have := Nat.mul_le_mul_left B (show x + 1 ≤ y from h)
    rw [Nat.mul_add] at this
    omega
  · intro h
    rcases Nat.lt_or_ge x y with h1 | h1
    · exact h1
    · have := Nat.mul_le_mul_left B (show y + 1 ≤ x by omega)
      rw [Nat.mul_add] at this
      omega
theorem least_len {a b : Nat} (h : (dg a).length ≠ (dg b).length) : decide ((dg a).length < (dg b).length) = decide (a < b) := by
  rw [decide_eq_decide]
  constructor
  · intro h1
    have := vl_pos_len (dg_dg a) (dg_dg b) (dg_tr b) h1
    rwa [vl_dg, vl_dg] at this
  · intro h1
    rcases Nat.lt_or_ge (dg a).length (dg b).length with h2 | h2
    · exact h2
    · have := vl_pos_len (dg_dg b) (dg_dg a) (dg_tr a) (by omega)
      rw [vl_dg, vl_dg] at this
      omega
theorem drop_cong {a b : List Nat} (p : Nat) (ha : p < a.length) (hb : p < b.length) (hd : a.drop (p + 1) = b.drop (p + 1)) (he : a.getD p 0 = b.getD p 0) : a.drop p = b.drop p := by
  rw [List.drop_eq_getElem_cons ha, List.drop_eq_getElem_cons hb, hd]
  rw [List.getD_eq_getElem?_getD, List.getD_eq_getElem?_getD, List.getElem?_eq_getElem ha, List.getElem?_eq_getElem hb] at he
  simp only [Option.getD_some] at he
  rw [he]
set_option maxHeartbeats 2000000 in
theorem least_any (A B : Option Addr) (n m c d : Nat) (a b : Nat) (w : World) (hn : n ≤ 4000) (hm : m ≤ 4000) (ha : Sl w A n (nl (dg a))) (hb : Sl w B m (nl (dg b))) :
    Calls Tryd.prog 50 #[.slice A n c, .slice B m d] w fun e w' => e = .returned (.bool (decide (a < b))) ∧ Below w.heap.size w w' := by
  have HA := Lib.hid ha
  have HB := Lib.hid hb
  have HN := Lib.hid (sl_len ha)
  have HM := Lib.hid (sl_len hb)
  obtain ⟨R, hR⟩ : ∃ R, decide (a < b) = R := ⟨_, rfl⟩
  rw [hR]
  have HR := Lib.hid hR
  clear ha hb hR
  by_cases hnm : n = m
  · subst hnm
    have t1 : ((n : Int) != (n : Int)) = false := by simp
    go_enter Tryd.func50, Tryd.ntmps50
    go_wp2
    clear t1
    go_loopw [5] (fun i wr => ∃ j : Nat, j ≤ n ∧ i = .int .i64 ((j : Int) - 1) ∧ (dg a).drop j = (dg b).drop j ∧ Below w.heap.size w wr) (fun i _ => (intOf i + 1).toNat)
    case atStart => exact ⟨n, Nat.le_refl _, rfl, by rw [List.drop_of_length_le (by rw [HN.out]; exact Nat.le_refl _), List.drop_of_length_le (by rw [HM.out]; exact Nat.le_refl _)], Below.refl _ _⟩
    case round =>
      obtain ⟨j, hj, rfl, hd, hw⟩ := hrel
      have HD := Lib.hid hd
      have W0 := Lib.hid hw
      clear hd hw
      rcases j with _ | p
      · have HF := Lib.hid (show R = false by
          rw [← HR.out]
          have : a = b := dg_inj (by simpa using HD.out)
          rw [this]; simp)
        go_wp2
        go_ret
        exact ⟨ret_bool HF.out.symm, W0.out⟩
      · have e : (((p + 1 : Nat) : Int) - 1) = (p : Int) := by omega
        rw [e]
        clear e
        obtain ⟨ad, rfl, -⟩ := (HA.out.below W0.out).at_ (k := p) (by omega)
        obtain ⟨bd, rfl, -⟩ := (HB.out.below W0.out).at_ (k := p) (by omega)
        obtain ⟨x, hx⟩ : ∃ x, x = (dg a).getD p 0 := ⟨_, rfl⟩
        obtain ⟨y, hy⟩ : ∃ y, y = (dg b).getD p 0 := ⟨_, rfl⟩
        have c1 := sl_num (HA.out.below W0.out) (p := p) (by omega)
        have c2 := sl_num (HB.out.below W0.out) (p := p) (by omega)
        rw [← hx] at c1
        rw [← hy] at c2
        have HX := Lib.hid hx
        have HY := Lib.hid hy
        have pn : (p : Int) < (n : Int) := by omega
        have p0 : (0 : Int) ≤ (p : Int) := by omega
        clear hx hy
        by_cases hxy : x = y
        · have t1 : ((x : Int) != (y : Int)) = false := by simp; omega
          have HXY := Lib.hid hxy
          clear hxy
          go_wp2
          go_quiet (fail)
          clear c1 c2
          go_wp2
          go_roundw
          case rel => exact ⟨p, by omega, rfl, drop_cong p (by rw [HN.out]; omega) (by rw [HM.out]; omega) HD.out (by rw [← HX.out, ← HY.out]; exact HXY.out), below_drewN W0.out _⟩
          case measure => simp [intOf] <;> omega
        · have t1 : ((x : Int) != (y : Int)) = true := by simp; omega
          have HE := Lib.hid (show decide (x < y) = R by rw [← HR.out, HX.out, HY.out]; exact least_part p HD.out (by rw [← HX.out, ← HY.out]; exact hxy))
          clear hxy
          go_wp2
          go_quiet (fail)
          have W1 := Lib.hid (show Below w.heap.size w (wr.drewN nq) from below_drewN W0.out nq)
          generalize wr.drewN nq = w1 at *
          clear c1 c2
          have c1 := sl_num (HA.out.below W1.out) (p := p) (by omega)
          have c2 := sl_num (HB.out.below W1.out) (p := p) (by omega)
          rw [← HX.out] at c1
          rw [← HY.out] at c2
          go_wp2
          go_quiet (fail)
          go_wp2
          go_ret
          exact ⟨ret_bool (by rw [← HE.out]), below_drewN W1.out _⟩
  · have t1 : ((n : Int) != (m : Int)) = true := by simp; omega
    have HE := Lib.hid (show decide (n < m) = R by rw [← HR.out, ← HN.out, ← HM.out]; exact least_len (by rw [HN.out, HM.out]; exact hnm))
    clear hnm
    go_enter Tryd.func50, Tryd.ntmps50
    go_wp2
    go_ret
    exact ⟨ret_bool (by rw [← HE.out]), Below.refl _ _⟩
end Go.Proofs.YteechlkccmcpfaaDoor.Fd
