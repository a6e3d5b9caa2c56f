/-
  Sums of numbers as rows of digits.
-/
import Derived.Test.YteechlkccmcpfaaDoorRfBase
namespace Go.Proofs.YteechlkccmcpfaaDoor.Fd
open Go.RowKit Go.Proofs.YteechlkccmcpfaaDoor.Gn Go.Deep
set_option linter.unusedVariables false

def SumRel (la lb : List Nat) (n g : Nat) (w0 : World) (c i : Value) (wr : World) : Prop :=
  ∃ (k cy : Nat) (o : List Nat), k ≤ n ∧ i = .int .i64 (k : Int) ∧ c = .int .u64 (cy : Int) ∧ cy ≤ 1 ∧ o.length = n + 1 ∧ Dg o ∧ vl (o.take k) + 65536 ^ k * cy = vl (la.take k) + vl (lb.take k) ∧
    Bl wr g 22 (nl o).toArray ∧ Below g w0 wr
set_option maxHeartbeats 2000000 in
theorem sum_ge (A B : Option Addr) (n m c d : Nat) (la lb : List Nat) (w : World) (hn : n ≤ 4000) (hmn : m ≤ n) (hla : Dg la) (hlb : Dg lb) (ha : Sl w A n (nl la)) (hb : Sl w B m (nl lb)) :
    Calls Tryd.prog 54 #[.slice A n c, .slice B m d] w (RetN (vl la + vl lb) w) := by
  have HA := Lib.hid ha
  have HB := Lib.hid hb
  have HLA := Lib.hid hla
  have HLB := Lib.hid hlb
  have HN := Lib.hid (sl_len ha)
  have HM := Lib.hid (sl_len hb)
  obtain ⟨N, hN⟩ : ∃ N, N = n + 1 := ⟨_, rfl⟩
  have eN : (n : Int) + 1 = (N : Int) := by omega
  have hmk := make64 N (by omega)
  have HNN := Lib.hid hN
  have t0 : decide (n < m) = false := by simp; omega
  clear ha hb hla hlb hN
  go_enter Tryd.func54, Tryd.ntmps54
  go_wp2
  clear hmk eN t0
  have B0 := Lib.hid (Bl.new_ w 22 (nl (List.replicate N 0)).toArray)
  have G0 := Lib.hid ((Below.refl w.heap.size w).alloc (Nat.le_refl _) (.cells (nl (List.replicate N 0)).toArray 22))
  go_loopw [6, 7] (fun c i wr => SumRel la lb n w.heap.size (w.alloc (.cells (nl (List.replicate N 0)).toArray 22)) c i wr) (fun _ i _ => n - (intOf i).toNat)
  case atStart => exact ⟨0, 0, _, Nat.zero_le _, rfl, rfl, by decide, by rw [List.length_replicate]; exact HNN.out, Dg.replicate _, by simp [vl_nil], B0.out, Below.refl _ _⟩
  case round =>
    obtain ⟨k, cy, o, hk, rfl, rfl, hcy, hol, hod, hv, hbl, hbw⟩ := hrel
    have BL := Lib.hid hbl
    have BW := Lib.hid hbw
    have OL := Lib.hid hol
    have OD := Lib.hid hod
    have HV := Lib.hid hv
    have GW := Lib.hid (G0.out.trans hbw)
    clear hbl hbw hol hod hv
    have kN : (k : Int) < (N : Int) := by have := HNN.out; omega
    by_cases hlt : k < n
    · obtain ⟨ad, rfl, -⟩ := (HA.out.below GW.out).at_ hlt
      obtain ⟨x, hx⟩ : ∃ x, x = la.getD k 0 := ⟨_, rfl⟩
      have c1 := sl_num (HA.out.below GW.out) hlt
      rw [← hx] at c1
      have fz := BL.out.frozen k
      have co := nl_cell BL.out (show k < o.length by rw [OL.out]; omega)
      have hxb : x < 65536 := by rw [hx]; exact HLA.out.get k
      have HX := Lib.hid hx
      clear hx
      by_cases hlm : k < m
      · obtain ⟨bd, rfl, -⟩ := (HB.out.below GW.out).at_ hlm
        obtain ⟨y, hy⟩ : ∃ y, y = lb.getD k 0 := ⟨_, rfl⟩
        have c2 := sl_num (HB.out.below GW.out) hlm
        rw [← hy] at c2
        have hyb : y < 65536 := by rw [hy]; exact HLB.out.get k
        obtain ⟨z1, hz1⟩ : ∃ z1, z1 = x + cy := ⟨_, rfl⟩
        have e00 : (x : Int) + (cy : Int) = (z1 : Int) := by omega
        obtain ⟨z, hz⟩ : ∃ z, z = z1 + y := ⟨_, rfl⟩
        have e0 : (z1 : Int) + (y : Int) = (z : Int) := by omega
        have z1b : z1 < 131072 := by omega
        have e1 : (z : Int) % 65536 = ((z % 65536 : Nat) : Int) := by omega
        have e2 : (z : Int) / 65536 = ((z / 65536 : Nat) : Int) := by omega
        have zb : z < 131072 := by omega
        have ST := Lib.hid (sum_step la lb o k cy z (by rw [OL.out]; omega) HV.out (by rw [hz, hz1, HX.out, hy]))
        obtain ⟨r, hr⟩ : ∃ r, z % 65536 = r := ⟨_, rfl⟩
        obtain ⟨q, hq⟩ : ∃ q, z / 65536 = q := ⟨_, rfl⟩
        rw [hr] at e1
        rw [hq] at e2
        have HR := Lib.hid hr
        have HQ := Lib.hid hq
        have q1 : q ≤ 1 := by omega
        have r1 : r < 65536 := by omega
        clear hz hy hr hq hz1
        go_wp2
        go_roundw
        case rel => exact ⟨k + 1, q, o.set k r, by omega, by go_num, rfl, q1, by rw [List.length_set]; exact OL.out, OD.out.set _ _ r1, by rw [← HR.out, ← HQ.out]; exact ST.out, by rw [← nlu_set]; exact BL.out.set_ k _, BW.out.setCell (p := ⟨w.heap.size, k, none⟩) (Nat.le_refl _) _⟩
        case measure => simp [intOf]; omega
      · obtain ⟨z, hz⟩ : ∃ z, z = x + cy := ⟨_, rfl⟩
        have e0 : (x : Int) + (cy : Int) = (z : Int) := by omega
        have e1 : (z : Int) % 65536 = ((z % 65536 : Nat) : Int) := by omega
        have e2 : (z : Int) / 65536 = ((z / 65536 : Nat) : Int) := by omega
        have zb : z < 131072 := by omega
        have ST := Lib.hid (sum_step la lb o k cy z (by rw [OL.out]; omega) HV.out (by rw [hz, HX.out, getD_out lb k (by rw [HM.out]; omega), Nat.add_zero]))
        obtain ⟨r, hr⟩ : ∃ r, z % 65536 = r := ⟨_, rfl⟩
        obtain ⟨q, hq⟩ : ∃ q, z / 65536 = q := ⟨_, rfl⟩
        rw [hr] at e1
        rw [hq] at e2
        have HR := Lib.hid hr
        have HQ := Lib.hid hq
        have q1 : q ≤ 1 := by omega
        have r1 : r < 65536 := by omega
        clear hz hr hq
        go_wp2
        go_roundw
        case rel => exact ⟨k + 1, q, o.set k r, by omega, by go_num, rfl, q1, by rw [List.length_set]; exact OL.out, OD.out.set _ _ r1, by rw [← HR.out, ← HQ.out]; exact ST.out, by rw [← nlu_set]; exact BL.out.set_ k _, BW.out.setCell (p := ⟨w.heap.size, k, none⟩) (Nat.le_refl _) _⟩
        case measure => simp [intOf]; omega
    · obtain rfl : k = n := by omega
      have fz := BL.out.frozen k
      have co := nl_cell BL.out (show k < o.length by rw [OL.out]; omega)
      have HE := Lib.hid (sum_end la lb o k cy HN.out (by rw [HM.out]; exact hmn) OL.out HV.out)
      have B2 := Lib.hid (show Bl (wr.setCell ⟨w.heap.size, k, none⟩ (.int .u64 (cy : Int))) w.heap.size 22 (nl (o.set k cy)).toArray by rw [← nlu_set]; exact BL.out.set_ k _)
      have G2 := Lib.hid (show Below w.heap.size w (wr.setCell ⟨w.heap.size, k, none⟩ (.int .u64 (cy : Int))) from GW.out.setCell (p := ⟨w.heap.size, k, none⟩) (Nat.le_refl _) _)
      have hcb : cy < 65536 := by omega
      have D2 := Lib.hid (OD.out.set k cy hcb)
      have SL2 := Lib.hid (nl_sl B2.out (show (o.set k cy).length = N by rw [List.length_set, OL.out, HNN.out]))
      go_wp2_with fail
      have hNb : N ≤ 4096 := by have := HNN.out; omega
      (with_reducible refine (trim_any _ N N (o.set k cy) _ hNb (Nat.le_refl _) D2.out SL2.out).mono ?_)
      intro e w2 h2
      have R2 := Lib.hid (h2.of HE.out G2.out)
      clear h2
      obtain ⟨A2, k2, c2, rfl, h3, h4, h5⟩ := R2.out
      have R3 := Lib.hid (show RetN (vl la + vl lb) w (.returned (.slice A2 k2 c2)) w2 from R2.out)
      clear R2 h3 h4 h5
      go_wp2
      go_ret
      exact R3.out
theorem sum_any (A B : Option Addr) (n m c d : Nat) (la lb : List Nat) (w : World) (hn : n ≤ 4000) (hm : m ≤ 4000) (hla : Dg la) (hlb : Dg lb) (ha : Sl w A n (nl la)) (hb : Sl w B m (nl lb)) :
    Calls Tryd.prog 54 #[.slice A n c, .slice B m d] w (RetN (vl la + vl lb) w) := by
  rcases Nat.lt_or_ge n m with h | h
  · have C := Lib.hid (sum_ge B A m n d c lb la w hm (Nat.le_of_lt h) hlb hla hb ha)
    rw [Nat.add_comm]
    clear ha hb hla hlb
    go_enter Tryd.func54, Tryd.ntmps54
    go_wp2_with fail
    (with_reducible refine C.out.mono ?_)
    intro e w2 h2
    have R2 := Lib.hid h2
    clear h2
    obtain ⟨A2, k2, c2, rfl, h3, h4, h5⟩ := R2.out
    have R3 := Lib.hid (show RetN (vl lb + vl la) w (.returned (.slice A2 k2 c2)) w2 from R2.out)
    clear R2 h3 h4 h5
    go_wp2
    go_ret
    exact R3.out
  · exact sum_ge A B n m c d la lb w hn h hla hlb ha hb
end Go.Proofs.YteechlkccmcpfaaDoor.Fd
