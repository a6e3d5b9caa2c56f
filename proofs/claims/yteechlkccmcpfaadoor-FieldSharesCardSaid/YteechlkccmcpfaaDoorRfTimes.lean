/-
  Products of numbers as rows of digits.
-/
import Derived.Test.YteechlkccmcpfaaDoorRfBase
import Derived.Deep.QuietTactic
import Derived.BigQuiet
namespace Go.Proofs.YteechlkccmcpfaaDoor.Fd
open Go.RowKit Go.Proofs.YteechlkccmcpfaaDoor.Gn Go.Deep
set_option linter.unusedVariables false

def TmO (la lb : List Nat) (n N g : Nat) (w0 : World) (i : Value) (wr : World) : Prop :=
  ∃ (j : Nat) (o : List Nat), j ≤ n ∧ i = .int .i64 (j : Int) ∧ o.length = N ∧ Dg o ∧ vl o = vl (la.take j) * vl lb ∧ Bl wr g 22 (nl o).toArray ∧ Below g w0 wr
def TmI (la lb o : List Nat) (j m N g : Nat) (w0 : World) (c i : Value) (wr : World) : Prop :=
  ∃ (k cy : Nat) (o' : List Nat), k ≤ m ∧ i = .int .i64 (k : Int) ∧ c = .int .u64 (cy : Int) ∧ cy < 65536 ∧ o'.length = N ∧ Dg o' ∧ (∀ p, j + k ≤ p → o'.getD p 0 = o.getD p 0) ∧
    vl o' + 65536 ^ (j + k) * cy = vl o + 65536 ^ j * (la.getD j 0 * vl (lb.take k)) ∧ Bl wr g 22 (nl o').toArray ∧ Below g w0 wr
set_option maxHeartbeats 2000000 in
set_option maxRecDepth 100000 in
theorem times_any (A B : Option Addr) (n m c d : Nat) (la lb : List Nat) (w : World) (hn : n ≤ 1000) (hm : m ≤ 1000) (hla : Dg la) (hlb : Dg lb) (ha : Sl w A n (nl la)) (hb : Sl w B m (nl lb)) :
    Calls Tryd.prog 53 #[.slice A n c, .slice B m d] w (RetN (vl la * vl lb) w) := by
  obtain ⟨N1, hN1⟩ : ∃ N1, N1 = n + m := ⟨_, rfl⟩
  have eN1 : (n : Int) + (m : Int) = (N1 : Int) := by omega
  obtain ⟨N, hN⟩ : ∃ N, N = N1 + 1 := ⟨_, rfl⟩
  have eN : (N1 : Int) + 1 = (N : Int) := by omega
  have hN2 : N ≤ 2001 := by omega
  have hN3 : N1 ≤ 2000 := by omega
  have hmk := make64 N (by omega)
  have HA := Lib.hid ha
  have HB := Lib.hid hb
  have HLA := Lib.hid hla
  have HLB := Lib.hid hlb
  have HL := Lib.hid (And.intro (sl_len ha) (sl_len hb))
  have HN := Lib.hid (show N = n + m + 1 by omega)
  clear ha hb hla hlb hN hN1
  go_enter Tryd.func53, Tryd.ntmps53
  go_wp2_with fail
  clear hmk eN1 eN
  have B0 := Lib.hid (Bl.new_ w 22 (nl (List.replicate N 0)).toArray)
  have G0 := Lib.hid ((Below.refl w.heap.size w).alloc (Nat.le_refl _) (.cells (nl (List.replicate N 0)).toArray 22))
  obtain ⟨g, hg⟩ : ∃ g, g = w.heap.size := ⟨_, rfl⟩
  have HG := Lib.hid hg
  rw [← hg] at B0 ⊢
  generalize hw0 : w.alloc _ = w0 at B0 G0 ⊢
  clear hw0 hg
  go_loopw [6] (fun i wr => TmO la lb n N g w0 i wr) (fun i _ => n - (intOf i).toNat)
  case atStart => exact ⟨0, _, Nat.zero_le _, rfl, by simp, Dg.replicate _, by simp [vl_nil, vl_replicate], B0.out, Below.refl _ _⟩
  case round =>
    obtain ⟨j, o, hj, rfl, hol, hod, hov, hbl, hgr⟩ := hrel
    have BL0 := Lib.hid hbl
    have GR := Lib.hid hgr
    have OL := Lib.hid hol
    have OD := Lib.hid hod
    have OV := Lib.hid hov
    clear hbl hgr hol hod hov
    by_cases hlt : j < n
    · obtain ⟨X, hX⟩ : ∃ X, X = la.getD j 0 := ⟨_, rfl⟩
      have HX := Lib.hid hX
      clear hX
      have R0 := Lib.hid (show TmI la lb o j m N g w0 (.int .u64 0) (.int .i64 0) wr from ⟨0, 0, o, Nat.zero_le _, rfl, rfl, by decide, OL.out, OD.out, fun _ _ => rfl, by simp [vl_nil], BL0.out, GR.out⟩)
      go_wp2_with fail
      go_loopw [7, 8] (fun c i wx => TmI la lb o j m N g w0 c i wx) (fun _ i _ => m - (intOf i).toNat)
      case atStart => exact R0.out
      case round =>
        obtain ⟨k, cy, L, hk, rfl, rfl, hcy, hLl, hLd, hsame, hv, hbl, hgr⟩ := hrel
        have BX := Lib.hid hbl
        have GX := Lib.hid hgr
        have LL := Lib.hid hLl
        have LD := Lib.hid hLd
        have LS := Lib.hid hsame
        have LV := Lib.hid hv
        have GW := Lib.hid (show Below w.heap.size w wr from G0.out.trans (by have := HG.out; subst this; exact hgr))
        clear hbl hgr hLl hLd hsame hv
        by_cases hlk : k < m
        · obtain ⟨p, hp⟩ : ∃ p, p = j + k := ⟨_, rfl⟩
          have ep : (j : Int) + (k : Int) = (p : Int) := by omega
          have wp : IntKind.i64.wrap (p : Int) = (p : Int) := by rw [IntKind.wrap_i64]; omega
          have p0 : (0 : Int) ≤ (p : Int) := by omega
          have pN : (p : Int) < (N : Int) := by have := HN.out; omega
          have hpN : p < N := by have := HN.out; omega
          obtain ⟨a1, rfl, -⟩ := (HA.out.below GW.out).at_ hlt
          obtain ⟨b1, rfl, -⟩ := (HB.out.below GW.out).at_ hlk
          obtain ⟨Y, hY⟩ : ∃ Y, Y = lb.getD k 0 := ⟨_, rfl⟩
          obtain ⟨O, hO⟩ : ∃ O, O = L.getD p 0 := ⟨_, rfl⟩
          have ca := sl_num (HA.out.below GW.out) hlt
          have cb := sl_num (HB.out.below GW.out) hlk
          have co := nl_cell BX.out (show p < L.length by rw [LL.out]; exact hpN)
          rw [← HX.out] at ca
          rw [← hY] at cb
          rw [← hO] at co
          obtain ⟨V, hV⟩ : ∃ V, V = O + X * Y + cy := ⟨_, rfl⟩
          have VS : V < 4294967296 := by
            rw [hV, hO, hY, HX.out]
            exact times_small LD.out p _ _ cy (HLA.out.get j) (HLB.out.get k) hcy
          have eV : IntKind.u64.wrap (IntKind.u64.wrap ((O : Int) + IntKind.u64.wrap ((X : Int) * (Y : Int))) + (cy : Int)) = (V : Int) := by
            rw [hV] at VS ⊢
            rw [← Int.natCast_mul]
            generalize X * Y = Q at *
            simp only [IntKind.wrap_u64]
            omega
          obtain ⟨V1, hV1⟩ : ∃ V1, V1 = V % 65536 := ⟨_, rfl⟩
          obtain ⟨V2, hV2⟩ : ∃ V2, V2 = V / 65536 := ⟨_, rfl⟩
          have e1 : (V : Int) % 65536 = (V1 : Int) := by omega
          have e2 : (V : Int) / 65536 = (V2 : Int) := by omega
          have e1' : IntKind.u64.wrap (V1 : Int) = (V1 : Int) := by rw [IntKind.wrap_u64]; omega
          have e2' : IntKind.u64.wrap (V2 : Int) = (V2 : Int) := by rw [IntKind.wrap_u64]; omega
          have NX := Lib.hid (show vl (L.set p V1) + 65536 ^ (j + (k + 1)) * V2 = vl o + 65536 ^ j * (la.getD j 0 * vl (lb.take (k + 1))) by
            rw [hp, hV1, hV2]
            refine times_in la lb o L j k cy V (vl o) (by rw [LL.out, ← hp]; exact hpN) ?_ LV.out
            rw [hV, hO, hY, HX.out, hp])
          have HP := Lib.hid hp
          have V1b := Lib.hid (show V1 < 65536 by omega)
          have V2b := Lib.hid (show V2 < 65536 by omega)
          have E := Lib.hid (And.intro (And.intro e1 e2) (And.intro e1' e2'))
          clear hp hV hV1 hV2 hY hO e1 e2 e1' e2' VS
          go_wp2_with fail
          go_quiet (fail)
          have BX2 := Lib.hid (BX.out.drewN nq)
          have GX2 := Lib.hid (below_drewN GX.out nq)
          have e1 := E.out.1.1
          have e2 := E.out.1.2
          have e1' := E.out.2.1
          have e2' := E.out.2.2
          clear ca cb co eV
          generalize hw3 : wr.drewN nq = w3 at BX2 GX2 ⊢
          clear hw3
          have co := nl_cell BX2.out (show p < L.length by rw [LL.out]; exact hpN)
          have fz := BX2.out.frozen p
          go_wp2_with fail
          go_roundw
          case rel => exact ⟨k + 1, V2, L.set p V1, by omega, by go_num, rfl, V2b.out, by rw [List.length_set]; exact LL.out, LD.out.set _ _ V1b.out, fun q hq => by rw [getD_set_ne _ _ _ _ (by have := HP.out; omega)]; exact LS.out q (by omega), NX.out, by rw [← nlu_set]; exact BX2.out.set_ p _, GX2.out.setCell (p := ⟨g, p, none⟩) (Nat.le_refl _) _⟩
          case measure => simp [intOf]; omega
        · obtain ⟨p, hp⟩ : ∃ p, p = j + m := ⟨_, rfl⟩
          obtain rfl : k = m := by omega
          have ep : (j : Int) + (k : Int) = (p : Int) := by omega
          have wp : IntKind.i64.wrap (p : Int) = (p : Int) := by rw [IntKind.wrap_i64]; omega
          have p0 : (0 : Int) ≤ (p : Int) := by omega
          have pN : (p : Int) < (N : Int) := by have := HN.out; omega
          have hpN : p < N := by have := HN.out; omega
          have co := nl_cell BX.out (show p < L.length by rw [LL.out]; exact hpN)
          have fz := BX.out.frozen p
          have NX := Lib.hid (show vl (L.set p cy) = vl (la.take (j + 1)) * vl lb by
            have hlk : lb.length = k := HL.out.2
            have h0 : L.getD (j + lb.length) 0 = 0 := by
              rw [LS.out _ (by omega)]
              exact times_free OD.out HLA.out HLB.out j _ OV.out (Nat.le_refl _)
            have := times_row la lb o L j cy OV.out (by rw [LL.out, hlk, ← hp]; exact hpN) h0 (by rw [hlk, LV.out, ← hlk, List.take_length])
            rw [hlk, ← hp] at this
            exact this)
          clear hp
          go_wp2_with fail
          go_roundw
          case rel => exact ⟨j + 1, L.set p cy, by omega, by go_num, by rw [List.length_set]; exact LL.out, LD.out.set _ _ hcy, NX.out, by rw [← nlu_set]; exact BX.out.set_ p _, GX.out.setCell (p := ⟨g, p, none⟩) (Nat.le_refl _) _⟩
          case measure => simp [intOf]; omega
    · obtain rfl : j = n := by omega
      have SL2 := Lib.hid (nl_sl BL0.out OL.out)
      have GW := Lib.hid (show Below w.heap.size w wr from G0.out.trans (by have := HG.out; subst this; exact GR.out))
      have HE := Lib.hid (show vl o = vl la * vl lb by rw [OV.out, ← HL.out.1, List.take_length])
      go_wp2_with fail
      (with_reducible refine (trim_any _ N N o _ (by omega) (Nat.le_refl _) OD.out SL2.out).mono ?_)
      intro e w2 h2
      have R2 := Lib.hid (h2.of HE.out GW.out)
      clear h2
      obtain ⟨A2, k2, c2, rfl, h3, h4, h5⟩ := R2.out
      have R3 := Lib.hid (show RetN (vl la * vl lb) w (.returned (.slice A2 k2 c2)) w2 from R2.out)
      clear R2 h3 h4 h5
      go_wp2
      go_ret
      exact R3.out
end Go.Proofs.YteechlkccmcpfaaDoor.Fd
