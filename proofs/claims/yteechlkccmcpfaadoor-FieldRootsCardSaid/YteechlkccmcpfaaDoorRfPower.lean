/-
  Powers and inverses modulo the prime, as the document reckons them.
-/
import Derived.Test.YteechlkccmcpfaaDoorRfMul
import Derived.Test.YteechlkccmcpfaaDoorRfBytes
namespace Go.Proofs.YteechlkccmcpfaaDoor.Fd
open Go.RowKit Go.Proofs.YteechlkccmcpfaaDoor.Gn Go.Deep
set_option linter.unusedVariables false

theorem len16 {x : Nat} (h : x < pp) : (dg x).length ≤ 16 := by
  have := dg_len_mono (Nat.le_of_lt h)
  rw [dg_pp] at this
  exact this
theorem le_get (l : List Nat) (k : Nat) (h : ∀ x ∈ l, x < 256) : le l / 256 ^ k % 256 = l.getD k 0 := by
  have h1 := le_split l k
  have h2 := le_take_lt l k h
  have e : le l / 256 ^ k = le (l.drop k) := by
    rw [h1, Nat.add_mul_div_left _ _ (Nat.pow_pos (by decide)), Nat.div_eq_of_lt h2, Nat.zero_add]
  rw [e, List.getD_eq_getElem?_getD]
  cases hk : l[k]? with
  | none => rw [List.drop_of_length_le (by exact List.getElem?_eq_none_iff.1 hk)]; rfl
  | some x =>
    obtain ⟨hlt, he⟩ := List.getElem?_eq_some_iff.1 hk
    rw [List.drop_eq_getElem_cons hlt, he, le_cons]
    have := h x (List.mem_of_getElem? hk)
    simp; omega
theorem le_bit (l : List Nat) (i : Nat) (h : ∀ x ∈ l, x < 256) : l.getD (i / 8) 0 / 2 ^ (i % 8) % 2 = le l / 2 ^ i % 2 := by
  rw [← le_get l (i / 8) h, byte_bit]
theorem le_top (l : List Nat) (h : ∀ x ∈ l, x < 256) : le l / 2 ^ (8 * l.length) = 0 := by
  have := le_lt l h
  rw [show (256 : Nat) = 2 ^ 8 from rfl, ← Nat.pow_mul] at this
  exact Nat.div_eq_of_lt this
theorem pow_dbl (a E p : Nat) (h : E / 2 ^ p % 2 = 0) : (a ^ (E / 2 ^ (p + 1)) % pp) * (a ^ (E / 2 ^ (p + 1)) % pp) % pp = a ^ (E / 2 ^ p) % pp := by
  rw [← Nat.mul_mod, ← Nat.pow_add]
  congr 2
  rw [Nat.pow_succ, ← Nat.div_div_eq_div_mul]; omega
theorem pow_dbl1 (a E p : Nat) (h : E / 2 ^ p % 2 = 1) : ((a ^ (E / 2 ^ (p + 1)) % pp) * (a ^ (E / 2 ^ (p + 1)) % pp) % pp) * a % pp = a ^ (E / 2 ^ p) % pp := by
  rw [← Nat.mul_mod, ← Nat.pow_add, Nat.mod_mul_mod, ← Nat.pow_succ]
  congr 2
  rw [Nat.pow_succ, ← Nat.div_div_eq_div_mul]; omega
def RPwRel (a E m : Nat) (w0 : World) (o i : Value) (wr : World) : Prop :=
  ∃ (j k c : Nat) (A : Option Addr), j ≤ 8 * m ∧ i = .int .i64 ((j : Int) - 1) ∧ o = .slice A k c ∧ Sl wr A k (nl (dg (a ^ (E / 2 ^ j) % pp))) ∧ k ≤ c ∧ Below w0.heap.size w0 wr
set_option maxHeartbeats 4000000 in
set_option maxRecDepth 100000 in
theorem Power_any (A B : Option Addr) (n m c d : Nat) (a : Nat) (e : List Nat) (w : World) (hn : n ≤ 16) (hm : m ≤ 1000) (he : ∀ x ∈ e, x < 256) (ha : Sl w A n (nl (dg a))) (hb : Sl w B m (bl e)) :
    Calls Tryd.prog 35 #[.slice A n c, .slice B m d] w (RetN (a ^ le e % pp) w) := by
  obtain ⟨E, hE⟩ : ∃ E, E = le e := ⟨_, rfl⟩
  rw [← hE]
  have HE := Lib.hid hE
  have HA := Lib.hid ha
  have HB := Lib.hid hb
  have HX := Lib.hid he
  have HN := Lib.hid (show e.length = m by simpa [bl] using hb.1)
  obtain ⟨M, hM⟩ : ∃ M, M = 8 * m := ⟨_, rfl⟩
  have eM : (8 : Int) * (m : Int) = (M : Int) := by omega
  have R0 := Lib.hid (show RPwRel a E m w (.slice (some ⟨w.heap.size, 0, none⟩) 1 1) (.int .i64 ((M : Int) - 1)) (w.alloc (.cells #[.int .u64 1] 22)) from
    ⟨M, 1, 1, _, by omega, rfl, rfl, by
      have h0 : E / 2 ^ M = 0 := by rw [hE, hM, ← HN.out]; exact le_top e he
      have h1 : dg (a ^ (E / 2 ^ M) % pp) = [1] := by
        rw [h0, Nat.pow_zero, Nat.mod_eq_of_lt pp_one]
        exact dg_vl [1] (by unfold Dg; decide) (by unfold Tr; decide)
      rw [h1]
      exact nl_sl (Bl.new_ w 22 (nl [1]).toArray) rfl, Nat.le_refl _, (Below.refl _ _).alloc (Nat.le_refl _) _⟩)
  have hMb : M ≤ 8000 := by omega
  have HM := Lib.hid hM
  clear ha hb he hE hM
  go_enter Tryd.func35, Tryd.ntmps35
  go_wp2_with fail
  go_loopw [5, 6] (fun o i wr => RPwRel a E m w o i wr) (fun _ i _ => (intOf i + 1).toNat)
  case atStart => exact R0.out
  case round =>
    clear R0 eM
    obtain ⟨wq, rfl⟩ : ∃ wq : World, wq = wr := ⟨_, rfl⟩
    obtain ⟨j, k, c', A', hj, rfl, rfl, hsl, hkc, hbw⟩ := hrel
    have S0 := Lib.hid hsl
    have W0 := Lib.hid hbw
    have K0 := Lib.hid (show k ≤ 16 by rw [← sl_len hsl]; exact len16 (mod_lt _))
    clear hsl hbw
    rcases j with _ | p
    · have S1 := Lib.hid (show Sl wq A' k (nl (dg (a ^ E % pp))) by
        have := S0.out
        rwa [Nat.pow_zero, Nat.div_one] at this)
      go_wp2_with fail
      go_ret
      exact ⟨A', k, c', rfl, S1.out, hkc, W0.out⟩
    · have ep : (((p + 1 : Nat) : Int) - 1) = (p : Int) := by omega
      rw [ep]
      clear ep
      have p0 : (0 : Int) ≤ (p : Int) := by omega
      obtain ⟨Y, hY⟩ : ∃ Y, Y = a ^ (E / 2 ^ (p + 1)) % pp := ⟨_, rfl⟩
      rw [← hY] at S0
      have MM := Lib.hid (RMul_any A' A' k k c' c' Y Y wq K0.out K0.out S0.out S0.out)
      go_wp2_with fail
      (with_reducible refine MM.out.mono ?_)
      rintro en w1 ⟨A1, k1, c1, rfl, h11, h12, h13⟩
      have T1 := Lib.hid h11
      have W1 := Lib.hid (bel_nx W0.out (Nat.le_refl _) h13)
      have K1 := Lib.hid (show k1 ≤ 16 by rw [← sl_len h11]; exact len16 (mod_lt _))
      have HY := Lib.hid hY
      obtain ⟨q, hq⟩ : ∃ q, q = p / 8 := ⟨_, rfl⟩
      obtain ⟨u, hu⟩ : ∃ u, u = p % 8 := ⟨_, rfl⟩
      have e1 : (p : Int) / 8 = (q : Int) := by omega
      have e2 : (p : Int) % 8 = (u : Int) := by omega
      have qm : q < m := by omega
      have qmI : (q : Int) < (m : Int) := by omega
      have u64 : (u : Int) < 64 := by omega
      have eu : IntKind.u64.wrap (u : Int) = (u : Int) := by rw [IntKind.wrap_u64]; omega
      obtain ⟨bd, rfl, -⟩ := (HB.out.below W1.out).at_ qm
      obtain ⟨x, hx⟩ : ∃ x, x = e.getD q 0 := ⟨_, rfl⟩
      have cb := sl_byte (HB.out.below W1.out) qm
      rw [← hx] at cb
      obtain ⟨y, hy⟩ : ∃ y, y = x / 2 ^ u := ⟨_, rfl⟩
      have ey : (x : Int) / 2 ^ u = (y : Int) := by rw [hy]; simp
      obtain ⟨b, hb⟩ : ∃ b, b = y % 2 := ⟨_, rfl⟩
      have ed : (y : Int) % 2 = (b : Int) := by omega
      have HBIT := Lib.hid (show E / 2 ^ p % 2 = b by rw [hb, hy, hx, hq, hu, HE.out]; exact (le_bit e p HX.out).symm)
      have hb01 : b = 0 ∨ b = 1 := by omega
      clear h11 h13 hY hq hu hx hy hb MM
      rcases hb01 with rfl | rfl
      · have HV := Lib.hid (show Y * Y % pp = a ^ (E / 2 ^ p) % pp by rw [HY.out]; exact pow_dbl a E p HBIT.out)
        go_wp2_with fail
        go_roundw
        case rel => exact ⟨p, k1, c1, A1, by omega, rfl, rfl, by rw [← HV.out]; exact T1.out, h12, W1.out⟩
        case measure => simp [intOf] <;> omega
      · have HV := Lib.hid (show Y * Y % pp * a % pp = a ^ (E / 2 ^ p) % pp by rw [HY.out]; exact pow_dbl1 a E p HBIT.out)
        have M2 := Lib.hid (RMul_any A1 A k1 n c1 c (Y * Y % pp) a w1 K1.out hn T1.out (HA.out.below W1.out))
        go_wp2_with fail
        (with_reducible refine M2.out.mono ?_)
        rintro en w2 ⟨A2, k2, c2, rfl, h21, h22, h23⟩
        have T2 := Lib.hid h21
        have W2 := Lib.hid (bel_nx W1.out (Nat.le_refl _) h23)
        clear h21 h23 M2 e1 e2 eu ey ed cb
        go_wp2_with fail
        go_roundw
        case rel => exact ⟨p, k2, c2, A2, by omega, rfl, rfl, by rw [← HV.out]; exact T2.out, h22, W2.out⟩
        case measure => simp [intOf] <;> omega
set_option maxHeartbeats 1000000 in
theorem RInv_any (A : Option Addr) (n c : Nat) (a : Nat) (w : World) (hn : n ≤ 16) (ha : Sl w A n (nl (dg a))) :
    Calls Tryd.prog 37 #[.slice A n c] w (RetN (a ^ (pp - 2) % pp) w) := by
  have HA := Lib.hid ha
  clear ha
  go_enter Tryd.func37, Tryd.ntmps37
  go_wp2_with fail
  (with_reducible refine (P_any w).mono ?_)
  rintro e w1 ⟨A1, k1, c1, rfl, h11, h12, h13⟩
  have K1 := Lib.hid (show k1 = 16 by rw [← sl_len h11, dg_pp]; rfl)
  have W1 := Lib.hid h13
  have A2 := (Below.refl w1.heap.size w1).alloc (Nat.le_refl _) (.cells #[.int .u64 2] 22)
  have T1 := Lib.hid (h11.below A2)
  have S2 := Lib.hid (show Sl (w1.alloc (.cells #[.int .u64 2] 22)) (some ⟨w1.heap.size, 0, none⟩) 1 (nl [2]) from nl_sl (Bl.new_ w1 22 (nl [2]).toArray) rfl)
  have W2 := Lib.hid (bel_nx W1.out (Nat.le_refl _) A2)
  have MM := minus_any A1 _ k1 1 c1 1 (dg pp) [2] _ (by have := K1.out; omega) (by have := K1.out; omega) (dg_dg _) (by unfold Dg; decide) (by rw [vl_dg]; exact pp_2) T1.out S2.out
  rw [vl_dg, show vl [2] = 2 from rfl] at MM
  have MM := Lib.hid MM
  clear h11 h13 A2 S2
  go_wp2_with fail
  (with_reducible refine MM.out.mono ?_)
  rintro e w3 ⟨A3, k3, c3, rfl, h31, h32, h33⟩
  have W3 := Lib.hid (W2.out.trans (h33.mono W2.out.size))
  have K3 := Lib.hid (show k3 ≤ 16 by rw [← sl_len h31]; exact len16 (Nat.sub_lt pp_pos (by decide)))
  have BB := Bytes_any A3 k3 c3 32 (dg (pp - 2)) w3 (by have := K3.out; omega) (by decide) (dg_dg _) h31
  rw [vl_dg] at BB
  have BB := Lib.hid (show Calls Tryd.prog 20 #[.slice A3 k3 c3, .int .i64 32] w3 (RetY (by_ (pp - 2) 32) w3) from BB)
  clear h31 h33 MM
  go_wp2_with fail
  (with_reducible refine BB.out.mono ?_)
  rintro e w4 ⟨g4, rfl, h41, h42, h43⟩
  rw [by_length] at *
  have W4 := Lib.hid (bel_nx W3.out (Nat.le_refl _) h43)
  have PP := Power_any A _ n 32 c 32 a (by_ (pp - 2) 32) w4 hn (by decide) (by_lt _ _) (HA.out.below W4.out) (bl_sl h42 (by_length _ _))
  rw [le_by, Nat.mod_eq_of_lt (show pp - 2 < 256 ^ 32 by rw [pp_eq]; decide)] at PP
  have PP := Lib.hid PP
  clear h41 h42 h43 BB
  go_wp2_with fail
  (with_reducible refine PP.out.mono ?_)
  intro e w5 h5
  have R5 := Lib.hid (h5.of rfl W4.out)
  clear h5
  obtain ⟨A6, k6, c6, rfl, h3, h4, h5⟩ := R5.out
  have R7 := Lib.hid (show RetN (a ^ (pp - 2) % pp) w (.returned (.slice A6 k6 c6)) w5 from R5.out)
  clear R5 h3 h4 h5
  go_wp2
  go_ret
  exact R7.out
end Go.Proofs.YteechlkccmcpfaaDoor.Fd
