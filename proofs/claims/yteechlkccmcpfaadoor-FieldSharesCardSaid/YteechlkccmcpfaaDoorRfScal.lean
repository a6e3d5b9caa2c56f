/-
  Scalars, as the document reckons them.
-/
import Derived.Test.YteechlkccmcpfaaDoorRfRest
import Derived.Test.YteechlkccmcpfaaDoorRfBytes
namespace Go.Proofs.YteechlkccmcpfaaDoor.Fd
open Go.RowKit Go.Proofs.YteechlkccmcpfaaDoor.Gn Go.Deep
set_option linter.unusedVariables false

theorem num_len (l : List Nat) (n : Nat) (h : ∀ x ∈ l, x < 256) (hn : l.length ≤ 2 * n) : (dg (le l)).length ≤ n := by
  refine dg_len' (Nat.lt_of_lt_of_le (le_lt l h) ?_)
  rw [pow_half]; exact Nat.pow_le_pow_right (by decide) hn
/-- What Scalar answers. -/
def scErr (l : List Nat) : Int := if l.length = 32 then (if le l < Lq then 0 else 31) else 1
set_option maxHeartbeats 1000000 in
theorem RScalar_any (A : Option Addr) (n c : Nat) (l : List Nat) (w : World) (hn : n ≤ 1000) (hl : ∀ x ∈ l, x < 256) (hs : Sl w A n (bl l)) :
    Calls Tryd.prog 44 #[.slice A n c] w fun e w' => e = .returned (.int .i64 (scErr l)) ∧ Below w.heap.size w w' := by
  have hln : l.length = n := by simpa [bl] using hs.1
  by_cases h32 : n = 32
  · have t0 : ((n : Int) != 32) = false := by simp; omega
    have NN := Lib.hid (Number_any A n c l w hn hl hs)
    have KN := Lib.hid (num_len l 16 hl (by omega))
    obtain ⟨b, hb⟩ : ∃ b, decide (le l < Lq) = b := ⟨_, rfl⟩
    have HB := Lib.hid hb
    have HE := Lib.hid (show scErr l = if le l < Lq then 0 else 31 by unfold scErr; rw [if_pos (by omega)])
    clear hl hs hln h32 hb
    go_enter Tryd.func44, Tryd.ntmps44
    go_wp2_with fail
    (with_reducible refine NN.out.mono ?_)
    rintro e w1 ⟨A1, k1, c1, rfl, h11, h12, h13⟩
    have T1 := Lib.hid h11
    have W1 := Lib.hid h13
    clear h11 h13 NN
    go_wp2_with fail
    (with_reducible refine (L_any _).mono ?_)
    rintro e w2 ⟨A2, k2, c2, rfl, h21, h22, h23⟩
    have W2 := Lib.hid (bel_nx W1.out (Nat.le_refl _) h23)
    have LL := least_any A1 A2 k1 k2 c1 c2 (le l) Lq w2 (by rw [← sl_len T1.out]; exact Nat.le_trans KN.out (by decide)) (by rw [← sl_len h21]; exact Nat.le_trans lq_len (by decide)) (T1.out.below h23) h21
    rw [HB.out] at LL
    have LL := Lib.hid LL
    clear h21 h23
    go_wp2_with fail
    (with_reducible refine LL.out.mono ?_)
    rintro e w3 ⟨rfl, h3⟩
    have W3 := Lib.hid (bel_nx W2.out (Nat.le_refl _) h3)
    clear h3 LL
    cases b
    · have HX := Lib.hid (show scErr l = 31 by rw [HE.out, if_neg (of_decide_eq_false HB.out)])
      go_wp2
      go_ret
      exact ⟨ret_int HX.out.symm, W3.out⟩
    · have HX := Lib.hid (show scErr l = 0 by rw [HE.out, if_pos (of_decide_eq_true HB.out)])
      go_wp2
      go_ret
      exact ⟨ret_int HX.out.symm, W3.out⟩
  · have t0 : ((n : Int) != 32) = true := by simp; omega
    have HX := Lib.hid (show scErr l = 1 by unfold scErr; rw [if_neg (by omega)])
    clear hl hs hln h32
    go_enter Tryd.func44, Tryd.ntmps44
    go_wp2
    go_ret
    exact ⟨ret_int HX.out.symm, Below.refl _ _⟩
/-- New bytes and no error. -/
def RetYE (l : List Nat) (w : World) (e : Ending) (w' : World) : Prop := ∃ g, e = .returned (.tuple #[.slice (some ⟨g, 0, none⟩) l.length l.length, .int .i64 0]) ∧ w.heap.size ≤ g ∧ Bl w' g 5 (bl l).toArray ∧ Below w.heap.size w w'
def NoneE (w : World) (e : Ending) (w' : World) : Prop := e = .returned (.tuple #[.slice none 0 0, .int .i64 1]) ∧ Below w.heap.size w w'
set_option maxHeartbeats 1000000 in
theorem RFold_long (A : Option Addr) (n c : Nat) (w : World) (hn : 64 < n) (h2 : n ≤ 9223372036854775807) :
    Calls Tryd.prog 42 #[.slice A n c] w (NoneE w) := by
  have t0 : decide ((64 : Int) < (n : Int)) = true := by simp; omega
  clear hn h2
  go_enter Tryd.func42, Tryd.ntmps42
  go_wp2
  go_ret2
  exact ⟨rfl, Below.refl _ _⟩
set_option maxHeartbeats 1000000 in
theorem RFold_any (A : Option Addr) (n c : Nat) (l : List Nat) (w : World) (hn : n ≤ 64) (hl : ∀ x ∈ l, x < 256) (hs : Sl w A n (bl l)) :
    Calls Tryd.prog 42 #[.slice A n c] w (RetYE (by_ (le l % Lq) 32) w) := by
  have hln : l.length = n := by simpa [bl] using hs.1
  have t0 : decide ((64 : Int) < (n : Int)) = false := by simp; omega
  have NN := Lib.hid (Number_any A n c l w (by omega) hl hs)
  have KN := Lib.hid (num_len l 32 hl (by omega))
  clear hl hs hln hn
  go_enter Tryd.func42, Tryd.ntmps42
  go_wp2_with fail
  (with_reducible refine NN.out.mono ?_)
  rintro e w1 ⟨A1, k1, c1, rfl, h11, h12, h13⟩
  have W1 := Lib.hid h13
  have RR := Lib.hid (Rest_any A1 k1 c1 (le l) w1 (by rw [← sl_len h11]; exact Nat.le_trans KN.out (by decide)) h11)
  clear h11 h13 NN
  go_wp2_with fail
  (with_reducible refine RR.out.mono ?_)
  rintro e w2 ⟨A2, k2, c2, rfl, h21, h22, h23⟩
  have W2 := Lib.hid (bel_nx W1.out (Nat.le_refl _) h23)
  have BY := Bytes_any A2 k2 c2 32 (dg (le l % Lq)) w2 (by rw [← sl_len h21]; exact Nat.le_trans (len_lq (Nat.mod_lt _ Lq_pos)) (by decide)) (by decide) (dg_dg _) h21
  rw [vl_dg] at BY
  have BY := Lib.hid (show Calls Tryd.prog 20 #[.slice A2 k2 c2, .int .i64 32] w2 (RetY (by_ (le l % Lq) 32) w2) from BY)
  clear h21 h23 RR
  go_wp2_with fail
  (with_reducible refine BY.out.mono ?_)
  rintro e w3 ⟨g3, rfl, h31, h32, h33⟩
  have HG := Lib.hid (Nat.le_trans W2.out.size h31)
  have H3 := Lib.hid h32
  have W3 := Lib.hid (bel_nx W2.out (Nat.le_refl _) h33)
  clear h31 h32 h33 BY
  go_wp2
  go_ret2
  exact ⟨g3, rfl, HG.out, H3.out, W3.out⟩
set_option maxHeartbeats 1000000 in
theorem RTimes_any (A B C : Option Addr) (n m k ca cb cc : Nat) (a b c : List Nat) (w : World) (hn : n ≤ 32) (hm : m ≤ 32) (hk : k ≤ 32) (ha : ∀ x ∈ a, x < 256) (hb : ∀ x ∈ b, x < 256) (hc : ∀ x ∈ c, x < 256) (sa : Sl w A n (bl a)) (sb : Sl w B m (bl b)) (sc : Sl w C k (bl c)) :
    Calls Tryd.prog 46 #[.slice A n ca, .slice B m cb, .slice C k cc] w (RetYE (by_ ((le a * le b + le c) % Lq) 32) w) := by
  have hla : a.length = n := by simpa [bl] using sa.1
  have hlb : b.length = m := by simpa [bl] using sb.1
  have hlc : c.length = k := by simpa [bl] using sc.1
  have t0 : decide ((32 : Int) < (n : Int)) = false := by simp; omega
  have t1 : decide ((32 : Int) < (m : Int)) = false := by simp; omega
  have t2 : decide ((32 : Int) < (k : Int)) = false := by simp; omega
  have SB := Lib.hid sb
  have SC := Lib.hid sc
  have HBB := Lib.hid hb
  have HCC := Lib.hid hc
  have NN := Lib.hid (Number_any A n ca a w (by omega) ha sa)
  have KA := Lib.hid (num_len a 16 ha (by omega))
  have KB := Lib.hid (num_len b 16 hb (by omega))
  have KC := Lib.hid (num_len c 16 hc (by omega))
  have PB := Lib.hid (show le a * le b < 65536 ^ 32 by
    have h1 := le_lt' a 32 ha (by omega)
    have h2 := le_lt' b 32 hb (by omega)
    have := Nat.mul_lt_mul'' h1 h2
    rwa [← Nat.pow_add, show 32 + 32 = 2 * 32 from rfl, ← pow_half] at this)
  have PC := Lib.hid (show le c < 65536 ^ 32 by
    have h1 := le_lt' c 64 hc (by omega)
    rwa [show 64 = 2 * 32 from rfl, ← pow_half] at h1)
  clear ha hb hc sa sb sc hla hlb hlc
  go_enter Tryd.func46, Tryd.ntmps46
  go_wp2_with fail
  (with_reducible refine NN.out.mono ?_)
  rintro e w1 ⟨A1, k1, c1, rfl, h11, h12, h13⟩
  have W1 := Lib.hid h13
  have T1 := Lib.hid h11
  have N2 := Lib.hid (Number_any B m cb b w1 (by omega) HBB.out (SB.out.below h13))
  clear h11 h13 NN
  go_wp2_with fail
  (with_reducible refine N2.out.mono ?_)
  rintro e w2 ⟨A2, k2, c2, rfl, h21, h22, h23⟩
  have W2 := Lib.hid (bel_nx W1.out (Nat.le_refl _) h23)
  have MM := times_any A1 A2 k1 k2 c1 c2 (dg (le a)) (dg (le b)) w2 (by rw [← sl_len T1.out]; exact Nat.le_trans KA.out (by decide)) (by rw [← sl_len h21]; exact Nat.le_trans KB.out (by decide)) (dg_dg _) (dg_dg _) (T1.out.below h23) h21
  rw [vl_dg, vl_dg] at MM
  have MM := Lib.hid MM
  clear h21 h23 N2
  go_wp2_with fail
  (with_reducible refine MM.out.mono ?_)
  rintro e w3 ⟨A3, k3, c3, rfl, h31, h32, h33⟩
  have W3 := Lib.hid (bel_nx W2.out (Nat.le_refl _) h33)
  have T3 := Lib.hid h31
  have N4 := Lib.hid (Number_any C k cc c w3 (by omega) HCC.out (SC.out.below W3.out))
  clear h31 h33 MM
  go_wp2_with fail
  (with_reducible refine N4.out.mono ?_)
  rintro e w4 ⟨A4, k4, c4, rfl, h41, h42, h43⟩
  have W4 := Lib.hid (bel_nx W3.out (Nat.le_refl _) h43)
  have SS := sum_any A3 A4 k3 k4 c3 c4 (dg (le a * le b)) (dg (le c)) w4 (by rw [← sl_len T3.out]; exact Nat.le_trans (dg_len' PB.out) (by decide)) (by rw [← sl_len h41]; exact Nat.le_trans KC.out (by decide)) (dg_dg _) (dg_dg _) (T3.out.below h43) h41
  rw [vl_dg, vl_dg] at SS
  have SS := Lib.hid SS
  clear h41 h43 N4
  go_wp2_with fail
  (with_reducible refine SS.out.mono ?_)
  rintro e w5 ⟨A5, k5, c5, rfl, h51, h52, h53⟩
  have W5 := Lib.hid (bel_nx W4.out (Nat.le_refl _) h53)
  have RR := Lib.hid (Rest_any A5 k5 c5 (le a * le b + le c) w5 (by
    rw [← sl_len h51]
    refine Nat.le_trans (dg_len' (k := 33) ?_) (by decide)
    have := PB.out; have := PC.out
    rw [Nat.pow_succ]; omega) h51)
  clear h51 h53 SS
  go_wp2_with fail
  (with_reducible refine RR.out.mono ?_)
  rintro e w6 ⟨A6, k6, c6, rfl, h61, h62, h63⟩
  have W6 := Lib.hid (bel_nx W5.out (Nat.le_refl _) h63)
  have BY := Bytes_any A6 k6 c6 32 (dg ((le a * le b + le c) % Lq)) w6 (by rw [← sl_len h61]; exact Nat.le_trans (len_lq (Nat.mod_lt _ Lq_pos)) (by decide)) (by decide) (dg_dg _) h61
  rw [vl_dg] at BY
  have BY := Lib.hid (show Calls Tryd.prog 20 #[.slice A6 k6 c6, .int .i64 32] w6 (RetY (by_ ((le a * le b + le c) % Lq) 32) w6) from BY)
  clear h61 h63 RR
  go_wp2_with fail
  (with_reducible refine BY.out.mono ?_)
  rintro e w7 ⟨g7, rfl, h71, h72, h73⟩
  have HG := Lib.hid (Nat.le_trans W6.out.size h71)
  have H7 := Lib.hid h72
  have W7 := Lib.hid (bel_nx W6.out (Nat.le_refl _) h73)
  clear h71 h72 h73 BY
  go_wp2
  go_ret2
  exact ⟨g7, rfl, HG.out, H7.out, W7.out⟩
set_option maxHeartbeats 1000000 in
theorem RTimes_long (A B C : Option Addr) (n m k ca cb cc : Nat) (w : World) (h : 32 < n ∨ 32 < m ∨ 32 < k) (hn : n ≤ 1000) (hm : m ≤ 1000) (hk : k ≤ 1000) :
    Calls Tryd.prog 46 #[.slice A n ca, .slice B m cb, .slice C k cc] w (NoneE w) := by
  by_cases h1 : 32 < n
  · have t0 : decide ((32 : Int) < (n : Int)) = true := by simp; omega
    clear h h1
    go_enter Tryd.func46, Tryd.ntmps46
    go_wp2
    go_ret2
    exact ⟨rfl, Below.refl _ _⟩
  · have t0 : decide ((32 : Int) < (n : Int)) = false := by simp; omega
    by_cases h2 : 32 < m
    · have t1 : decide ((32 : Int) < (m : Int)) = true := by simp; omega
      clear h h1 h2
      go_enter Tryd.func46, Tryd.ntmps46
      go_wp2
      go_ret2
      exact ⟨rfl, Below.refl _ _⟩
    · have t1 : decide ((32 : Int) < (m : Int)) = false := by simp; omega
      have t2 : decide ((32 : Int) < (k : Int)) = true := by simp; omega
      clear h h1 h2
      go_enter Tryd.func46, Tryd.ntmps46
      go_wp2
      go_ret2
      exact ⟨rfl, Below.refl _ _⟩
end Go.Proofs.YteechlkccmcpfaaDoor.Fd
