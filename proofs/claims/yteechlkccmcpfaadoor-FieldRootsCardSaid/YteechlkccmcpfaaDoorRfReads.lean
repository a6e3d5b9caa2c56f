/-
  Bytes of elements, as the document reads them; the walk of the law.
-/
import Derived.Test.YteechlkccmcpfaaDoorRfSums
import Derived.Test.YteechlkccmcpfaaDoorFdBack
namespace Go.Proofs.YteechlkccmcpfaaDoor.Fd
open Go.RowKit Go.Proofs.YteechlkccmcpfaaDoor.Gn Go.Deep
set_option linter.unusedVariables false

set_option maxHeartbeats 1000000 in
theorem rdecode_len (A : Option Addr) (n c : Nat) (w : World) (hn : n ≠ 32) :
    Calls Tryd.prog 18 #[.slice A n c] w fun e w' => DecR e ⟨0, 0, 0, 0, 0⟩ 1 ∧ Below w.heap.size w w' := by
  have g : ((n : Int) != 32) = true := by simp; omega
  clear hn
  go_enter Tryd.func18, Tryd.ntmps18
  go_wp2
  refine bodyPost_ret (v := .tuple #[.agg z5, .int .i64 1]) ?_ rfl ⟨rfl, (Below.refl _ _).alloc (Nat.le_refl _) _⟩
  simp [results, Tryd.results18, go_sem, z5]
set_option maxHeartbeats 2000000 in
theorem rdecode_any (A : Option Addr) (c : Nat) (l : List Nat) (w : World) (hl : ∀ x ∈ l, x < 256) (hs : Sl w A 32 (bl l)) :
    Calls Tryd.prog 18 #[.slice A 32 c] w fun e w' => DecP (le l) e ∧ Below w.heap.size w w' := by
  have A0 := (Below.refl w.heap.size w).alloc (Nat.le_refl _) (.cells z5 24)
  have Z0 := Lib.hid (Bl.new_ w 24 z5)
  have HL := Lib.hid hl
  have W0 := Lib.hid A0
  have S0 := Lib.hid (hs.below A0)
  have LB := Lib.hid (show le l < 65536 ^ 16 by
    have h := le_lt l hl
    rw [show l.length = 32 by simpa [bl] using hs.1] at h
    rw [show (65536 : Nat) ^ 16 = 256 ^ 32 from pow_half 16]
    exact h)
  have N0 := Lib.hid (Number_any A 32 c l (w.alloc (.cells z5 24)) (by decide) hl (hs.below A0))
  obtain ⟨m, hm⟩ : ∃ m, le l = m := ⟨_, rfl⟩
  rw [hm] at LB N0 ⊢
  have HM := Lib.hid hm
  have PD := Lib.hid (show ∀ e, DecP m e = (if m < pp then DecR e (el m) 0 else DecR e ⟨0, 0, 0, 0, 0⟩ 30) from fun e => rfl)
  clear hl hs A0 hm
  go_enter Tryd.func18, Tryd.ntmps18
  go_wp2_with fail
  change Calls _ _ _ (w.alloc (.cells z5 24)) _
  (with_reducible refine N0.out.mono ?_)
  rintro e w1 ⟨A1, k1, c1, rfl, h11, h12, h13⟩
  have T1 := Lib.hid h11
  have K1 := Lib.hid (show k1 ≤ 16 by rw [← sl_len h11]; exact dg_len' LB.out)
  have W1 := Lib.hid (bel_nx W0.out (Nat.le_refl _) h13)
  have Z1 := Lib.hid (Z0.out.below' h13)
  have S1 := Lib.hid (S0.out.below h13)
  clear h11 h13 N0 W0 Z0 S0
  go_wp2_with fail
  (with_reducible refine (P_any w1).mono ?_)
  rintro e w2 ⟨A2, k2, c2, rfl, h21, h22, h23⟩
  have W2 := Lib.hid (bel_nx W1.out (Nat.le_refl _) h23)
  have Z2 := Lib.hid (Z1.out.below' h23)
  have S2 := Lib.hid (S1.out.below h23)
  obtain ⟨b, hb⟩ : ∃ b, decide (m < pp) = b := ⟨_, rfl⟩
  have LL := least_any A1 A2 k1 k2 c1 c2 m pp w2 (by have := K1.out; omega) (by rw [← sl_len h21, dg_pp]; decide) (T1.out.below h23) h21
  rw [hb] at LL
  have LL := Lib.hid LL
  have HB := Lib.hid hb
  clear h21 h23 hb W1 Z1 S1
  go_wp2_with fail
  (with_reducible refine LL.out.mono ?_)
  rintro e w3 ⟨rfl, hb3⟩
  have W3 := Lib.hid (bel_nx W2.out (Nat.le_refl _) hb3)
  have Z3 := Lib.hid (Z2.out.below' hb3)
  have S3 := Lib.hid (S2.out.below hb3)
  clear hb3 LL W2 Z2 S2
  cases b
  · have HLT := Lib.hid (show ¬ m < pp from of_decide_eq_false HB.out)
    obtain ⟨⟨r0, r1, r2, r3, r4⟩, f0, f1, f2, f3, f4⟩ := cells5 Z3.out
    go_wp2
    refine bodyPost_ret (v := .tuple #[.agg z5, .int .i64 30]) ?_ rfl ⟨by rw [PD.out, if_neg HLT.out]; exact rfl, set5_below W3.out (Nat.le_refl _) _ _ _ _ _⟩
    simp [results, Tryd.results18, go_sem, z5, r0, r1, r2, r3, r4]
  · have HLT := Lib.hid (show m < pp from of_decide_eq_true HB.out)
    have N1 := Number_any A 32 c l w3 (by decide) HL.out S3.out
    rw [HM.out] at N1
    have N1 := Lib.hid N1
    go_wp2_with fail
    (with_reducible refine N1.out.mono ?_)
    rintro e w4 ⟨A4, k4, c4, rfl, h41, h42, h43⟩
    have W4 := Lib.hid (bel_nx W3.out (Nat.le_refl _) h43)
    have Z4 := Lib.hid (Z3.out.below' h43)
    have K4 := Lib.hid (show k4 ≤ 100 by rw [← sl_len h41]; exact Nat.le_trans (len16 HLT.out) (by decide))
    have EE := RElem_any A4 k4 c4 m w4 K4.out HLT.out h41
    obtain ⟨y, hy⟩ : ∃ y, el m = y := ⟨_, rfl⟩
    rw [hy] at EE
    have HY := Lib.hid hy
    have EE := Lib.hid (show Calls Tryd.prog 40 #[.slice A4 k4 c4] w4 fun e w' => e = .returned (.agg #[.int .u64 (y.a : Int), .int .u64 (y.b : Int), .int .u64 (y.c : Int), .int .u64 (y.d : Int), .int .u64 (y.e : Int)]) ∧ Below w4.heap.size w4 w' from EE)
    clear h41 h43 hy N1
    go_wp2_with fail
    (with_reducible refine EE.out.mono ?_)
    rintro e w5 ⟨rfl, hb5⟩
    have W5 := Lib.hid (bel_nx W4.out (Nat.le_refl _) hb5)
    obtain ⟨⟨r0, r1, r2, r3, r4⟩, f0, f1, f2, f3, f4⟩ := cells5 (Z4.out.below' hb5)
    clear hb5 EE
    go_wp2
    refine bodyPost_ret (v := .tuple #[.agg y.v, .int .i64 0]) ?_ rfl ⟨by rw [PD.out, if_pos HLT.out, HY.out]; exact rfl, set5_below W5.out (Nat.le_refl _) _ _ _ _ _⟩
    simp [results, Tryd.results18, go_sem, E5.v, r0, r1, r2, r3, r4]
/-- What the walk of FieldReads keeps. -/
structure Rd (W0 w : World) (ga gx gy : Nat) (a x : E5) (B : Option Addr) (k : Nat) : Prop where
  ca : C5 w ga a
  cx : C5 w gx x
  cy : C5 w gy x
  sk : Sl w B k (nl (dg (a.val % pp)))
  tab : Tab w
  bel : Below W0.heap.size W0 w
theorem Rd.keep {W0 w w' : World} {ga gx gy : Nat} {a x : E5} {B : Option Addr} {k : Nat} (s : Rd W0 w ga gx gy a x B k) (hb : Below w.heap.size w w') : Rd W0 w' ga gx gy a x B k :=
  ⟨c5_below s.ca hb, c5_below s.cx hb, c5_below s.cy hb, s.sk.below hb, s.tab.below hb, below_nx s.bel (Nat.le_refl _) hb⟩
set_option maxHeartbeats 4000000 in
set_option maxRecDepth 100000 in
theorem reads_walk {w : World} (tab : Tab w) (A : Option Addr) (n c : Nat) (l : List Nat) (hsl : Sl w A n (bl l)) (a x : E5) (ha : a.ok) (k0 : Int) (N : Nat) (hN : N < 18446744073709551616)
    (D1 : ∀ w', Sl w' A n (bl l) → Calls Tryd.prog 13 #[.slice A n c] w' fun e w'' => e = .returned (.tuple #[(.agg #[.int .u64 (x.a : Int), .int .u64 (x.b : Int), .int .u64 (x.c : Int), .int .u64 (x.d : Int), .int .u64 (x.e : Int)]), .int .i64 k0]) ∧ Below w'.heap.size w' w'')
    (D2 : ∀ w', Sl w' A n (bl l) → Calls Tryd.prog 18 #[.slice A n c] w' fun e w'' => e = .returned (.tuple #[(.agg #[.int .u64 (x.a : Int), .int .u64 (x.b : Int), .int .u64 (x.c : Int), .int .u64 (x.d : Int), .int .u64 (x.e : Int)]), .int .i64 k0]) ∧ Below w'.heap.size w' w'') :
    Calls Tryd.prog 4 #[.slice A n c, .agg a.v, .int .u64 (N : Int)] w fun e w' => e = .returned (.bool true) ∧ Below w.heap.size w w' := by
  have D1 := Lib.hid D1
  have D2 := Lib.hid D2
  have OA := Lib.hid (show ∀ u, Calls Tryd.prog 19 #[(.agg #[.int .u64 (a.a : Int), .int .u64 (a.b : Int), .int .u64 (a.c : Int), .int .u64 (a.d : Int), .int .u64 (a.e : Int)])] u (RetN (a.val % pp) u) from fun u => Of_any a u ha)
  have EN := Lib.hid (show ∀ u, Calls Tryd.prog 14 #[(.agg #[.int .u64 (a.a : Int), .int .u64 (a.b : Int), .int .u64 (a.c : Int), .int .u64 (a.d : Int), .int .u64 (a.e : Int)])] u (RetS (by_ (a.val % pp) 32) u) from fun u => (Encode_any a u ha).mono fun e w' h => RetB.s h (by_length _ _))
  have RA := Lib.hid (show ∀ u, Calls Tryd.prog 15 #[(.agg #[.int .u64 (a.a : Int), .int .u64 (a.b : Int), .int .u64 (a.c : Int), .int .u64 (a.d : Int), .int .u64 (a.e : Int)])] u fun e w' => e = .returned (.agg (el (a.val % pp)).v) ∧ Below u.heap.size u w' from fun u => Reduce_any a u ha)
  have SN := Lib.hid (show ∀ u, Calls Tryd.prog 22 #[.int .u64 (N : Int)] u fun e w' => e = .returned (.agg (el N).v) ∧ Below u.heap.size u w' from fun u => Small_any N u hN)
  have NP : N < pp := by rw [pp_eq]; omega
  have NOK : (⟨N, 0, 0, 0, 0⟩ : E5).ok := ⟨hN, Nat.lt_of_le_of_lt (Nat.zero_le N) hN, Nat.lt_of_le_of_lt (Nat.zero_le N) hN, Nat.lt_of_le_of_lt (Nat.zero_le N) hN, Nat.lt_of_le_of_lt (Nat.zero_le N) hN⟩
  have NV : (⟨N, 0, 0, 0, 0⟩ : E5).val % pp = N := by
    have : (⟨N, 0, 0, 0, 0⟩ : E5).val = N := by unfold E5.val; simp
    rw [this, Nat.mod_eq_of_lt NP]
  have ON := Lib.hid (show ∀ u, Calls Tryd.prog 19 #[.agg #[.int .u64 (N : Int), .int .u64 0, .int .u64 0, .int .u64 0, .int .u64 0]] u (RetN N u) from fun u => by
    have := Of_any ⟨N, 0, 0, 0, 0⟩ u NOK
    rw [NV] at this
    exact this)
  have HNP := Lib.hid NP
  have BA := Lib.hid (Bl.new_ w 24 a.v)
  have WA := Lib.hid ((Below.refl w.heap.size w).alloc (Nat.le_refl _) (.cells a.v 24))
  have SA := Lib.hid (hsl.below ((Below.refl w.heap.size w).alloc (Nat.le_refl _) (.cells a.v 24)))
  have TA := Lib.hid (tab.below ((Below.refl w.heap.size w).alloc (Nat.le_refl _) (.cells a.v 24)))
  have G1 := guard5
  have G2 : ∀ w, (Op.equalIn 10000 24 (.agg #[.int .u64 (x.a : Int), .int .u64 (x.b : Int), .int .u64 (x.c : Int), .int .u64 (x.d : Int), .int .u64 (x.e : Int)]) (.agg #[.int .u64 (x.a : Int), .int .u64 (x.b : Int), .int .u64 (x.c : Int), .int .u64 (x.d : Int), .int .u64 (x.e : Int)])).run Tryd.prog w = .ok true w := fun w => by
    have := equal5 x x w
    rw [decide_eq_true rfl] at this
    exact this
  clear tab hsl ha NV NOK NP hN
  go_enter Tryd.func4, Tryd.ntmps4
  go_wp2_with fail
  change Calls _ _ _ (w.alloc (.cells a.v 24)) _
  (with_reducible refine (D1.out _ SA.out).mono ?_)
  rintro e w1 ⟨rfl, hb1⟩
  have W1 := Lib.hid (below_nx WA.out (Nat.le_refl _) hb1)
  have B1 := Lib.hid (BA.out.below' hb1)
  have S1 := Lib.hid (SA.out.below hb1)
  have T1 := Lib.hid (TA.out.below hb1)
  have a2 := (Below.refl w1.heap.size w1).alloc (Nat.le_refl _) (.cells x.v 24)
  have W2 := Lib.hid (below_nx W1.out (Nat.le_refl _) a2)
  have B2 := Lib.hid (B1.out.below' a2)
  have S2 := Lib.hid (S1.out.below a2)
  have T2 := Lib.hid (T1.out.below a2)
  have X2 := Lib.hid (Bl.new_ w1 24 x.v)
  clear hb1 W1 B1 S1 T1 a2 D1 SA TA BA WA
  go_wp2_with fail
  change Calls _ _ _ (w1.alloc (.cells x.v 24)) _
  (with_reducible refine (D2.out _ S2.out).mono ?_)
  rintro e w3 ⟨rfl, hb3⟩
  have a4 := hb3.alloc hb3.size (.cells x.v 24)
  have Y4 := Lib.hid (Bl.new_ w3 24 x.v)
  have W4 := Lib.hid (below_nx W2.out (Nat.le_refl _) a4)
  have B4 := Lib.hid (B2.out.below' a4)
  have X4 := Lib.hid (X2.out.below' a4)
  have T4 := Lib.hid (T2.out.below a4)
  clear hb3 a4 W2 B2 S2 T2 X2 D2
  go_upto_region 3 with fail
  change Code.wp _ _ _ _ (w3.alloc (.cells x.v 24))
  generalize w3.alloc (.cells x.v 24) = W3 at *
  obtain ⟨q0, q1, q2, q3, q4⟩ := c5_of B4.out
  go_wp2_with fail
  (with_reducible refine (OA.out _).mono ?_)
  rintro e w5 ⟨A5, k5, c5, rfl, h51, h52, h53⟩
  have T := Lib.hid (show Rd w w5 w.heap.size w1.heap.size w3.heap.size a x A5 k5 from ⟨c5_below (c5_of B4.out) h53, c5_below (c5_of X4.out) h53, c5_below (c5_of Y4.out) h53, h51, T4.out.below h53, below_nx W4.out (Nat.le_refl _) h53⟩)
  have K5 := Lib.hid (show k5 ≤ 16 by rw [← sl_len h51]; exact len16 (mod_lt _))
  clear h51 h53 q0 q1 q2 q3 q4 B4 X4 Y4 T4 W4 OA
  obtain ⟨q0, q1, q2, q3, q4⟩ := T.out.ca
  obtain ⟨r0, r1, r2, r3, r4⟩ := T.out.cx
  obtain ⟨s0, s1, s2, s3, s4⟩ := T.out.cy
  go_wp2_with fail
  (with_reducible refine (EN.out _).mono ?_)
  rintro e w6 ⟨g6, rfl, hs6, hb6⟩
  replace T := Lib.hid (T.out.keep hb6)
  have S6 := Lib.hid hs6
  have BY := Bytes_any A5 k5 c5 32 (dg (a.val % pp)) w6 (by have := K5.out; omega) (by decide) (dg_dg _) T.out.sk
  rw [vl_dg] at BY
  have BY := Lib.hid (show Calls Tryd.prog 20 #[.slice A5 k5 c5, .int .i64 32] w6 (RetY (by_ (a.val % pp) 32) w6) from BY)
  clear hs6 hb6 q0 q1 q2 q3 q4 r0 r1 r2 r3 r4 s0 s1 s2 s3 s4
  go_wp2_with fail
  (with_reducible refine BY.out.mono ?_)
  rintro e w7 ⟨g7, rfl, h71, h72, h73⟩
  rw [by_length]
  replace T := Lib.hid (T.out.keep h73)
  have S7 := Lib.hid (bl_sl h72 (by_length _ _))
  have S67 := Lib.hid (S6.out.below h73)
  have SB := samebytes_any _ _ 32 32 32 32 (by_ (a.val % pp) 32) (by_ (a.val % pp) 32) w7 (by_lt _ _) (by_lt _ _) S67.out S7.out
  rw [beq_self_eq_true] at SB
  have SB := Lib.hid SB
  clear h71 h72 h73 BY S6
  go_wp2_with fail
  (with_reducible refine SB.out.mono ?_)
  rintro e w8 ⟨rfl, rfl⟩
  obtain ⟨q0, q1, q2, q3, q4⟩ := T.out.ca
  clear SB
  go_wp2_with fail
  (with_reducible refine (RA.out _).mono ?_)
  rintro e w9 ⟨rfl, hb9⟩
  replace T := Lib.hid (T.out.keep hb9)
  have IS := Lib.hid (is_any (a.val % pp) A5 k5 c5 w9 (mod_lt _) T.out.sk)
  clear hb9 q0 q1 q2 q3 q4
  go_wp2_with fail
  (with_reducible refine IS.out.mono ?_)
  rintro e w10 ⟨rfl, hb10⟩
  replace T := Lib.hid (T.out.keep hb10)
  clear hb10 IS
  go_wp2_with fail
  (with_reducible refine (SN.out _).mono ?_)
  rintro e w11 ⟨rfl, hb11⟩
  replace T := Lib.hid (T.out.keep hb11)
  clear hb11
  go_wp2_with fail
  (with_reducible refine (ON.out _).mono ?_)
  rintro e w12 ⟨A12, k12, c12, rfl, h121, h122, h123⟩
  replace T := Lib.hid (T.out.keep h123)
  have IS := Lib.hid (is_any N A12 k12 c12 w12 HNP.out h121)
  clear h121 h123
  go_wp2_with fail
  (with_reducible refine IS.out.mono ?_)
  rintro e w13 ⟨rfl, hb13⟩
  replace T := Lib.hid (T.out.keep hb13)
  clear hb13 IS
  go_wp2_with fail
  (with_reducible refine (known_any _ T.out.tab).mono ?_)
  rintro e w14 ⟨rfl, hb14⟩
  replace T := Lib.hid (T.out.keep hb14)
  clear hb14
  go_wp2_with fail
  go_ret
  exact ⟨rfl, T.out.bel⟩
theorem walk_fieldReads {w : World} (tab : Tab w) (A : Option Addr) (n c : Nat) (l : List Nat) (hb : BL w A n c l) (a : E5) (ha : a.ok) (N : Int) (wN : (Lit.int .u64 N).wf = true) :
    Calls Tryd.prog 4 #[.slice A n c, .agg a.v, .int .u64 N] w fun e w' => e = .returned (.bool true) ∧ Below w.heap.size w w' := by
  have hw : 0 ≤ N ∧ N ≤ 18446744073709551615 := by simpa [Lit.wf, IntKind.min, IntKind.max, IntKind.signed, IntKind.bits] using wN
  obtain ⟨M, rfl⟩ := Int.eq_ofNat_of_zero_le hw.1
  have hM : M < 18446744073709551616 := by omega
  by_cases hn : n = 32
  · subst hn
    have D1 := fun w' h => decode_any A c l w' hb.2.2.1 h
    have D2 := fun w' h => rdecode_any A c l w' hb.2.2.1 h
    by_cases hp : le l < pp
    · unfold DecP at D1 D2
      simp only [if_pos hp] at D1 D2
      exact reads_walk tab A 32 c l hb.1 a (el (le l)) ha 0 M hM D1 D2
    · unfold DecP at D1 D2
      simp only [if_neg hp] at D1 D2
      exact reads_walk tab A 32 c l hb.1 a ⟨0, 0, 0, 0, 0⟩ ha 30 M hM D1 D2
  · exact reads_walk tab A n c l hb.1 a ⟨0, 0, 0, 0, 0⟩ ha 1 M hM (fun w' _ => decode_len A n c w' hn) (fun w' _ => rdecode_len A n c w' hn)
end Go.Proofs.YteechlkccmcpfaaDoor.Fd
