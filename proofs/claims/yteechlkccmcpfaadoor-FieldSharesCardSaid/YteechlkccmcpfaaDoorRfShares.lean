/-
  Shares of scalars: the walk of the law.
-/
import Derived.Test.YteechlkccmcpfaaDoorRfScalars
namespace Go.Proofs.YteechlkccmcpfaaDoor.Fd
open Go.RowKit Go.Proofs.YteechlkccmcpfaaDoor.Gn Go.Deep
set_option linter.unusedVariables false

theorem share_eq (x y z q : Nat) : (x * (((y * 1 + z) % q)) + 0) % q = (x * y + (x * z + 0) % q) % q := by
  rw [Nat.mul_one, Nat.add_zero, Nat.add_zero, Nat.mul_mod, Nat.mod_mod, ← Nat.mul_mod, Nat.mul_add, Nat.add_mod_mod]
theorem le_by32 {v : Nat} (h : v < Lq) : le (by_ v 32) = v := by
  rw [le_by]
  refine Nat.mod_eq_of_lt (Nat.lt_trans h ?_)
  unfold Lq
  decide +kernel
theorem sc_ok (v : Nat) : scErr (by_ (v % Lq) 32) = 0 := by
  unfold scErr
  rw [by_length, if_pos rfl, le_by32 (Nat.mod_lt _ Lq_pos), if_pos (Nat.mod_lt _ Lq_pos)]
theorem le_one : le [1] = 1 := rfl
theorem one_lt : ∀ x ∈ [1], x < 256 := by decide
theorem RetYE.s {l : List Nat} {w w' : World} {e : Ending} (hl : l.length = 32) (h : RetYE l w e w') : ∃ A, e = .returned (.tuple #[.slice A 32 32, .int .i64 0]) ∧ Sl w' A 32 (bl l) ∧ Below w.heap.size w w' := by
  obtain ⟨g, rfl, h1, h2, h3⟩ := h
  rw [hl]
  exact ⟨_, rfl, bl_sl h2 hl, h3⟩
theorem times_s (A B C : Option Addr) (n m k ca cb cc : Nat) (a b c : List Nat) (v : Nat) (hv : v = (le a * le b + le c) % Lq) (w : World) (tab : TabL w) (hn : n ≤ 32) (hm : m ≤ 32) (hk : k ≤ 32) (ha : ∀ x ∈ a, x < 256) (hb : ∀ x ∈ b, x < 256) (hc : ∀ x ∈ c, x < 256) (sa : Sl w A n (bl a)) (sb : Sl w B m (bl b)) (sc : Sl w C k (bl c)) :
    Calls Tryd.prog 45 #[.slice A n ca, .slice B m cb, .slice C k cc] w fun e w' => ∃ A', e = .returned (.tuple #[.slice A' 32 32, .int .i64 0]) ∧ Sl w' A' 32 (bl (by_ v 32)) ∧ Below w.heap.size w w' := by
  subst hv
  exact (Times_any A B C n m k ca cb cc a b c w tab hn hm hk ha hb hc sa sb sc).mono fun e w' h => RetYE.s (by_length _ _) h
set_option maxHeartbeats 2000000 in
theorem shares_long {w : World} (tab : Tab w) (A B C : Option Addr) (n m k ca cb cc : Nat) (h : 32 < n ∨ 32 < m ∨ 32 < k) :
    Calls Tryd.prog 12 #[.slice A n ca, .slice B m cb, .slice C k cc] w fun e w' => e = .returned (.bool true) ∧ Below w.heap.size w w' := by
  have KN := Lib.hid (known_any w tab)
  obtain ⟨b1, h1⟩ : ∃ b, decide ((32 : Int) < (n : Int)) = b := ⟨_, rfl⟩
  obtain ⟨b2, h2⟩ : ∃ b, decide ((32 : Int) < (m : Int)) = b := ⟨_, rfl⟩
  obtain ⟨b3, h3⟩ : ∃ b, decide ((32 : Int) < (k : Int)) = b := ⟨_, rfl⟩
  have H : (b1 || (b2 || b3)) = true := by
    rw [← h1, ← h2, ← h3]; simp; omega
  clear h tab
  cases b1 <;> cases b2 <;> cases b3 <;> first
    | (exact absurd H (by decide))
    | (clear H
       go_enter Tryd.func12, Tryd.ntmps12
       go_wp2_with fail
       (with_reducible refine KN.out.mono ?_)
       rintro e w1 ⟨rfl, hb1⟩
       go_wp2_with fail
       go_ret
       exact ⟨rfl, hb1⟩)
/-- What the walk of FieldShares keeps of its arguments. -/
structure Sh3 (W0 w : World) (A B C : Option Addr) (n m k : Nat) (a b c : List Nat) : Prop where
  sa : Sl w A n (bl a)
  sb : Sl w B m (bl b)
  sc : Sl w C k (bl c)
  tab : Tab w
  tl : TabL w
  bel : Below W0.heap.size W0 w
theorem Sh3.keep {W0 w w' : World} {A B C : Option Addr} {n m k : Nat} {a b c : List Nat} (s : Sh3 W0 w A B C n m k a b c) (h : Below w.heap.size w w') : Sh3 W0 w' A B C n m k a b c :=
  ⟨s.sa.below h, s.sb.below h, s.sc.below h, s.tab.below h, s.tl.below h, bel_n3 s.bel h⟩
set_option maxHeartbeats 4000000 in
theorem shares_walk {w : World} (tab : Tab w ∧ TabL w) (A : Option Addr) (n ca : Nat) (a : List Nat) (hla : ∀ x ∈ a, x < 256) (ha : Sl w A n (bl a)) (B : Option Addr) (m cb : Nat) (b : List Nat) (hlb : ∀ x ∈ b, x < 256) (hb : Sl w B m (bl b)) (C : Option Addr) (k cc : Nat) (c : List Nat) (hlc : ∀ x ∈ c, x < 256) (hc : Sl w C k (bl c)) (hn : n ≤ 32) (hm : m ≤ 32) (hk : k ≤ 32) :
    Calls Tryd.prog 12 #[.slice A n ca, .slice B m cb, .slice C k cc] w fun e w' => e = .returned (.bool true) ∧ Below w.heap.size w w' := by
  have T := Lib.hid (show Sh3 w w A B C n m k a b c from ⟨ha, hb, hc, tab.1, tab.2, Below.refl _ _⟩)
  have HA := Lib.hid hla
  have HB := Lib.hid hlb
  have HC := Lib.hid hlc
  have HN := Lib.hid hn
  have HM := Lib.hid hm
  have HK := Lib.hid hk
  have t0 : decide ((32 : Int) < (n : Int)) = false := by simp; omega
  have t1 : decide ((32 : Int) < (m : Int)) = false := by simp; omega
  have t2 : decide ((32 : Int) < (k : Int)) = false := by simp; omega
  clear tab ha hb hc hla hlb hlc hn hm hk
  go_enter Tryd.func12, Tryd.ntmps12
  go_wp2_with fail
  have a1 := (Below.refl w.heap.size w).alloc (Nat.le_refl _) (.cells #[.int .u8 1] 5)
  have T1 := Lib.hid (T.out.keep a1)
  have O1 := Lib.hid (show Sl (w.alloc (.cells #[.int .u8 1] 5)) (some ⟨w.heap.size, 0, none⟩) 1 (bl [1]) from bl_sl (l := [1]) (Bl.new_ w 5 #[.int .u8 1]) rfl)
  have X1 := Lib.hid (times_s B (some ⟨w.heap.size, 0, none⟩) C m 1 k cb 1 cc b [1] c _ rfl _ T1.out.tl HM.out (by decide) HK.out HB.out one_lt HC.out T1.out.sb O1.out T1.out.sc)
  clear a1
  (with_reducible refine X1.out.mono ?_)
  rintro e w2 ⟨A2, rfl, s2, hb2⟩
  have T2 := Lib.hid (T1.out.keep hb2)
  have X2 := Lib.hid (times_s A A2 none n 32 0 ca 32 0 a _ [] _ rfl _ T2.out.tl HN.out (by decide) (by decide) HA.out (by_lt _ _) nil_lt T2.out.sa s2 (Sl.nil_ _ _))
  clear s2 hb2 X1 O1 T1 T
  go_wp2_with fail
  (with_reducible refine X2.out.mono ?_)
  rintro e w3 ⟨A3, rfl, s3, hb3⟩
  have T3 := Lib.hid (T2.out.keep hb3)
  have S3 := Lib.hid s3
  have X3 := Lib.hid (times_s A C none n k 0 ca cc 0 a c [] _ rfl _ T3.out.tl HN.out HK.out (by decide) HA.out HC.out nil_lt T3.out.sa T3.out.sc (Sl.nil_ _ _))
  clear s3 hb3 X2 T2
  go_wp2_with fail
  (with_reducible refine X3.out.mono ?_)
  rintro e w4 ⟨A4, rfl, s4, hb4⟩
  have T4 := Lib.hid (T3.out.keep hb4)
  have S4 := Lib.hid (S3.out.below hb4)
  have X4 := Lib.hid (times_s A B A4 n m 32 ca cb 32 a b _ _ rfl _ T4.out.tl HN.out HM.out (by decide) HA.out HB.out (by_lt _ _) T4.out.sa T4.out.sb s4)
  clear s4 hb4 X3 T3 S3
  go_wp2_with fail
  (with_reducible refine X4.out.mono ?_)
  rintro e w5 ⟨A5, rfl, s5, hb5⟩
  have T5 := Lib.hid (T4.out.keep hb5)
  have S5 := Lib.hid (S4.out.below hb5)
  have SB := samebytes_any A3 A5 32 32 32 32 _ _ w5 (by_lt _ _) (by_lt _ _) S5.out s5
  have hq : ((by_ ((le a * le (by_ ((le b * le [1] + le c) % Lq) 32) + le []) % Lq) 32) == (by_ ((le a * le b + le (by_ ((le a * le c + le []) % Lq) 32)) % Lq) 32)) = true := by
    rw [le_one, le_nil, le_by32 (Nat.mod_lt _ Lq_pos), le_by32 (Nat.mod_lt _ Lq_pos), share_eq, beq_self_eq_true]
  rw [hq] at SB
  have SB := Lib.hid SB
  clear hq s5 hb5 X4 T4 S4
  go_wp2_with fail
  (with_reducible refine SB.out.mono ?_)
  rintro e w6 ⟨rfl, rfl⟩
  have SC := Scalar_any A3 32 32 _ w5 T5.out.tl (by decide) (by_lt _ _) S5.out
  rw [sc_ok] at SC
  have SC := Lib.hid SC
  clear SB
  go_wp2_with fail
  (with_reducible refine SC.out.mono ?_)
  rintro e w7 ⟨rfl, hb7⟩
  have T7 := Lib.hid (T5.out.keep hb7)
  clear hb7 SC T5 S5
  go_wp2_with fail
  (with_reducible refine (known_any _ T7.out.tab).mono ?_)
  rintro e w8 ⟨rfl, hb8⟩
  have W8 := Lib.hid (bel_n3 T7.out.bel hb8)
  clear hb8
  go_wp2_with fail
  go_ret
  exact ⟨rfl, W8.out⟩
theorem walk_fieldShares {w : World} (tab : Tab w ∧ TabL w) (A : Option Addr) (n ca : Nat) (a : List Nat) (ha : BL w A n ca a) (B : Option Addr) (m cb : Nat) (b : List Nat) (hb : BL w B m cb b) (C : Option Addr) (k cc : Nat) (c : List Nat) (hc : BL w C k cc c) :
    Calls Tryd.prog 12 #[.slice A n ca, .slice B m cb, .slice C k cc] w fun e w' => e = .returned (.bool true) ∧ Below w.heap.size w w' := by
  by_cases h : 32 < n ∨ 32 < m ∨ 32 < k
  · exact shares_long tab.1 A B C n m k ca cb cc h
  · exact shares_walk tab A n ca a ha.2.2.1 ha.1 B m cb b hb.2.2.1 hb.1 C k cc c hc.2.2.1 hc.1 (by omega) (by omega) (by omega)
end Go.Proofs.YteechlkccmcpfaaDoor.Fd
