/-
  The library's symMergeCmpFunc at numbers: two runs are merged.
-/
import Derived.Test.YtdiihpnfeeediaaSoMa
import Derived.Test.YtdiihpnfeeediaaSoMb
namespace Go.Proofs.Ytdiihpnfeeediaa.So
open Go.RowKit Go.Sort
variable {α : Type} [Inhabited α] {v : α → Nat} {w0 w : World} {blk : Nat} {d0 d : Array α} {T : α → α → Prop} {cf : α → α → Int} {B : Nat}
set_option linter.unusedVariables false

/-- Where the search in the middle begins and ends. -/
structure Rng (a m b mid s0 r0 : Nat) : Prop where
  l1 : a ≤ s0
  l2 : s0 ≤ r0
  l3 : r0 ≤ m
  l4 : r0 ≤ mid
  l5 : mid + m - s0 ≤ b
  l6 : m ≤ mid + m - r0
  l7 : mid + m - s0 < b → s0 = a
  l8 : r0 < m → r0 = mid
theorem Rng.one {a m b mid : Nat} (h : mid = (a + b) / 2) (h1 : mid < m) (h2 : m < b) (h3 : a < m) : Rng a m b mid (mid + m - b) mid := ⟨by omega, by omega, by omega, by omega, by omega, by omega, by omega, by omega⟩
theorem Rng.two {a m b mid : Nat} (h : mid = (a + b) / 2) (h1 : m ≤ mid) (h2 : m < b) (h3 : a < m) : Rng a m b mid a m := ⟨by omega, by omega, by omega, by omega, by omega, by omega, by omega, by omega⟩
/-- What the search in the middle holds. -/
structure SrC (T : α → α → Prop) (d : Array α) (n s0 r0 s r : Nat) : Prop where
  low : ∀ c, s0 ≤ c → c < s → T d[c]! d[n - 1 - c]!
  high : ∀ c, r ≤ c → c < r0 → T d[n - 1 - c]! d[c]!
theorem SrC.lo (O : Ord (fun x y => decide (cf x y < 0)) v T) {a m b mid s0 r0 s r c : Nat} (G : Rng a m b mid s0 r0) (S : SrC T d (mid + m) s0 r0 s r) (h1 : Run T d a m) (h2 : Run T d m b) (ap : Apart v d a m b) (hc : s0 ≤ c) (hc2 : c < r0) (hl : ¬ cf d[mid + m - 1 - c]! d[c]! < 0) : SrC T d (mid + m) s0 r0 (c + 1) r :=
  ⟨fun k a1 a2 => by
    have g1 := G.l1; have g2 := G.l2; have g3 := G.l3; have g4 := G.l4; have g5 := G.l5; have g6 := G.l6
    have t := O.ge _ _ (ap c (mid + m - 1 - c) (by omega) (by omega) (by omega) (by omega)) (decide_eq_false hl)
    by_cases e : k = c
    · rw [e]; exact t
    · exact O.trans _ _ _ (O.trans _ _ _ (h1 k c (by omega) (by omega) (by omega)) t) (h2 _ _ (by omega) (by omega) (by omega)), S.high⟩
theorem SrC.hi (O : Ord (fun x y => decide (cf x y < 0)) v T) {a m b mid s0 r0 s r c : Nat} (G : Rng a m b mid s0 r0) (S : SrC T d (mid + m) s0 r0 s r) (h1 : Run T d a m) (h2 : Run T d m b) (ap : Apart v d a m b) (hc : s0 ≤ c) (hc2 : c < r0) (hl : cf d[mid + m - 1 - c]! d[c]! < 0) : SrC T d (mid + m) s0 r0 s c :=
  ⟨S.low, fun k a1 a2 => by
    have g1 := G.l1; have g2 := G.l2; have g3 := G.l3; have g4 := G.l4; have g5 := G.l5; have g6 := G.l6
    have t := O.less _ _ (ap c (mid + m - 1 - c) (by omega) (by omega) (by omega) (by omega)) (decide_eq_true hl)
    by_cases e : k = c
    · rw [e]; exact t
    · exact O.trans _ _ _ (O.trans _ _ _ (h2 _ _ (by omega) (by omega) (by omega)) t) (h1 c k (by omega) (by omega) (by omega))⟩
theorem SrC.found {a m b mid s0 r0 s : Nat} (hmid : mid = (a + b) / 2) (hab : a < b) (G : Rng a m b mid s0 r0) (S : SrC T d (mid + m) s0 r0 s s) (hs : s0 ≤ s) (hr : s ≤ r0) : Found T d a m b s (mid + m) := by
  have g1 := G.l1; have g2 := G.l2; have g3 := G.l3; have g4 := G.l4; have g5 := G.l5; have g6 := G.l6; have g7 := G.l7; have g8 := G.l8
  refine ⟨by omega, by omega, by omega, by omega, by omega, fun h1 h2 => ?_, fun h1 h2 => ?_, by omega, by omega, by omega⟩
  · have t := S.low (s - 1) (by omega) (by omega)
    rwa [show mid + m - 1 - (s - 1) = mid + m - s by omega] at t
  · have t := S.high s (Nat.le_refl _) (by omega)
    rwa [show mid + m - 1 - s = mid + m - s - 1 by omega] at t
/-- What a merge leaves. -/
def Merged (v : α → Nat) (w0 : World) (blk : Nat) (T : α → α → Prop) (d : Array α) (a b : Nat) (e : Ending) (w' : World) : Prop := e = .returned (.tuple #[]) ∧ ∃ d', SW (en v) w0 blk 0 d' w' ∧ Run T d' a b ∧ Mv a b d d'
set_option maxHeartbeats 4000000 in
set_option maxRecDepth 100000 in
theorem symMerge_mid (O : Ord (fun x y => decide (cf x y < 0)) v T) (H : CmpOk v w0 blk d0 B cf) (R : Row1 (en v) w0 blk 0 d0) (hs : d.size = d0.size) (S : SW (en v) w0 blk 0 d w) {a m b cap sz : Nat} (hsd : d.size = sz) (hab : a + 1 < m) (hmb : m + 1 < b) (hb : b ≤ sz) (hsz : sz < 4611686018427387904)
    (h1 : Run T d a m) (h2 : Run T d m b) (h3 : Apart v d a m b)
    (IH : ∀ (d : Array α) (w : World) (a' m' b' : Nat), b' - a' < b - a → d.size = sz → SW (en v) w0 blk 0 d w → a' < m' → m' < b' → b' ≤ sz → Run T d a' m' → Run T d m' b' → Apart v d a' m' b' → Calls Try.prog 26 #[.slice (some ⟨blk, 0, none⟩) sz cap, .int .i64 a', .int .i64 m', .int .i64 b', Fv B] w (Merged v w0 blk T d a' b')) :
    Calls Try.prog 26 #[.slice (some ⟨blk, 0, none⟩) sz cap, .int .i64 a, .int .i64 m, .int .i64 b, Fv B] w (Merged v w0 blk T d a b) := by
  have RT := Lib.hid (fun (a' m' b' : Nat) (w1 : World) (S1 : SW (en v) w0 blk 0 d w1) (e1 : a' < m') (e2 : m' < b') (e3 : b' ≤ sz) =>
    show Calls Try.prog 27 #[.slice (some ⟨blk, 0, none⟩) sz cap, .int .i64 a', .int .i64 m', .int .i64 b', Fv B] w1 fun e w' => e = .returned (.tuple #[]) ∧ ∃ d', SW (en v) w0 blk 0 d' w' ∧ Rot d d' a' m' b' from by
      rw [← hsd]; exact rotate_any R hs S1 e1 e2 (by omega) (by omega))
  have S0 := Lib.hid S
  have HH := Lib.hid H
  have HO := Lib.hid O
  have HR := Lib.hid R
  have H1 := Lib.hid h1
  have H2 := Lib.hid h2
  have H3 := Lib.hid h3
  have HIH := Lib.hid IH
  have HSD := Lib.hid hs
  have HSZ := Lib.hid hsd
  clear S H O R hs h1 h2 h3 hsd IH
  obtain ⟨mid, hmid⟩ : ∃ q, q = (a + b) / 2 := ⟨_, rfl⟩
  obtain ⟨ma, hma⟩ : ∃ q, q = m - a := ⟨_, rfl⟩
  obtain ⟨bm, hbm⟩ : ∃ q, q = b - m := ⟨_, rfl⟩
  have e0 : (m : Int) - (a : Int) = (ma : Int) := by omega
  have e1 : (b : Int) - (m : Int) = (bm : Int) := by omega
  have e2 : ((a : Int) + (b : Int)) / 2 = (mid : Int) := by omega
  have t0 : ((ma : Int) == 1) = false := beq_eq_false_iff_ne.2 (by omega)
  have t1 : ((bm : Int) == 1) = false := beq_eq_false_iff_ne.2 (by omega)
  have b0 : (a : Int) + (b : Int) < 9223372036854775807 := by omega
  have b1 : (mid : Int) + (m : Int) < 9223372036854775807 := by omega
  have HM := Lib.hid hmid
  clear hma hbm hmid
  go_enter Try.func26, Try.ntmps26
  by_cases hc : mid < m
  · have hc' : (mid : Int) < (m : Int) := by omega
    have GG := Lib.hid (Rng.one HM.out hc (by omega) (by omega) : Rng a m b mid (mid + m - b) mid)
    obtain ⟨s0, hs0⟩ : ∃ q, q = mid + m - b := ⟨_, rfl⟩
    rw [← hs0] at GG
    have f0 : (mid : Int) + (m : Int) - (b : Int) = (s0 : Int) := by have := HM.out; omega
    clear b0 hs0
    go_wp2_with fail
    go_loopg [20, 21] (b - a) (fun g1 vi vj wr => ∃ (s r : Nat), vi = .int .i64 s ∧ vj = .int .i64 r ∧ s0 ≤ s ∧ s ≤ r ∧ r ≤ mid ∧ r - s ≤ g1 ∧ Hid (SW (en v) w0 blk 0 d wr) ∧ Hid (SrC T d (mid + m) s0 mid s r))
    case atStart => exact ⟨s0, mid, rfl, rfl, Nat.le_refl _, by have := GG.out.l2; omega, Nat.le_refl _, by omega, S0, Lib.hid ⟨fun c h1 h2 => by omega, fun c h1 h2 => by omega⟩⟩
    case round =>
      clear S0
      obtain ⟨s, r, rfl, rfl, hs1, hsr, hr1, hg, SK, HS⟩ := hrel
      have g1 := GG.out.l1; have g2 := GG.out.l2; have g3 := GG.out.l3; have g4 := GG.out.l4; have g5 := GG.out.l5; have g6 := GG.out.l6; have g7 := GG.out.l7; have g8 := GG.out.l8
      by_cases hlt : s < r
      · have hltz : (s : Int) < (r : Int) := by omega
        obtain ⟨c, hc⟩ : ∃ k, k = (s + r) / 2 := ⟨_, rfl⟩
        have hc1 : s ≤ c := by omega
        have hc2 : c < r := by omega
        obtain ⟨q, hq⟩ : ∃ q, q = mid + m - 1 - c := ⟨_, rfl⟩
        obtain ⟨x, y, z, c1, c2, hz, hcc⟩ := ask_facts HH.out SK.out HR.out HSD.out q c (by have := HSZ.out; omega) (by have := HSZ.out; omega)
        have C := Lib.hid hcc
        have HZ := Lib.hid hz
        have b2 : (s : Int) + (r : Int) < 9223372036854775807 := by omega
        have q1 : (q : Int) < (sz : Int) := by omega
        have q2 : (c : Int) < (sz : Int) := by omega
        have x1 : ((s : Int) + (r : Int)) / 2 = (c : Int) := by omega
        have x2 : (mid : Int) + (m : Int) - 1 - (c : Int) = (q : Int) := by omega
        have x3 : IntKind.i64.wrap (q : Int) = (q : Int) := by rw [IntKind.wrap_i64]; omega
        have HQ := Lib.hid hq
        clear hz hcc hc hq g1 g2 g3 g4 g5 g6 g7 g8
        by_cases hl : z < 0
        · have hd : decide (z < 0) = true := decide_eq_true hl
          go_wp2_with fail
          go_quiet ((go_at_call 16; exact Calls.quiet_of (C.out _)))
          go_wp2_with fail
          go_roundg (c - s)
          case measure => omega
          case rel => exact ⟨s, c, rfl, rfl, hs1, hc1, by omega, by omega, Lib.hid (SW.drewN' SK.out _), Lib.hid (HS.out.hi HO.out GG.out H1.out H2.out H3.out (by omega) (by omega) (by have := HZ.out; rw [HQ.out] at this; omega))⟩
        · have hd : decide (z < 0) = false := decide_eq_false hl
          go_wp2_with fail
          go_quiet ((go_at_call 16; exact Calls.quiet_of (C.out _)))
          go_wp2_with fail
          go_roundg (r - (c + 1))
          case measure => omega
          case rel => exact ⟨c + 1, r, by go_num, rfl, by omega, by omega, hr1, by omega, Lib.hid (SW.drewN' SK.out _), Lib.hid (HS.out.lo HO.out GG.out H1.out H2.out H3.out (by omega) (by omega) (by have := HZ.out; rw [HQ.out] at this; omega))⟩
      · obtain rfl : s = r := by omega
        have hltz : ¬ (s : Int) < (s : Int) := by omega
        have FD := Lib.hid (HS.out.found HM.out (by omega) GG.out hs1 hr1)
        obtain ⟨en, hen⟩ : ∃ q, q = mid + m - s := ⟨_, rfl⟩
        have HEN := Lib.hid hen
        have HNM := Lib.hid (show mid + m - m = mid from by omega)
        have f1 := FD.out.as; have f2 := FD.out.sm; have f3 := FD.out.me; have f4 := FD.out.eb; have f5 := FD.out.sn; have f6 := FD.out.mid
        have x4 : (mid : Int) + (m : Int) - (s : Int) = (en : Int) := by omega
        have hm1 := HM.out
        have y1 : a ≤ s := by omega
        have y2 : s ≤ m := by omega
        have y3 : m ≤ en := by omega
        have y4 : en ≤ b := by omega
        have y5 : mid + m ≤ s + en := by omega
        have y5b : s + en ≤ mid + m := by omega
        have y6 : a ≤ mid := by omega
        have y7 : mid ≤ b := by omega
        have y8 : a < mid := by omega
        have y9 : mid < b := by omega
        clear hm1 hen g1 g2 g3 g4 g5 g6 g7 g8
        rcases (show (s < m ∧ m < en ∧ a < s ∧ en < b) ∨ (s < m ∧ m < en ∧ a < s ∧ ¬ en < b) ∨ (s < m ∧ m < en ∧ ¬ a < s ∧ en < b) ∨ (s < m ∧ m < en ∧ ¬ a < s ∧ ¬ en < b) ∨ (¬ s < m ∧ s < mid) ∨ (¬ s < m ∧ ¬ s < mid) ∨ (s < m ∧ ¬ m < en) by omega) with hh | hh | hh | hh | hh | hh | hh
        · have k0 : (s : Int) < (m : Int) := by omega
          have k1 : (m : Int) < (en : Int) := by omega
          have k2 : (a : Int) < (s : Int) := by omega
          have k3 : (s : Int) < (mid : Int) := by omega
          have k4 : (mid : Int) < (en : Int) := by omega
          have k5 : (en : Int) < (b : Int) := by omega
          clear f1 f2 f3 f4 f5 f6
          go_wp2_with fail
          (with_reducible refine (RT.out s m en _ SK.out (by omega) (by omega) (by omega)).mono ?_)
          rintro e w1 ⟨rfl, d1, S1', R1'⟩
          have S1 := Lib.hid S1'; have R1 := Lib.hid R1'; clear S1' R1'
          have HF := Lib.hid (FD.out.halves HO.out (by rw [← HEN.out]; exact R1.out) H1.out H2.out H3.out)
          have HV := HF; rw [HNM.out, ← HEN.out] at HV; clear HF
          have Z1 := Lib.hid (R1.out.1)
          go_wp2_with fail
          (with_reducible refine (HIH.out d1 _ a s mid (by omega) (by have := Z1.out; have := HSZ.out; omega) S1.out (by omega) (by omega) (by omega) HV.out.r1 HV.out.r2 HV.out.ap1).mono ?_)
          rintro e w2 ⟨rfl, d2, S2', R2', M2'⟩
          have S2 := Lib.hid S2'; have R2 := Lib.hid R2'; have M2 := Lib.hid M2'; clear S2' R2' M2'
          have LF := Lib.hid (HV.out.left (by omega) (by omega) (by omega) (by omega) M2.out R2.out)
          have Z2 := Lib.hid (M2.out.size)
          go_wp2_with fail
          (with_reducible refine (HIH.out d2 _ mid en b (by omega) (by have := Z1.out; have := Z2.out; have := HSZ.out; omega) S2.out (by omega) (by omega) (by omega) LF.out.1 LF.out.2.1 LF.out.2.2.1).mono ?_)
          rintro e w3 ⟨rfl, d3, S3', R3', M3'⟩
          have S3 := Lib.hid S3'; have R3 := Lib.hid R3'; have M3 := Lib.hid M3'; clear S3' R3' M3'
          have MM := Lib.hid (((((R1.out.mv (by omega) (by omega)).wide (by omega) (by omega) : Mv a b d d1)).trans (M2.out.wide (Nat.le_refl _) (by omega))).trans (M3.out.wide (by omega) (Nat.le_refl _)))
          have RR := Lib.hid (right_done R2.out LF.out.2.2.2 M3.out R3.out)
          go_wp2_with fail
          go_end0
          exact ⟨rfl, d3, S3.out, RR.out, MM.out⟩
        · have k0 : (s : Int) < (m : Int) := by omega
          have k1 : (m : Int) < (en : Int) := by omega
          have k2 : (a : Int) < (s : Int) := by omega
          have k3 : (s : Int) < (mid : Int) := by omega
          have k4 : (mid : Int) < (en : Int) := by omega
          have k5 : ¬ (en : Int) < (b : Int) := by omega
          clear f1 f2 f3 f4 f5 f6
          go_wp2_with fail
          (with_reducible refine (RT.out s m en _ SK.out (by omega) (by omega) (by omega)).mono ?_)
          rintro e w1 ⟨rfl, d1, S1', R1'⟩
          have S1 := Lib.hid S1'; have R1 := Lib.hid R1'; clear S1' R1'
          have HF := Lib.hid (FD.out.halves HO.out (by rw [← HEN.out]; exact R1.out) H1.out H2.out H3.out)
          have HV := HF; rw [HNM.out, ← HEN.out] at HV; clear HF
          have Z1 := Lib.hid (R1.out.1)
          go_wp2_with fail
          (with_reducible refine (HIH.out d1 _ a s mid (by omega) (by have := Z1.out; have := HSZ.out; omega) S1.out (by omega) (by omega) (by omega) HV.out.r1 HV.out.r2 HV.out.ap1).mono ?_)
          rintro e w2 ⟨rfl, d2, S2', R2', M2'⟩
          have S2 := Lib.hid S2'; have R2 := Lib.hid R2'; have M2 := Lib.hid M2'; clear S2' R2' M2'
          have LF := Lib.hid (HV.out.left (by omega) (by omega) (by omega) (by omega) M2.out R2.out)
          have Z2 := Lib.hid (M2.out.size)
          obtain ⟨d3, hd3⟩ : ∃ x, x = d2 := ⟨_, rfl⟩
          have M3 : Hid (Mv mid b d2 d3) := by rw [hd3]; exact Lib.hid (Mv.refl _ _ _)
          have R3 : Hid (Run T d3 mid b) := by rw [hd3]; exact Lib.hid (LF.out.1.sub (Nat.le_refl _) (by omega))
          have S3 := S2; rw [← hd3] at S3; clear hd3
          have MM := Lib.hid (((((R1.out.mv (by omega) (by omega)).wide (by omega) (by omega) : Mv a b d d1)).trans (M2.out.wide (Nat.le_refl _) (by omega))).trans (M3.out.wide (by omega) (Nat.le_refl _)))
          have RR := Lib.hid (right_done R2.out LF.out.2.2.2 M3.out R3.out)
          go_wp2_with fail
          go_end0
          exact ⟨rfl, d3, S3.out, RR.out, MM.out⟩
        · have k0 : (s : Int) < (m : Int) := by omega
          have k1 : (m : Int) < (en : Int) := by omega
          have k2 : ¬ (a : Int) < (s : Int) := by omega
          have k3 : (mid : Int) < (en : Int) := by omega
          have k4 : (en : Int) < (b : Int) := by omega
          clear f1 f2 f3 f4 f5 f6
          go_wp2_with fail
          (with_reducible refine (RT.out s m en _ SK.out (by omega) (by omega) (by omega)).mono ?_)
          rintro e w1 ⟨rfl, d1, S1', R1'⟩
          have S1 := Lib.hid S1'; have R1 := Lib.hid R1'; clear S1' R1'
          have HF := Lib.hid (FD.out.halves HO.out (by rw [← HEN.out]; exact R1.out) H1.out H2.out H3.out)
          have HV := HF; rw [HNM.out, ← HEN.out] at HV; clear HF
          have Z1 := Lib.hid (R1.out.1)
          obtain ⟨d2, hd2⟩ : ∃ x, x = d1 := ⟨_, rfl⟩
          have M2 : Hid (Mv a mid d1 d2) := by rw [hd2]; exact Lib.hid (Mv.refl _ _ _)
          have R2 : Hid (Run T d2 a mid) := by rw [hd2]; exact Lib.hid (HV.out.r2.sub (by omega) (Nat.le_refl _))
          have S2 := S1; rw [← hd2] at S2; clear hd2
          have LF := Lib.hid (HV.out.left (by omega) (by omega) (by omega) (by omega) M2.out R2.out)
          have Z2 := Lib.hid (M2.out.size)
          go_wp2_with fail
          (with_reducible refine (HIH.out d2 _ mid en b (by omega) (by have := Z1.out; have := Z2.out; have := HSZ.out; omega) S2.out (by omega) (by omega) (by omega) LF.out.1 LF.out.2.1 LF.out.2.2.1).mono ?_)
          rintro e w3 ⟨rfl, d3, S3', R3', M3'⟩
          have S3 := Lib.hid S3'; have R3 := Lib.hid R3'; have M3 := Lib.hid M3'; clear S3' R3' M3'
          have MM := Lib.hid (((((R1.out.mv (by omega) (by omega)).wide (by omega) (by omega) : Mv a b d d1)).trans (M2.out.wide (Nat.le_refl _) (by omega))).trans (M3.out.wide (by omega) (Nat.le_refl _)))
          have RR := Lib.hid (right_done R2.out LF.out.2.2.2 M3.out R3.out)
          go_wp2_with fail
          go_end0
          exact ⟨rfl, d3, S3.out, RR.out, MM.out⟩
        · have k0 : (s : Int) < (m : Int) := by omega
          have k1 : (m : Int) < (en : Int) := by omega
          have k2 : ¬ (a : Int) < (s : Int) := by omega
          have k3 : (mid : Int) < (en : Int) := by omega
          have k4 : ¬ (en : Int) < (b : Int) := by omega
          clear f1 f2 f3 f4 f5 f6
          go_wp2_with fail
          (with_reducible refine (RT.out s m en _ SK.out (by omega) (by omega) (by omega)).mono ?_)
          rintro e w1 ⟨rfl, d1, S1', R1'⟩
          have S1 := Lib.hid S1'; have R1 := Lib.hid R1'; clear S1' R1'
          have HF := Lib.hid (FD.out.halves HO.out (by rw [← HEN.out]; exact R1.out) H1.out H2.out H3.out)
          have HV := HF; rw [HNM.out, ← HEN.out] at HV; clear HF
          have Z1 := Lib.hid (R1.out.1)
          obtain ⟨d2, hd2⟩ : ∃ x, x = d1 := ⟨_, rfl⟩
          have M2 : Hid (Mv a mid d1 d2) := by rw [hd2]; exact Lib.hid (Mv.refl _ _ _)
          have R2 : Hid (Run T d2 a mid) := by rw [hd2]; exact Lib.hid (HV.out.r2.sub (by omega) (Nat.le_refl _))
          have S2 := S1; rw [← hd2] at S2; clear hd2
          have LF := Lib.hid (HV.out.left (by omega) (by omega) (by omega) (by omega) M2.out R2.out)
          have Z2 := Lib.hid (M2.out.size)
          obtain ⟨d3, hd3⟩ : ∃ x, x = d2 := ⟨_, rfl⟩
          have M3 : Hid (Mv mid b d2 d3) := by rw [hd3]; exact Lib.hid (Mv.refl _ _ _)
          have R3 : Hid (Run T d3 mid b) := by rw [hd3]; exact Lib.hid (LF.out.1.sub (Nat.le_refl _) (by omega))
          have S3 := S2; rw [← hd3] at S3; clear hd3
          have MM := Lib.hid (((((R1.out.mv (by omega) (by omega)).wide (by omega) (by omega) : Mv a b d d1)).trans (M2.out.wide (Nat.le_refl _) (by omega))).trans (M3.out.wide (by omega) (Nat.le_refl _)))
          have RR := Lib.hid (right_done R2.out LF.out.2.2.2 M3.out R3.out)
          go_wp2_with fail
          go_end0
          exact ⟨rfl, d3, S3.out, RR.out, MM.out⟩
        · have k0 : ¬ (s : Int) < (m : Int) := by omega
          have k1 : (a : Int) < (s : Int) := by omega
          have k2 : (s : Int) < (mid : Int) := by omega
          have k3 : ¬ (mid : Int) < (en : Int) := by omega
          clear f1 f2 f3 f4 f5 f6
          obtain ⟨d1, hd1⟩ : ∃ x, x = d := ⟨_, rfl⟩
          have R1 : Hid (Rot d d1 s m en) := by rw [hd1]; exact Lib.hid (Rot.refl d s m en (by omega) (by omega) (by omega))
          have S1 := SK; rw [← hd1] at S1; clear hd1
          have HF := Lib.hid (FD.out.halves HO.out (by rw [← HEN.out]; exact R1.out) H1.out H2.out H3.out)
          have HV := HF; rw [HNM.out, ← HEN.out] at HV; clear HF
          have Z1 := Lib.hid (R1.out.1)
          go_wp2_with fail
          (with_reducible refine (HIH.out d1 _ a s mid (by omega) (by have := Z1.out; have := HSZ.out; omega) S1.out (by omega) (by omega) (by omega) HV.out.r1 HV.out.r2 HV.out.ap1).mono ?_)
          rintro e w2 ⟨rfl, d2, S2', R2', M2'⟩
          have S2 := Lib.hid S2'; have R2 := Lib.hid R2'; have M2 := Lib.hid M2'; clear S2' R2' M2'
          have LF := Lib.hid (HV.out.left (by omega) (by omega) (by omega) (by omega) M2.out R2.out)
          have Z2 := Lib.hid (M2.out.size)
          obtain ⟨d3, hd3⟩ : ∃ x, x = d2 := ⟨_, rfl⟩
          have M3 : Hid (Mv mid b d2 d3) := by rw [hd3]; exact Lib.hid (Mv.refl _ _ _)
          have R3 : Hid (Run T d3 mid b) := by rw [hd3]; exact Lib.hid (LF.out.2.1.sub (by omega) (Nat.le_refl _))
          have S3 := S2; rw [← hd3] at S3; clear hd3
          have MM := Lib.hid (((((R1.out.mv (by omega) (by omega)).wide (by omega) (by omega) : Mv a b d d1)).trans (M2.out.wide (Nat.le_refl _) (by omega))).trans (M3.out.wide (by omega) (Nat.le_refl _)))
          have RR := Lib.hid (right_done R2.out LF.out.2.2.2 M3.out R3.out)
          clear y1 y2 y3 y4 y5 y5b y6 y7 y8 y9 hltz hc' f0
          clear e0 e1 e2 t0 t1 b1 x4 k0 k1 k2 hab hmb hs1 hr1 hg hh hlt hb hsz hsr
          have k9 : decide ((mid : Int) < (en : Int)) = false := decide_eq_false (by omega)
          have k8 : decide (mid < en) = false := decide_eq_false (by omega)
          clear k3
          go_wp2_with fail
          go_end0
          exact ⟨rfl, d3, S3.out, RR.out, MM.out⟩
        · have k0 : ¬ (s : Int) < (m : Int) := by omega
          have k1 : (a : Int) < (s : Int) := by omega
          have k2 : ¬ (s : Int) < (mid : Int) := by omega
          have k3 : ¬ (mid : Int) < (en : Int) := by omega
          clear f1 f2 f3 f4 f5 f6
          obtain ⟨d1, hd1⟩ : ∃ x, x = d := ⟨_, rfl⟩
          have R1 : Hid (Rot d d1 s m en) := by rw [hd1]; exact Lib.hid (Rot.refl d s m en (by omega) (by omega) (by omega))
          have S1 := SK; rw [← hd1] at S1; clear hd1
          have HF := Lib.hid (FD.out.halves HO.out (by rw [← HEN.out]; exact R1.out) H1.out H2.out H3.out)
          have HV := HF; rw [HNM.out, ← HEN.out] at HV; clear HF
          have Z1 := Lib.hid (R1.out.1)
          obtain ⟨d2, hd2⟩ : ∃ x, x = d1 := ⟨_, rfl⟩
          have M2 : Hid (Mv a mid d1 d2) := by rw [hd2]; exact Lib.hid (Mv.refl _ _ _)
          have R2 : Hid (Run T d2 a mid) := by rw [hd2]; exact Lib.hid (HV.out.r1.sub (Nat.le_refl _) (by omega))
          have S2 := S1; rw [← hd2] at S2; clear hd2
          have LF := Lib.hid (HV.out.left (by omega) (by omega) (by omega) (by omega) M2.out R2.out)
          have Z2 := Lib.hid (M2.out.size)
          obtain ⟨d3, hd3⟩ : ∃ x, x = d2 := ⟨_, rfl⟩
          have M3 : Hid (Mv mid b d2 d3) := by rw [hd3]; exact Lib.hid (Mv.refl _ _ _)
          have R3 : Hid (Run T d3 mid b) := by rw [hd3]; exact Lib.hid (LF.out.2.1.sub (by omega) (Nat.le_refl _))
          have S3 := S2; rw [← hd3] at S3; clear hd3
          have MM := Lib.hid (((((R1.out.mv (by omega) (by omega)).wide (by omega) (by omega) : Mv a b d d1)).trans (M2.out.wide (Nat.le_refl _) (by omega))).trans (M3.out.wide (by omega) (Nat.le_refl _)))
          have RR := Lib.hid (right_done R2.out LF.out.2.2.2 M3.out R3.out)
          go_wp2_with fail
          go_end0
          exact ⟨rfl, d3, S3.out, RR.out, MM.out⟩
        · have k0 : (s : Int) < (m : Int) := by omega
          have k1 : ¬ (m : Int) < (en : Int) := by omega
          have k2 : (a : Int) < (s : Int) := by omega
          have k3 : ¬ (s : Int) < (mid : Int) := by omega
          have k4 : (mid : Int) < (en : Int) := by omega
          have k5 : (en : Int) < (b : Int) := by omega
          clear f1 f2 f3 f4 f5 f6
          obtain ⟨d1, hd1⟩ : ∃ x, x = d := ⟨_, rfl⟩
          have R1 : Hid (Rot d d1 s m en) := by rw [hd1]; exact Lib.hid (Rot.refl d s m en (by omega) (by omega) (by omega))
          have S1 := SK; rw [← hd1] at S1; clear hd1
          have HF := Lib.hid (FD.out.halves HO.out (by rw [← HEN.out]; exact R1.out) H1.out H2.out H3.out)
          have HV := HF; rw [HNM.out, ← HEN.out] at HV; clear HF
          have Z1 := Lib.hid (R1.out.1)
          obtain ⟨d2, hd2⟩ : ∃ x, x = d1 := ⟨_, rfl⟩
          have M2 : Hid (Mv a mid d1 d2) := by rw [hd2]; exact Lib.hid (Mv.refl _ _ _)
          have R2 : Hid (Run T d2 a mid) := by rw [hd2]; exact Lib.hid (HV.out.r1.sub (Nat.le_refl _) (by omega))
          have S2 := S1; rw [← hd2] at S2; clear hd2
          have LF := Lib.hid (HV.out.left (by omega) (by omega) (by omega) (by omega) M2.out R2.out)
          have Z2 := Lib.hid (M2.out.size)
          go_wp2_with fail
          (with_reducible refine (HIH.out d2 _ mid en b (by omega) (by have := Z1.out; have := Z2.out; have := HSZ.out; omega) S2.out (by omega) (by omega) (by omega) LF.out.1 LF.out.2.1 LF.out.2.2.1).mono ?_)
          rintro e w3 ⟨rfl, d3, S3', R3', M3'⟩
          have S3 := Lib.hid S3'; have R3 := Lib.hid R3'; have M3 := Lib.hid M3'; clear S3' R3' M3'
          have MM := Lib.hid (((((R1.out.mv (by omega) (by omega)).wide (by omega) (by omega) : Mv a b d d1)).trans (M2.out.wide (Nat.le_refl _) (by omega))).trans (M3.out.wide (by omega) (Nat.le_refl _)))
          have RR := Lib.hid (right_done R2.out LF.out.2.2.2 M3.out R3.out)
          go_wp2_with fail
          go_end0
          exact ⟨rfl, d3, S3.out, RR.out, MM.out⟩
  · have hc' : ¬ (mid : Int) < (m : Int) := by omega
    have GG := Lib.hid (Rng.two HM.out (by omega) (by omega) (by omega) : Rng a m b mid a m)
    clear b0
    go_wp2_with fail
    go_loopg [20, 21] (b - a) (fun g1 vi vj wr => ∃ (s r : Nat), vi = .int .i64 s ∧ vj = .int .i64 r ∧ a ≤ s ∧ s ≤ r ∧ r ≤ m ∧ r - s ≤ g1 ∧ Hid (SW (en v) w0 blk 0 d wr) ∧ Hid (SrC T d (mid + m) a m s r))
    case atStart => exact ⟨a, m, rfl, rfl, Nat.le_refl _, by have := GG.out.l2; omega, Nat.le_refl _, by omega, S0, Lib.hid ⟨fun c h1 h2 => by omega, fun c h1 h2 => by omega⟩⟩
    case round =>
      clear S0
      obtain ⟨s, r, rfl, rfl, hs1, hsr, hr1, hg, SK, HS⟩ := hrel
      have g1 := GG.out.l1; have g2 := GG.out.l2; have g3 := GG.out.l3; have g4 := GG.out.l4; have g5 := GG.out.l5; have g6 := GG.out.l6; have g7 := GG.out.l7; have g8 := GG.out.l8
      by_cases hlt : s < r
      · have hltz : (s : Int) < (r : Int) := by omega
        obtain ⟨c, hc⟩ : ∃ k, k = (s + r) / 2 := ⟨_, rfl⟩
        have hc1 : s ≤ c := by omega
        have hc2 : c < r := by omega
        obtain ⟨q, hq⟩ : ∃ q, q = mid + m - 1 - c := ⟨_, rfl⟩
        obtain ⟨x, y, z, c1, c2, hz, hcc⟩ := ask_facts HH.out SK.out HR.out HSD.out q c (by have := HSZ.out; omega) (by have := HSZ.out; omega)
        have C := Lib.hid hcc
        have HZ := Lib.hid hz
        have b2 : (s : Int) + (r : Int) < 9223372036854775807 := by omega
        have q1 : (q : Int) < (sz : Int) := by omega
        have q2 : (c : Int) < (sz : Int) := by omega
        have x1 : ((s : Int) + (r : Int)) / 2 = (c : Int) := by omega
        have x2 : (mid : Int) + (m : Int) - 1 - (c : Int) = (q : Int) := by omega
        have x3 : IntKind.i64.wrap (q : Int) = (q : Int) := by rw [IntKind.wrap_i64]; omega
        have HQ := Lib.hid hq
        clear hz hcc hc hq g1 g2 g3 g4 g5 g6 g7 g8
        by_cases hl : z < 0
        · have hd : decide (z < 0) = true := decide_eq_true hl
          go_wp2_with fail
          go_quiet ((go_at_call 16; exact Calls.quiet_of (C.out _)))
          go_wp2_with fail
          go_roundg (c - s)
          case measure => omega
          case rel => exact ⟨s, c, rfl, rfl, hs1, hc1, by omega, by omega, Lib.hid (SW.drewN' SK.out _), Lib.hid (HS.out.hi HO.out GG.out H1.out H2.out H3.out (by omega) (by omega) (by have := HZ.out; rw [HQ.out] at this; omega))⟩
        · have hd : decide (z < 0) = false := decide_eq_false hl
          go_wp2_with fail
          go_quiet ((go_at_call 16; exact Calls.quiet_of (C.out _)))
          go_wp2_with fail
          go_roundg (r - (c + 1))
          case measure => omega
          case rel => exact ⟨c + 1, r, by go_num, rfl, by omega, by omega, hr1, by omega, Lib.hid (SW.drewN' SK.out _), Lib.hid (HS.out.lo HO.out GG.out H1.out H2.out H3.out (by omega) (by omega) (by have := HZ.out; rw [HQ.out] at this; omega))⟩
      · obtain rfl : s = r := by omega
        have hltz : ¬ (s : Int) < (s : Int) := by omega
        have FD := Lib.hid (HS.out.found HM.out (by omega) GG.out hs1 hr1)
        obtain ⟨en, hen⟩ : ∃ q, q = mid + m - s := ⟨_, rfl⟩
        have HEN := Lib.hid hen
        have HNM := Lib.hid (show mid + m - m = mid from by omega)
        have f1 := FD.out.as; have f2 := FD.out.sm; have f3 := FD.out.me; have f4 := FD.out.eb; have f5 := FD.out.sn; have f6 := FD.out.mid
        have x4 : (mid : Int) + (m : Int) - (s : Int) = (en : Int) := by omega
        have hm1 := HM.out
        have y1 : a ≤ s := by omega
        have y2 : s ≤ m := by omega
        have y3 : m ≤ en := by omega
        have y4 : en ≤ b := by omega
        have y5 : mid + m ≤ s + en := by omega
        have y5b : s + en ≤ mid + m := by omega
        have y6 : a ≤ mid := by omega
        have y7 : mid ≤ b := by omega
        have y8 : a < mid := by omega
        have y9 : mid < b := by omega
        clear hm1 hen g1 g2 g3 g4 g5 g6 g7 g8
        rcases (show (s < m ∧ m < en ∧ a < s ∧ en < b) ∨ (s < m ∧ m < en ∧ a < s ∧ ¬ en < b) ∨ (s < m ∧ m < en ∧ ¬ a < s ∧ en < b) ∨ (s < m ∧ m < en ∧ ¬ a < s ∧ ¬ en < b) ∨ (¬ s < m ∧ s < mid) ∨ (¬ s < m ∧ ¬ s < mid) ∨ (s < m ∧ ¬ m < en) by omega) with hh | hh | hh | hh | hh | hh | hh
        · have k0 : (s : Int) < (m : Int) := by omega
          have k1 : (m : Int) < (en : Int) := by omega
          have k2 : (a : Int) < (s : Int) := by omega
          have k3 : (s : Int) < (mid : Int) := by omega
          have k4 : (mid : Int) < (en : Int) := by omega
          have k5 : (en : Int) < (b : Int) := by omega
          clear f1 f2 f3 f4 f5 f6
          go_wp2_with fail
          (with_reducible refine (RT.out s m en _ SK.out (by omega) (by omega) (by omega)).mono ?_)
          rintro e w1 ⟨rfl, d1, S1', R1'⟩
          have S1 := Lib.hid S1'; have R1 := Lib.hid R1'; clear S1' R1'
          have HF := Lib.hid (FD.out.halves HO.out (by rw [← HEN.out]; exact R1.out) H1.out H2.out H3.out)
          have HV := HF; rw [HNM.out, ← HEN.out] at HV; clear HF
          have Z1 := Lib.hid (R1.out.1)
          go_wp2_with fail
          (with_reducible refine (HIH.out d1 _ a s mid (by omega) (by have := Z1.out; have := HSZ.out; omega) S1.out (by omega) (by omega) (by omega) HV.out.r1 HV.out.r2 HV.out.ap1).mono ?_)
          rintro e w2 ⟨rfl, d2, S2', R2', M2'⟩
          have S2 := Lib.hid S2'; have R2 := Lib.hid R2'; have M2 := Lib.hid M2'; clear S2' R2' M2'
          have LF := Lib.hid (HV.out.left (by omega) (by omega) (by omega) (by omega) M2.out R2.out)
          have Z2 := Lib.hid (M2.out.size)
          go_wp2_with fail
          (with_reducible refine (HIH.out d2 _ mid en b (by omega) (by have := Z1.out; have := Z2.out; have := HSZ.out; omega) S2.out (by omega) (by omega) (by omega) LF.out.1 LF.out.2.1 LF.out.2.2.1).mono ?_)
          rintro e w3 ⟨rfl, d3, S3', R3', M3'⟩
          have S3 := Lib.hid S3'; have R3 := Lib.hid R3'; have M3 := Lib.hid M3'; clear S3' R3' M3'
          have MM := Lib.hid (((((R1.out.mv (by omega) (by omega)).wide (by omega) (by omega) : Mv a b d d1)).trans (M2.out.wide (Nat.le_refl _) (by omega))).trans (M3.out.wide (by omega) (Nat.le_refl _)))
          have RR := Lib.hid (right_done R2.out LF.out.2.2.2 M3.out R3.out)
          go_wp2_with fail
          go_end0
          exact ⟨rfl, d3, S3.out, RR.out, MM.out⟩
        · have k0 : (s : Int) < (m : Int) := by omega
          have k1 : (m : Int) < (en : Int) := by omega
          have k2 : (a : Int) < (s : Int) := by omega
          have k3 : (s : Int) < (mid : Int) := by omega
          have k4 : (mid : Int) < (en : Int) := by omega
          have k5 : ¬ (en : Int) < (b : Int) := by omega
          clear f1 f2 f3 f4 f5 f6
          go_wp2_with fail
          (with_reducible refine (RT.out s m en _ SK.out (by omega) (by omega) (by omega)).mono ?_)
          rintro e w1 ⟨rfl, d1, S1', R1'⟩
          have S1 := Lib.hid S1'; have R1 := Lib.hid R1'; clear S1' R1'
          have HF := Lib.hid (FD.out.halves HO.out (by rw [← HEN.out]; exact R1.out) H1.out H2.out H3.out)
          have HV := HF; rw [HNM.out, ← HEN.out] at HV; clear HF
          have Z1 := Lib.hid (R1.out.1)
          go_wp2_with fail
          (with_reducible refine (HIH.out d1 _ a s mid (by omega) (by have := Z1.out; have := HSZ.out; omega) S1.out (by omega) (by omega) (by omega) HV.out.r1 HV.out.r2 HV.out.ap1).mono ?_)
          rintro e w2 ⟨rfl, d2, S2', R2', M2'⟩
          have S2 := Lib.hid S2'; have R2 := Lib.hid R2'; have M2 := Lib.hid M2'; clear S2' R2' M2'
          have LF := Lib.hid (HV.out.left (by omega) (by omega) (by omega) (by omega) M2.out R2.out)
          have Z2 := Lib.hid (M2.out.size)
          obtain ⟨d3, hd3⟩ : ∃ x, x = d2 := ⟨_, rfl⟩
          have M3 : Hid (Mv mid b d2 d3) := by rw [hd3]; exact Lib.hid (Mv.refl _ _ _)
          have R3 : Hid (Run T d3 mid b) := by rw [hd3]; exact Lib.hid (LF.out.1.sub (Nat.le_refl _) (by omega))
          have S3 := S2; rw [← hd3] at S3; clear hd3
          have MM := Lib.hid (((((R1.out.mv (by omega) (by omega)).wide (by omega) (by omega) : Mv a b d d1)).trans (M2.out.wide (Nat.le_refl _) (by omega))).trans (M3.out.wide (by omega) (Nat.le_refl _)))
          have RR := Lib.hid (right_done R2.out LF.out.2.2.2 M3.out R3.out)
          go_wp2_with fail
          go_end0
          exact ⟨rfl, d3, S3.out, RR.out, MM.out⟩
        · have k0 : (s : Int) < (m : Int) := by omega
          have k1 : (m : Int) < (en : Int) := by omega
          have k2 : ¬ (a : Int) < (s : Int) := by omega
          have k3 : (mid : Int) < (en : Int) := by omega
          have k4 : (en : Int) < (b : Int) := by omega
          clear f1 f2 f3 f4 f5 f6
          go_wp2_with fail
          (with_reducible refine (RT.out s m en _ SK.out (by omega) (by omega) (by omega)).mono ?_)
          rintro e w1 ⟨rfl, d1, S1', R1'⟩
          have S1 := Lib.hid S1'; have R1 := Lib.hid R1'; clear S1' R1'
          have HF := Lib.hid (FD.out.halves HO.out (by rw [← HEN.out]; exact R1.out) H1.out H2.out H3.out)
          have HV := HF; rw [HNM.out, ← HEN.out] at HV; clear HF
          have Z1 := Lib.hid (R1.out.1)
          obtain ⟨d2, hd2⟩ : ∃ x, x = d1 := ⟨_, rfl⟩
          have M2 : Hid (Mv a mid d1 d2) := by rw [hd2]; exact Lib.hid (Mv.refl _ _ _)
          have R2 : Hid (Run T d2 a mid) := by rw [hd2]; exact Lib.hid (HV.out.r2.sub (by omega) (Nat.le_refl _))
          have S2 := S1; rw [← hd2] at S2; clear hd2
          have LF := Lib.hid (HV.out.left (by omega) (by omega) (by omega) (by omega) M2.out R2.out)
          have Z2 := Lib.hid (M2.out.size)
          go_wp2_with fail
          (with_reducible refine (HIH.out d2 _ mid en b (by omega) (by have := Z1.out; have := Z2.out; have := HSZ.out; omega) S2.out (by omega) (by omega) (by omega) LF.out.1 LF.out.2.1 LF.out.2.2.1).mono ?_)
          rintro e w3 ⟨rfl, d3, S3', R3', M3'⟩
          have S3 := Lib.hid S3'; have R3 := Lib.hid R3'; have M3 := Lib.hid M3'; clear S3' R3' M3'
          have MM := Lib.hid (((((R1.out.mv (by omega) (by omega)).wide (by omega) (by omega) : Mv a b d d1)).trans (M2.out.wide (Nat.le_refl _) (by omega))).trans (M3.out.wide (by omega) (Nat.le_refl _)))
          have RR := Lib.hid (right_done R2.out LF.out.2.2.2 M3.out R3.out)
          go_wp2_with fail
          go_end0
          exact ⟨rfl, d3, S3.out, RR.out, MM.out⟩
        · have k0 : (s : Int) < (m : Int) := by omega
          have k1 : (m : Int) < (en : Int) := by omega
          have k2 : ¬ (a : Int) < (s : Int) := by omega
          have k3 : (mid : Int) < (en : Int) := by omega
          have k4 : ¬ (en : Int) < (b : Int) := by omega
          clear f1 f2 f3 f4 f5 f6
          go_wp2_with fail
          (with_reducible refine (RT.out s m en _ SK.out (by omega) (by omega) (by omega)).mono ?_)
          rintro e w1 ⟨rfl, d1, S1', R1'⟩
          have S1 := Lib.hid S1'; have R1 := Lib.hid R1'; clear S1' R1'
          have HF := Lib.hid (FD.out.halves HO.out (by rw [← HEN.out]; exact R1.out) H1.out H2.out H3.out)
          have HV := HF; rw [HNM.out, ← HEN.out] at HV; clear HF
          have Z1 := Lib.hid (R1.out.1)
          obtain ⟨d2, hd2⟩ : ∃ x, x = d1 := ⟨_, rfl⟩
          have M2 : Hid (Mv a mid d1 d2) := by rw [hd2]; exact Lib.hid (Mv.refl _ _ _)
          have R2 : Hid (Run T d2 a mid) := by rw [hd2]; exact Lib.hid (HV.out.r2.sub (by omega) (Nat.le_refl _))
          have S2 := S1; rw [← hd2] at S2; clear hd2
          have LF := Lib.hid (HV.out.left (by omega) (by omega) (by omega) (by omega) M2.out R2.out)
          have Z2 := Lib.hid (M2.out.size)
          obtain ⟨d3, hd3⟩ : ∃ x, x = d2 := ⟨_, rfl⟩
          have M3 : Hid (Mv mid b d2 d3) := by rw [hd3]; exact Lib.hid (Mv.refl _ _ _)
          have R3 : Hid (Run T d3 mid b) := by rw [hd3]; exact Lib.hid (LF.out.1.sub (Nat.le_refl _) (by omega))
          have S3 := S2; rw [← hd3] at S3; clear hd3
          have MM := Lib.hid (((((R1.out.mv (by omega) (by omega)).wide (by omega) (by omega) : Mv a b d d1)).trans (M2.out.wide (Nat.le_refl _) (by omega))).trans (M3.out.wide (by omega) (Nat.le_refl _)))
          have RR := Lib.hid (right_done R2.out LF.out.2.2.2 M3.out R3.out)
          go_wp2_with fail
          go_end0
          exact ⟨rfl, d3, S3.out, RR.out, MM.out⟩
        · have k0 : ¬ (s : Int) < (m : Int) := by omega
          have k1 : (a : Int) < (s : Int) := by omega
          have k2 : (s : Int) < (mid : Int) := by omega
          have k3 : ¬ (mid : Int) < (en : Int) := by omega
          clear f1 f2 f3 f4 f5 f6
          obtain ⟨d1, hd1⟩ : ∃ x, x = d := ⟨_, rfl⟩
          have R1 : Hid (Rot d d1 s m en) := by rw [hd1]; exact Lib.hid (Rot.refl d s m en (by omega) (by omega) (by omega))
          have S1 := SK; rw [← hd1] at S1; clear hd1
          have HF := Lib.hid (FD.out.halves HO.out (by rw [← HEN.out]; exact R1.out) H1.out H2.out H3.out)
          have HV := HF; rw [HNM.out, ← HEN.out] at HV; clear HF
          have Z1 := Lib.hid (R1.out.1)
          go_wp2_with fail
          (with_reducible refine (HIH.out d1 _ a s mid (by omega) (by have := Z1.out; have := HSZ.out; omega) S1.out (by omega) (by omega) (by omega) HV.out.r1 HV.out.r2 HV.out.ap1).mono ?_)
          rintro e w2 ⟨rfl, d2, S2', R2', M2'⟩
          have S2 := Lib.hid S2'; have R2 := Lib.hid R2'; have M2 := Lib.hid M2'; clear S2' R2' M2'
          have LF := Lib.hid (HV.out.left (by omega) (by omega) (by omega) (by omega) M2.out R2.out)
          have Z2 := Lib.hid (M2.out.size)
          obtain ⟨d3, hd3⟩ : ∃ x, x = d2 := ⟨_, rfl⟩
          have M3 : Hid (Mv mid b d2 d3) := by rw [hd3]; exact Lib.hid (Mv.refl _ _ _)
          have R3 : Hid (Run T d3 mid b) := by rw [hd3]; exact Lib.hid (LF.out.2.1.sub (by omega) (Nat.le_refl _))
          have S3 := S2; rw [← hd3] at S3; clear hd3
          have MM := Lib.hid (((((R1.out.mv (by omega) (by omega)).wide (by omega) (by omega) : Mv a b d d1)).trans (M2.out.wide (Nat.le_refl _) (by omega))).trans (M3.out.wide (by omega) (Nat.le_refl _)))
          have RR := Lib.hid (right_done R2.out LF.out.2.2.2 M3.out R3.out)
          clear y1 y2 y3 y4 y5 y5b y6 y7 y8 y9 hltz hc'
          clear e0 e1 e2 t0 t1 b1 x4 k0 k1 k2 hab hmb hs1 hr1 hg hh hlt hb hsz hsr
          have k9 : decide ((mid : Int) < (en : Int)) = false := decide_eq_false (by omega)
          have k8 : decide (mid < en) = false := decide_eq_false (by omega)
          clear k3
          go_wp2_with fail
          go_end0
          exact ⟨rfl, d3, S3.out, RR.out, MM.out⟩
        · have k0 : ¬ (s : Int) < (m : Int) := by omega
          have k1 : (a : Int) < (s : Int) := by omega
          have k2 : ¬ (s : Int) < (mid : Int) := by omega
          have k3 : ¬ (mid : Int) < (en : Int) := by omega
          clear f1 f2 f3 f4 f5 f6
          obtain ⟨d1, hd1⟩ : ∃ x, x = d := ⟨_, rfl⟩
          have R1 : Hid (Rot d d1 s m en) := by rw [hd1]; exact Lib.hid (Rot.refl d s m en (by omega) (by omega) (by omega))
          have S1 := SK; rw [← hd1] at S1; clear hd1
          have HF := Lib.hid (FD.out.halves HO.out (by rw [← HEN.out]; exact R1.out) H1.out H2.out H3.out)
          have HV := HF; rw [HNM.out, ← HEN.out] at HV; clear HF
          have Z1 := Lib.hid (R1.out.1)
          obtain ⟨d2, hd2⟩ : ∃ x, x = d1 := ⟨_, rfl⟩
          have M2 : Hid (Mv a mid d1 d2) := by rw [hd2]; exact Lib.hid (Mv.refl _ _ _)
          have R2 : Hid (Run T d2 a mid) := by rw [hd2]; exact Lib.hid (HV.out.r1.sub (Nat.le_refl _) (by omega))
          have S2 := S1; rw [← hd2] at S2; clear hd2
          have LF := Lib.hid (HV.out.left (by omega) (by omega) (by omega) (by omega) M2.out R2.out)
          have Z2 := Lib.hid (M2.out.size)
          obtain ⟨d3, hd3⟩ : ∃ x, x = d2 := ⟨_, rfl⟩
          have M3 : Hid (Mv mid b d2 d3) := by rw [hd3]; exact Lib.hid (Mv.refl _ _ _)
          have R3 : Hid (Run T d3 mid b) := by rw [hd3]; exact Lib.hid (LF.out.2.1.sub (by omega) (Nat.le_refl _))
          have S3 := S2; rw [← hd3] at S3; clear hd3
          have MM := Lib.hid (((((R1.out.mv (by omega) (by omega)).wide (by omega) (by omega) : Mv a b d d1)).trans (M2.out.wide (Nat.le_refl _) (by omega))).trans (M3.out.wide (by omega) (Nat.le_refl _)))
          have RR := Lib.hid (right_done R2.out LF.out.2.2.2 M3.out R3.out)
          go_wp2_with fail
          go_end0
          exact ⟨rfl, d3, S3.out, RR.out, MM.out⟩
        · have k0 : (s : Int) < (m : Int) := by omega
          have k1 : ¬ (m : Int) < (en : Int) := by omega
          have k2 : (a : Int) < (s : Int) := by omega
          have k3 : ¬ (s : Int) < (mid : Int) := by omega
          have k4 : (mid : Int) < (en : Int) := by omega
          have k5 : (en : Int) < (b : Int) := by omega
          clear f1 f2 f3 f4 f5 f6
          obtain ⟨d1, hd1⟩ : ∃ x, x = d := ⟨_, rfl⟩
          have R1 : Hid (Rot d d1 s m en) := by rw [hd1]; exact Lib.hid (Rot.refl d s m en (by omega) (by omega) (by omega))
          have S1 := SK; rw [← hd1] at S1; clear hd1
          have HF := Lib.hid (FD.out.halves HO.out (by rw [← HEN.out]; exact R1.out) H1.out H2.out H3.out)
          have HV := HF; rw [HNM.out, ← HEN.out] at HV; clear HF
          have Z1 := Lib.hid (R1.out.1)
          obtain ⟨d2, hd2⟩ : ∃ x, x = d1 := ⟨_, rfl⟩
          have M2 : Hid (Mv a mid d1 d2) := by rw [hd2]; exact Lib.hid (Mv.refl _ _ _)
          have R2 : Hid (Run T d2 a mid) := by rw [hd2]; exact Lib.hid (HV.out.r1.sub (Nat.le_refl _) (by omega))
          have S2 := S1; rw [← hd2] at S2; clear hd2
          have LF := Lib.hid (HV.out.left (by omega) (by omega) (by omega) (by omega) M2.out R2.out)
          have Z2 := Lib.hid (M2.out.size)
          go_wp2_with fail
          (with_reducible refine (HIH.out d2 _ mid en b (by omega) (by have := Z1.out; have := Z2.out; have := HSZ.out; omega) S2.out (by omega) (by omega) (by omega) LF.out.1 LF.out.2.1 LF.out.2.2.1).mono ?_)
          rintro e w3 ⟨rfl, d3, S3', R3', M3'⟩
          have S3 := Lib.hid S3'; have R3 := Lib.hid R3'; have M3 := Lib.hid M3'; clear S3' R3' M3'
          have MM := Lib.hid (((((R1.out.mv (by omega) (by omega)).wide (by omega) (by omega) : Mv a b d d1)).trans (M2.out.wide (Nat.le_refl _) (by omega))).trans (M3.out.wide (by omega) (Nat.le_refl _)))
          have RR := Lib.hid (right_done R2.out LF.out.2.2.2 M3.out R3.out)
          go_wp2_with fail
          go_end0
          exact ⟨rfl, d3, S3.out, RR.out, MM.out⟩
end Go.Proofs.Ytdiihpnfeeediaa.So
