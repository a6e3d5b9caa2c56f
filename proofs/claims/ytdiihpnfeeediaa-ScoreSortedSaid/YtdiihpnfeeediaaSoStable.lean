/-
  The library's stableCmpFunc and SortStableFunc at numbers: the whole row is a run, and nothing is lost.
-/
import Derived.Test.YtdiihpnfeeediaaSoMc
namespace Go.Proofs.Ytdiihpnfeeediaa.So
open Go.RowKit Go.Sort
variable {α : Type} [Inhabited α] {v : α → Nat} {w0 w : World} {blk : Nat} {d0 d : Array α} {T : α → α → Prop} {cf : α → α → Int} {B : Nat}
set_option linter.unusedVariables false

theorem Up.sub {a b n : Nat} (h : Up v d a n) (hb : b ≤ n) : Up v d a b := by
  unfold Up at h ⊢
  exact fun p q h1 h2 h3 => h p q h1 h2 (by omega)
theorem symMerge_any (O : Ord (fun x y => decide (cf x y < 0)) v T) (H : CmpOk v w0 blk d0 B cf) (R : Row1 (en v) w0 blk 0 d0) {sz cap : Nat} (h0 : d0.size = sz) (hsz : sz < 4611686018427387904) :
    ∀ (N : Nat) (d : Array α) (w : World) (a m b : Nat), b - a ≤ N → d.size = sz → SW (en v) w0 blk 0 d w → a < m → m < b → b ≤ sz → Run T d a m → Run T d m b → Apart v d a m b →
      Calls Try.prog 26 #[.slice (some ⟨blk, 0, none⟩) sz cap, .int .i64 a, .int .i64 m, .int .i64 b, Fv B] w (Merged v w0 blk T d a b) := by
  intro N
  induction N with
  | zero => intro d w a m b h1 h2 h3 h4 h5; omega
  | succ N ih =>
    intro d w a m b hN hd S ham hmb hb h1 h2 h3
    by_cases e1 : m = a + 1
    · subst e1
      exact symMerge_one O H R (by omega) S hd hmb hb hsz h2 h3 _ (by omega)
    · by_cases e2 : b = m + 1
      · subst e2
        exact symMerge_last O H R (by omega) S hd (by omega) (by omega) hsz h1 h3 _ (by omega)
      · exact symMerge_mid O H R (by omega) S hd (by omega) (by omega) hb hsz h1 h2 h3 fun d' w' a' m' b' q1 q2 q3 q4 q5 q6 q7 q8 q9 => ih d' w' a' m' b' (by omega) q2 q3 q4 q5 q6 q7 q8 q9
set_option maxHeartbeats 4000000 in
set_option maxRecDepth 100000 in
theorem stable_any (O : Ord (fun x y => decide (cf x y < 0)) v T) (H : CmpOk v w0 blk d0 B cf) (R : Row1 (en v) w0 blk 0 d0) (S : SW (en v) w0 blk 0 d0 w) {n cap : Nat} (hn : d0.size = n) (hsz : n < 1099511627776) (hu : Up v d0 0 n) :
    Calls Try.prog 22 #[.slice (some ⟨blk, 0, none⟩) n cap, .int .i64 n, Fv B] w (Merged v w0 blk T d0 0 n) := by
  have INS := Lib.hid (fun (d : Array α) (w : World) (a b : Nat) (i j : Int) (ei : i = a) (ej : j = b) (hd : d.size = n) (S : SW (en v) w0 blk 0 d w) (hab : a ≤ b) (hb : b ≤ n) (hu : Up v d a b) =>
    show Calls Try.prog 25 #[.slice (some ⟨blk, 0, none⟩) n cap, .int .i64 i, .int .i64 j, Fv B] w fun e w' => e = .returned (.tuple #[]) ∧ ∃ d', SW (en v) w0 blk 0 d' w' ∧ Run T d' a b ∧ Mv a b d d' from by
      rw [ei, ej, ← hd]; exact insertion_any O H R (by omega) S hab (by omega) (by omega) hu)
  have SYM := Lib.hid (fun (d : Array α) (w : World) (a m b : Nat) (i j k : Int) (ei : i = a) (ej : j = m) (ek : k = b) (hd : d.size = n) (S : SW (en v) w0 blk 0 d w) (h1 : a < m) (h2 : m < b) (hb : b ≤ n) (h3 : Run T d a m) (h4 : Run T d m b) (h5 : Apart v d a m b) =>
    show Calls Try.prog 26 #[.slice (some ⟨blk, 0, none⟩) n cap, .int .i64 i, .int .i64 j, .int .i64 k, Fv B] w (Merged v w0 blk T d a b) from by
      rw [ei, ej, ek]; exact symMerge_any O H R hn (by omega) (b - a) d w a m b (Nat.le_refl _) hd S h1 h2 hb h3 h4 h5)
  have S0 := Lib.hid S
  have HU := Lib.hid (Blk1.start (T := T) (s := 20) (by omega) hu)
  have HN := Lib.hid hn
  clear S O H R hu hn
  go_enter Try.func22, Try.ntmps22
  go_wp2_with fail
  go_loopg [7, 8] n (fun g1 va vb wr => ∃ (a : Nat) (d : Array α), va = .int .i64 a ∧ vb = .int .i64 (a + 20) ∧ a ≤ n ∧ n - a ≤ g1 ∧ Hid (d.size = n) ∧ Hid (SW (en v) w0 blk 0 d wr) ∧ Hid (Blk1 T v d 20 a n) ∧ Hid (Mv 0 n d0 d))
  case atStart => exact ⟨0, d0, rfl, by go_num, Nat.zero_le _, by omega, HN, S0, HU, Lib.hid (Mv.refl _ _ _)⟩
  case round =>
    clear S0 HU
    obtain ⟨a, d, rfl, rfl, han, hg, HD, SK, HB, HM⟩ := hrel
    by_cases hlt : a + 20 ≤ n
    · have hltz : (a : Int) + 20 ≤ (n : Int) := by omega
      go_wp2_with fail
      (with_reducible refine (INS.out d _ a (a + 20) _ _ rfl (by omega) HD.out SK.out (by omega) hlt (Up.sub HB.out.up hlt)).mono ?_)
      rintro e w1 ⟨rfl, d1, S1', R1', M1'⟩
      have S1 := Lib.hid S1'; have R1 := Lib.hid R1'; have M1 := Lib.hid M1'; clear S1' R1' M1'
      go_wp2_with fail
      go_roundg (n - (a + 20))
      case measure => omega
      case rel => exact ⟨a + 20, d1, by go_num, by go_num, hlt, Nat.le_refl _, Lib.hid (M1.out.size.trans HD.out), S1, Lib.hid (HB.out.step (by omega) hlt M1.out R1.out), Lib.hid (HM.out.trans (M1.out.wide (Nat.zero_le _) hlt))⟩
    · have hltz : ¬ (a : Int) + 20 ≤ (n : Int) := by omega
      go_wp2_with fail
      (with_reducible refine (INS.out d _ a n _ _ rfl rfl HD.out SK.out han (Nat.le_refl _) HB.out.up).mono ?_)
      rintro e w1 ⟨rfl, d1, S1', R1', M1'⟩
      have S1 := Lib.hid S1'
      have D1 := Lib.hid (M1'.size.trans HD.out)
      have B1 := Lib.hid (HB.out.last (by omega) han (by omega) M1' R1')
      have M1 := Lib.hid (HM.out.trans (M1'.wide (Nat.zero_le _) (Nat.le_refl _)))
      clear S1' R1' M1' SK HB HM HD hltz hlt hg
      go_wp2_with fail
      go_loopg [6, 7, 8, 9] n (fun g1 vs va vb vm wr => ∃ (s : Nat) (d : Array α), vs = .int .i64 s ∧ 0 < s ∧ s < 2199023255552 ∧ n - s ≤ g1 ∧ Hid (d.size = n) ∧ Hid (SW (en v) w0 blk 0 d wr) ∧ Hid (Blk T v d s n) ∧ Hid (Mv 0 n d0 d))
      case atStart => exact ⟨20, d1, by go_num, by omega, by omega, by omega, D1, S1, B1, M1⟩
      case round =>
        clear S1 B1 M1 D1
        obtain ⟨s, d2, rfl, hs0, hs1, hg, HD, SK, HB, HM⟩ := hrel
        by_cases hlt : s < n
        · have hltz : (s : Int) < (n : Int) := by omega
          go_wp2_with fail
          go_loopg [7, 8] n (fun g2 va vb wr => ∃ (a b : Nat) (d : Array α), va = .int .i64 a ∧ vb = .int .i64 b ∧ Hid (b = a + 2 * s) ∧ a ≤ n ∧ b < 8796093022208 ∧ n - a ≤ g2 ∧ Hid (d.size = n) ∧ Hid (SW (en v) w0 blk 0 d wr) ∧ Hid (Blk2 T v d s a n) ∧ Hid (Mv 0 n d0 d))
          case atStart => exact ⟨0, 2 * s, d2, rfl, by first | rfl | (congr 1; omega), Lib.hid (by omega), Nat.zero_le _, by omega, by omega, HD, SK, Lib.hid (Blk2.start hs0 HB.out), HM⟩
          case round =>
            clear SK HB HM HD
            obtain ⟨a, b, d, rfl, rfl, HAB, han, hb0, hg2, HD, SK, HB, HM⟩ := hrel
            have HAB' := HAB.out
            have l1 : a + s < b := by omega
            have l2 : b ≤ a + 2 * s := by omega
            clear HAB'
            by_cases hb : b ≤ n
            · have hbz : (b : Int) ≤ (n : Int) := by omega
              go_wp2_with fail
              (with_reducible refine (SYM.out d _ a (a + s) b _ _ _ rfl (by omega) rfl HD.out SK.out (by omega) l1 hb (HB.out.ready hb l1 l2).1 (HB.out.ready hb l1 l2).2.1 (HB.out.ready hb l1 l2).2.2).mono ?_)
              rintro e w1 ⟨rfl, d3, S1', R1', M1'⟩
              have S1 := Lib.hid S1'
              have D1 := Lib.hid (M1'.size.trans HD.out)
              have M1 := Lib.hid (HM.out.trans (M1'.wide (Nat.zero_le _) hb))
              have B1 := Lib.hid (HB.out.step hs0 (by have := HAB.out; omega) (by have := HAB.out; rw [← this]; exact M1') (by have := HAB.out; rw [← this]; exact R1'))
              have B2 := B1; rw [← HAB.out] at B2; clear B1
              clear S1' R1' M1' HB HM SK HD
              go_wp2_with fail
              go_roundg (n - b)
              case measure => omega
              case rel => exact ⟨b, b + 2 * s, d3, rfl, by first | rfl | (congr 1; omega), Lib.hid rfl, hb, by omega, Nat.le_refl _, D1, S1, B2, M1⟩
            · have hbz : ¬ (b : Int) ≤ (n : Int) := by omega
              obtain ⟨m, hm⟩ : ∃ q, q = a + s := ⟨_, rfl⟩
              have hmz : (a : Int) + (s : Int) = (m : Int) := by omega
              have HMM := Lib.hid hm
              by_cases hmn : m < n
              · have hmnz : (m : Int) < (n : Int) := by omega
                have ready := Lib.hid (HB.out.ready (b := n) (Nat.le_refl _) (by omega) (by omega))
                have HRD := ready; rw [← hm] at HRD; clear ready hm
                go_wp2_with fail
                (with_reducible refine (SYM.out d _ a m n _ _ _ rfl rfl rfl HD.out SK.out (by have := HMM.out; omega) hmn (Nat.le_refl _) HRD.out.1 HRD.out.2.1 HRD.out.2.2).mono ?_)
                rintro e w1 ⟨rfl, d3, S1', R1', M1'⟩
                have S1 := Lib.hid S1'
                have D1 := Lib.hid (M1'.size.trans HD.out)
                have M1 := Lib.hid (HM.out.trans (M1'.wide (Nat.zero_le _) (Nat.le_refl _)))
                have B1 := Lib.hid (HB.out.last hs0 han (by omega) M1' R1')
                clear S1' R1' M1' HB HM SK HD
                go_wp2_with fail
                go_roundg (n - 2 * s)
                case measure => omega
                case rel => exact ⟨2 * s, d3, by first | rfl | (congr 1; omega), by omega, by omega, Nat.le_refl _, D1, S1, B1, M1⟩
              · have hmnz : ¬ (m : Int) < (n : Int) := by omega
                have B1 := Lib.hid (HB.out.last hs0 han (by omega) (Mv.refl _ _ _) (HB.out.alone (by omega)))
                clear hm
                go_wp2_with fail
                go_roundg (n - 2 * s)
                case measure => omega
                case rel => exact ⟨2 * s, d, by first | rfl | (congr 1; omega), by omega, by omega, Nat.le_refl _, HD, SK, B1, HM⟩
        · have hltz : ¬ (s : Int) < (n : Int) := by omega
          go_wp2_with fail
          go_end0
          exact ⟨rfl, d2, SK.out, HB.out.whole (by omega), HM.out⟩
set_option maxRecDepth 100000 in
theorem sortStable_any (O : Ord (fun x y => decide (cf x y < 0)) v T) (H : CmpOk v w0 blk d0 B cf) (R : Row1 (en v) w0 blk 0 d0) (S : SW (en v) w0 blk 0 d0 w) {n cap : Nat} (hn : d0.size = n) (hsz : n < 1099511627776) (hu : Up v d0 0 n) :
    Calls Try.prog 15 #[.slice (some ⟨blk, 0, none⟩) n cap, Fv B] w (Merged v w0 blk T d0 0 n) := by
  have C := Lib.hid (stable_any (cap := cap) O H R S hn hsz hu)
  clear S O H R hu hn
  go_enter Try.func15, Try.ntmps15
  go_wp2_with fail
  (with_reducible refine C.out.mono ?_)
  rintro e w1 ⟨rfl, h⟩
  have HF := Lib.hid h
  clear h
  go_wp2_with fail
  go_end0
  exact ⟨rfl, HF.out⟩
end Go.Proofs.Ytdiihpnfeeediaa.So
