/-
  The library's symMergeCmpFunc at numbers, where the second part has one element.
-/
import Derived.Test.YtdiihpnfeeediaaSoIns
namespace Go.Proofs.Ytdiihpnfeeediaa.So
open Go.RowKit Go.Sort
variable {α : Type} [Inhabited α] {v : α → Nat} {w0 w : World} {blk : Nat} {d0 d : Array α} {T : α → α → Prop} {cf : α → α → Int} {B : Nat}
set_option linter.unusedVariables false

/-- What the search for the place of the last one holds. -/
structure SrB (T : α → α → Prop) (d : Array α) (a m i j : Nat) : Prop where
  low : ∀ h, a ≤ h → h < i → T d[h]! d[m]!
  high : ∀ h, j ≤ h → h < m → T d[m]! d[h]!
theorem SrB.lo (O : Ord (fun x y => decide (cf x y < 0)) v T) {a m i j h : Nat} (S : SrB T d a m i j) (hr : Run T d a m) (ap : Apart v d a m (m + 1)) (hh : a ≤ h) (hb : h < m) (hl : ¬ cf d[m]! d[h]! < 0) : SrB T d a m (h + 1) j :=
  ⟨fun k h1 h2 => by
    have t := O.ge _ _ (ap h m hh hb (Nat.le_refl _) (by omega)) (decide_eq_false hl)
    by_cases e : k = h
    · rw [e]; exact t
    · exact O.trans _ _ _ (hr k h (by omega) (by omega) hb) t, S.high⟩
theorem SrB.hi (O : Ord (fun x y => decide (cf x y < 0)) v T) {a m i j h : Nat} (S : SrB T d a m i j) (hr : Run T d a m) (ap : Apart v d a m (m + 1)) (hh : a ≤ h) (hb : h < m) (hl : cf d[m]! d[h]! < 0) : SrB T d a m i h :=
  ⟨S.low, fun k h1 h2 => by
    have t := O.less _ _ (ap h m hh hb (Nat.le_refl _) (by omega)) (decide_eq_true hl)
    by_cases e : k = h
    · rw [e]; exact t
    · exact O.trans _ _ _ t (hr h k (by omega) (by omega) h2)⟩
set_option maxHeartbeats 4000000 in
set_option maxRecDepth 100000 in
theorem symMerge_last (O : Ord (fun x y => decide (cf x y < 0)) v T) (H : CmpOk v w0 blk d0 B cf) (R : Row1 (en v) w0 blk 0 d0) (hs : d.size = d0.size) (S : SW (en v) w0 blk 0 d w) {a m cap sz : Nat} (hsd : d.size = sz) (hab : a + 1 < m) (hb : m < sz) (hsz : sz < 4611686018427387904)
    (h2 : Run T d a m) (h3 : Apart v d a m (m + 1)) (b : Int) (hbm : b = (m : Int) + 1) :
    Calls Try.prog 26 #[.slice (some ⟨blk, 0, none⟩) sz cap, .int .i64 a, .int .i64 m, .int .i64 b, Fv B] w fun e w' => e = .returned (.tuple #[]) ∧ ∃ d', SW (en v) w0 blk 0 d' w' ∧ Run T d' a (m + 1) ∧ Mv a (m + 1) d d' := by
  subst hbm
  have S0 := Lib.hid S
  have HH := Lib.hid H
  have HO := Lib.hid O
  have HR := Lib.hid R
  have H2 := Lib.hid h2
  have H3 := Lib.hid h3
  have HSD := Lib.hid hs
  have HSZ := Lib.hid hsd
  clear S H O R hs h2 h3 hsd
  go_enter Try.func26, Try.ntmps26
  obtain ⟨ma, hma⟩ : ∃ q, m = a + q := ⟨m - a, by omega⟩
  have e0 : (m : Int) - (a : Int) = (ma : Int) := by omega
  have t0 : ((ma : Int) == 1) = false := beq_eq_false_iff_ne.2 (by omega)
  have t1 : ((m : Int) + 1 - (m : Int)) = 1 := by omega
  clear hma
  go_wp2_with fail
  go_loopg [14, 15] (m - a) (fun g1 vi vj wr => ∃ (i j : Nat), vi = .int .i64 i ∧ vj = .int .i64 j ∧ a ≤ i ∧ i ≤ j ∧ j ≤ m ∧ j - i ≤ g1 ∧ Hid (SW (en v) w0 blk 0 d wr) ∧ Hid (SrB T d a m i j))
  case atStart => exact ⟨a, m, rfl, rfl, Nat.le_refl _, by omega, Nat.le_refl _, by omega, S0, Lib.hid ⟨fun h h1 h2 => by omega, fun h h1 h2 => by omega⟩⟩
  case round =>
    clear S0
    obtain ⟨i, j, rfl, rfl, hi, hij, hj, hg, SK, HS⟩ := hrel
    by_cases hlt : i < j
    · have hltz : (i : Int) < (j : Int) := by omega
      obtain ⟨k, hk⟩ : ∃ k, k = (i + j) / 2 := ⟨_, rfl⟩
      have hk1 : i ≤ k := by omega
      have hk2 : k < j := by omega
      have b0 : (i : Int) + (j : Int) < 9223372036854775807 := by omega
      obtain ⟨x, y, z, c1, c2, hz, hc⟩ := ask_facts HH.out SK.out HR.out HSD.out m k (by have := HSZ.out; omega) (by have := HSZ.out; omega)
      have C := Lib.hid hc
      have HZ := Lib.hid hz
      have q1 : (k : Int) < (sz : Int) := by omega
      have q2 : (m : Int) < (sz : Int) := by omega
      have e1 : ((i : Int) + (j : Int)) / 2 = (k : Int) := by omega
      have HK := Lib.hid hk
      clear hz hc hk
      by_cases hl : z < 0
      · have hd : decide (z < 0) = true := decide_eq_true hl
        go_wp2_with fail
        go_quiet ((go_at_call 16; exact Calls.quiet_of (C.out _)))
        go_wp2_with fail
        go_roundg (k - i)
        case measure => omega
        case rel => exact ⟨i, k, rfl, rfl, by omega, by omega, by omega, by omega, Lib.hid (SW.drewN' SK.out _), Lib.hid (HS.out.hi HO.out H2.out H3.out (by omega) (by omega) (by have := HZ.out; omega))⟩
      · have hd : decide (z < 0) = false := decide_eq_false hl
        go_wp2_with fail
        go_quiet ((go_at_call 16; exact Calls.quiet_of (C.out _)))
        go_wp2_with fail
        go_roundg (j - (k + 1))
        case measure => omega
        case rel => exact ⟨k + 1, j, by go_num, rfl, by omega, by omega, hj, by omega, Lib.hid (SW.drewN' SK.out _), Lib.hid (HS.out.lo HO.out H2.out H3.out (by omega) (by omega) (by have := HZ.out; omega))⟩
    · obtain rfl : i = j := by omega
      have hltz : ¬ (i : Int) < (i : Int) := by omega
      go_wp2_with fail
      go_loopg [17] (m - a) (fun g1 vi wr => ∃ (k : Nat) (dk : Array α), vi = .int .i64 k ∧ i ≤ k ∧ k ≤ m ∧ k - i ≤ g1 ∧ Hid (SW (en v) w0 blk 0 dk wr) ∧ Hid (Rot d dk k m (m + 1)))
      case atStart => exact ⟨m, d, rfl, hj, Nat.le_refl _, by omega, SK, Lib.hid (Rot.refl _ _ _ _ (Or.inl rfl) (Nat.le_refl _) (by omega))⟩
      case round =>
        clear SK
        obtain ⟨k, dk, rfl, hk1, hk2, hg2, SK, HK⟩ := hrel
        by_cases hlt : i < k
        · obtain ⟨p, hp⟩ : ∃ p, k = p + 1 := ⟨k - 1, by omega⟩
          obtain ⟨x, y, a1, a2, b1, b2, c, e⟩ := swap_facts SK.out HR.out (by have := HK.out.1; have := HSD.out; omega) k p (by have := HK.out.1; have := HSZ.out; omega) (by have := HK.out.1; have := HSZ.out; omega)
          obtain ⟨z', c⟩ := c (.int .i64 y)
          have E := Lib.hid e
          have e2 : (k : Int) - 1 = (p : Int) := by omega
          have r1 : IntKind.i64.wrap (p : Int) = (p : Int) := by rw [IntKind.wrap_i64]; omega
          have q1 : (p : Int) < (sz : Int) := by omega
          have q2 : (k : Int) < (sz : Int) := by omega
          have q3 : (i : Int) < (k : Int) := by omega
          have HP := Lib.hid hp
          clear e hp
          go_wp2_with fail
          go_region
          go_wp2_with fail
          go_roundg (p - i)
          case measure => have := HP.out; omega
          case rel => exact ⟨p, swp dk k p, rfl, by have := HP.out; omega, by have := HP.out; omega, Nat.le_refl _, E, (show Rot d (swp dk k p) p m (m + 1) from by have HK' := HK.out; rw [HP.out] at HK' ⊢; exact HK'.down (by have := HP.out; omega) (by have := HSZ.out; omega))⟩
        · have hz : ¬ (i : Int) < (k : Int) := by omega
          go_wp2_with fail
          refine bodyPost_ret (results_none rfl _ _ _) rfl ?_
          obtain rfl : k = i := by omega
          refine ⟨rfl, dk, SK.out, rot_run HK.out H2.out (fun i j h1 h2 h3 => by omega) hi hk2 (by omega) (Nat.le_refl _) (fun x y h1 h2 h3 h4 => ?_) (fun x y h1 h2 h3 h4 => ?_) (fun x y h1 h2 h3 h4 => by omega), (HK.out.mv hk2 (by omega)).wide hi (Nat.le_refl _)⟩
          · obtain rfl : y = m := by omega
            exact HS.out.low x h1 h2
          · obtain rfl : y = m := by omega
            exact HS.out.high x h1 h2
end Go.Proofs.Ytdiihpnfeeediaa.So
