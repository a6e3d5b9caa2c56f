/-
  The walk of the law on so much, and no more.
-/
import Derived.Test.YtfdjphinicafiabDoorShKnown
import Derived.Test.YtfdjphinicafiabDoorShRPad
namespace Go.Proofs.YtfdjphinicafiabDoor.Sh
open Go.RowKit Go.Proofs.YtfdjphinicafiabDoor.Gn Go.Deep
set_option linter.unusedVariables false
attribute [local go_sem ↓] Go.wp_at_zero Go.wp_at_succ

theorem zer_lt (n : Nat) : ∀ x ∈ zer n, x < 256 := by
  intro x hx
  have := List.eq_of_mem_replicate hx
  omega
theorem zer_append (n m : Nat) : zer n ++ zer m = zer (n + m) := List.replicate_append_replicate
theorem zer_take (n m : Nat) (h : m ≤ n) : (zer n).take m = zer m := by
  unfold zer; rw [List.take_replicate, Nat.min_eq_left h]
theorem made_zer (n : Nat) : madeCells #[.int .u8 0] n = (bl (zer n)).toArray := by
  apply Array.toList_inj.1
  rw [toList_madeCells_one]
  simp [bl, zer]
theorem write_n (T l : List Nat) (n : Nat) (hn : l.length = n) (g : Nat) (A : Option Addr) (c : Nat) (w : World) (hg : 2 ≤ g) (hl : ∀ x ∈ l, x < 256) (hsl : Sl w A n (bl l)) (hA : ∀ ad, A = some ad → ad.block ≠ g) (hlc : n ≤ c) (h : Hs false T g w) (hmax : T.length + n ≤ 1048576) (tab : Tab w) :
    Calls Tryd.prog 28 #[.pointer (some ⟨g, 0, none⟩), .slice A n c] w
      fun e w' => e = .returned (.int .i64 0) ∧ Hs false (T ++ l) g w' ∧ w.grownBy w' (some g) ∧ Tab w' := by
  subst hn; exact write32_any T l g A c w hg hl hsl hA hlc h hmax tab
def FullRel (w : World) (g q : Nat) (Z : Array Value) (i : Value) (wr : World) : Prop :=
  ∃ k : Nat, k ≤ 3 ∧ i = .int .i64 (k : Int) ∧ Hs false (zer (k * 65536)) g wr ∧ Bl wr q 5 Z ∧ Below w.heap.size w wr ∧ Tab wr
theorem Sl_zer {w : World} {q n m : Nat} (h : Bl w q 5 (bl (zer n)).toArray) (hm : m ≤ n) : Sl w (some ⟨q, 0, none⟩) m (bl (zer m)) :=
  Sl.of_bl h 0 m _ (by rw [bl_length, zer_length]) (fun k v hk => by
    rw [Nat.zero_add]
    rw [bl_get] at hk
    simp only [List.getElem?_toArray, bl_get]
    have hkm : k < m := by
      rcases Nat.lt_or_ge k m with h1 | h1
      · exact h1
      · rw [List.getElem?_eq_none (by rw [zer_length]; exact h1)] at hk; cases hk
    rw [← hk]
    unfold zer
    rw [List.getElem?_replicate, List.getElem?_replicate, if_pos (by omega), if_pos hkm])
set_option maxRecDepth 100000 in
set_option maxHeartbeats 2000000 in
theorem full_any (n m : Nat) (hn : n < 65536) (hm : m < 65536) (w : World) (tab : Tab w) :
    Calls Tryd.prog 10 #[.int .u16 (n : Int), .int .u16 (m : Int)] w fun e w' => e = .returned (.bool true) ∧ Below w.heap.size w w' := by
  have TAB := Lib.hid tab
  have h2 := Lib.hid tab.size
  obtain ⟨Z, hZ⟩ : ∃ Z, Z = madeCells #[Value.int .u8 0] 65536 := ⟨_, rfl⟩
  obtain ⟨Y, hY⟩ : ∃ Y, Y = madeCells #[Value.int .u8 0] 851970 := ⟨_, rfl⟩
  have hmk1 : ∀ w, (Instr.makeSlice 30 (.int .i64 65536) (.int .i64 65536)).run Tryd.prog w = .ok (.slice (some ⟨w.heap.size, 0, none⟩) 65536 65536) (w.alloc (.cells Z 5)) :=
    fun w => by rw [hZ]; exact run_make_row' (P := Tryd.prog) 30 5 (.int .u8 0) 1 Tryd.underlying30 infob rfl .i64 .i64 65536 (by omega) (by omega) w
  have hmk2 : ∀ w, (Instr.makeSlice 30 (.int .i64 851970) (.int .i64 851970)).run Tryd.prog w = .ok (.slice (some ⟨w.heap.size, 0, none⟩) 851970 851970) (w.alloc (.cells Y 5)) :=
    fun w => by rw [hY]; exact run_make_row' (P := Tryd.prog) 30 5 (.int .u8 0) 1 Tryd.underlying30 infob rfl .i64 .i64 851970 (by omega) (by omega) w
  rw [made_zer] at hZ hY
  have HZ := Lib.hid hZ
  have HY := Lib.hid hY
  clear hZ hY tab
  go_enter Tryd.func10, Tryd.ntmps10
  go_wp2_with (go_at_call 27; refine (new32_any _ TAB.out).mono ?_; rintro e w1 ⟨g, rfl, hg, hs, hb, ht⟩; have HG := Lib.hid hg; have H1 := Lib.hid hs; have HB := Lib.hid hb; have T1 := Lib.hid ht; clear hg hs hb ht)
  have hq : w1.heap.size < (w1.alloc (.cells Z 5)).heap.size := by simp
  have R0 := Lib.hid (show FullRel w g w1.heap.size Z (.int .i64 0) (w1.alloc (.cells Z 5)) from
    ⟨0, by omega, rfl, H1.out.below ((Below.refl _ _).alloc (Nat.le_refl _) _), Bl.new_ _ _ _, HB.out.alloc HB.out.size _, T1.out.below ((Below.refl _ _).alloc (Nat.le_refl _) _)⟩)
  have HGQ := Lib.hid (show g < w1.heap.size from by obtain ⟨_, _, hb, _⟩ := H1.out; exact hb.lt)
  have hqd := HGQ.out
  generalize hq1 : w1.heap.size = q at *
  generalize hwz : w1.alloc (.cells Z 5) = wz at *
  clear hq1 hwz hq hqd
  go_loopw [8] (fun i wr => FullRel w g q Z i wr) (fun i _ => 3 - (intOf i).toNat)
  case atStart => exact R0.out
  case round =>
    obtain ⟨k, hk, rfl, h3, h4, h5, h6⟩ := hrel
    have H3 := Lib.hid h3
    have H4 := Lib.hid h4
    have H5 := Lib.hid h5
    have H6 := Lib.hid h6
    clear h3 h4 h5 h6
    by_cases hlt : k < 3
    · go_wp2_with (go_at_call 28; refine (write_n (zer (k * 65536)) (zer 65536) 65536 (zer_length _) g _ _ _ (by have := h2.out; have := HG.out; omega) (zer_lt _) (Sl_zer (n := 65536) (by rw [← HZ.out]; exact H4.out) (Nat.le_refl _)) (fun ad h => by injection h with h; rw [← h]; have := HGQ.out; exact (by omega : q ≠ g)) (Nat.le_refl _) H3.out (by rw [zer_length]; omega) H6.out).mono ?_; rintro e w2 ⟨rfl, hs2, hg2, ht2⟩; have S2 := Lib.hid hs2; have G2 := Lib.hid hg2; have T2 := Lib.hid ht2; clear hs2 hg2 ht2)
      go_roundw
      case rel =>
        refine ⟨k + 1, by omega, by go_num, ?_, H4.out.grown G2.out (fun e => by injection e with e; have := HGQ.out; omega), H5.out.grown G2.out H5.out.size (fun j e => by injection e with e; have := HG.out; have := HB.out.size; omega), T2.out⟩
        have := S2.out
        rwa [zer_append, show k * 65536 + 65536 = (k + 1) * 65536 by omega] at this
      case measure => simp [intOf]; omega
    · obtain rfl : k = 3 := by omega
      obtain ⟨T3, hT3⟩ : ∃ T, T = zer (3 * 65536) := ⟨_, rfl⟩
      have hT3l : T3.length = 196608 := by rw [hT3, zer_length]
      rw [← hT3] at H3
      have HT3 := Lib.hid hT3l
      clear hT3 hT3l
      obtain ⟨r, hr⟩ : ∃ r, r = m % 3 := ⟨_, rfl⟩
      have er : (m : Int) % 3 = (r : Int) := by omega
      have hr3 : r < 3 := by omega
      obtain ⟨p, hp⟩ : ∃ p, p = 851968 - n + r := ⟨_, rfl⟩
      have ep : 851968 - (n : Int) + (r : Int) = (p : Int) := by omega
      have hp2 : p ≤ 851970 := by omega
      have HP := Lib.hid hp
      have HR := Lib.hid hr
      clear hr hp
      have hw0 := H5.out.size
      have HG1 := Lib.hid (show g < wr.heap.size by obtain ⟨_, _, hb, _⟩ := H3.out; exact hb.lt)
      have HQ1 := Lib.hid H4.out.lt
      have HY1 := Lib.hid (show ∀ x : World, Bl (x.alloc (.cells Y 5)) x.heap.size 5 (bl (zer 851970)).toArray from fun x => by rw [HY.out]; exact Bl.new_ _ _ _)
      have tcount : ∀ x : World, Hs false T3 g x → Calls Tryd.prog 29 #[.pointer (some ⟨g, 0, none⟩)] x fun e w' => e = .returned (.int .i64 196608) ∧ x = w' := fun x hx => (count32 T3 g x hx).mono fun e w' ⟨h1, h2⟩ => ⟨by rw [h1, HT3.out]; rfl, h2⟩
      have TC := Lib.hid tcount
      clear tcount hw0
      have TL := Lib.hid (show ∀ (x : World) (A : Option Addr) (c : Nat), Hs false T3 g x → Calls Tryd.prog 28 #[.pointer (some ⟨g, 0, none⟩), .slice A 851970 c] x fun e w' => e = .returned (.int .i64 2) ∧ x = w' from
        fun x A c hx => write32_long T3 851970 g A c x hx (by rw [HT3.out]; omega) (by omega) (by rw [HT3.out]; omega))
      go_wp2_with (go_at_call 28; (with_reducible refine (TL.out _ _ _ (H3.out.below ((Below.refl _ _).alloc (Nat.le_refl _) _))).mono ?_); rintro e w' ⟨rfl, rfl⟩)
      go_wp2_with (go_at_call 29; (with_reducible refine (TC.out _ (H3.out.below ((Below.refl _ _).alloc (Nat.le_refl _) _))).mono ?_); rintro e w' ⟨rfl, rfl⟩)
      have A1 := Lib.hid (show Below wr.heap.size wr (wr.alloc (.cells Y 5)) from (Below.refl _ _).alloc (Nat.le_refl _) _)
      have W3 := Lib.hid (write_n T3 (zer n) n (zer_length n) g (some ⟨q, 0, none⟩) 65536 (wr.alloc (.cells Y 5)) (by have := h2.out; have := HG.out; omega) (zer_lt _) (Sl_zer (n := 65536) (by rw [← HZ.out]; exact H4.out.below' A1.out) (by omega)) (fun ad h => by injection h with h; rw [← h]; have := HGQ.out; exact (by omega : q ≠ g)) (by omega) (H3.out.below A1.out) (by rw [HT3.out]; omega) (H6.out.below A1.out))
      go_wp2_with (go_at_call 28; (with_reducible refine W3.out.mono ?_); rintro e w3 ⟨rfl, hs3, hg3, ht3⟩; have S3 := Lib.hid hs3; have G3 := Lib.hid hg3; have T3' := Lib.hid ht3; clear hs3 hg3 ht3)
      have Y3 := Lib.hid ((HY1.out wr).grown G3.out (fun e => by injection e with e; have := HG1.out; omega))
      have B3 := Lib.hid (show Below w.heap.size w w3 from (H5.out.trans (A1.out.mono H5.out.size)).grown G3.out (by have := H5.out.size; have := A1.out.size; omega) (fun j e => by injection e with e; have := HG.out; have := HB.out.size; omega))
      have HL3 := Lib.hid (show (T3 ++ zer n).length = 196608 + n by rw [List.length_append, HT3.out, zer_length])
      by_cases hr0 : r = 0
      · have W4 := Lib.hid (write_n (T3 ++ zer n) (zer p) p (zer_length p) g (some ⟨wr.heap.size, 0, none⟩) 851970 w3 (by have := h2.out; have := HG.out; omega) (zer_lt _) (Sl_zer Y3.out hp2) (fun ad h => by injection h with h; rw [← h]; have := HG1.out; exact (by omega : wr.heap.size ≠ g)) (by omega) S3.out (by rw [HL3.out]; have := HP.out; omega) T3'.out)
        subst hr0
        go_wp2_with (go_at_call 28; (with_reducible refine W4.out.mono ?_); rintro e w4 ⟨rfl, hs4, hg4, ht4⟩; have G4 := Lib.hid hg4; have T4 := Lib.hid ht4; clear hs4 hg4 ht4)
        go_wp2_with (go_at_call 18; refine (known_any _ T4.out).mono ?_; rintro e w5 ⟨rfl, hb5⟩)
        go_ret
        have b4 := B3.out.grown G4.out B3.out.size (fun j e => by injection e with e; have := HG.out; have := HB.out.size; omega)
        exact ⟨rfl, b4.trans (hb5.mono b4.size)⟩
      · have W4 := Lib.hid (write32_long (T3 ++ zer n) p g (some ⟨wr.heap.size, 0, none⟩) 851970 w3 S3.out (by rw [HL3.out]; omega) (by omega) (by rw [HL3.out]; have := HP.out; omega))
        have tr : decide ((0 : Int) < (r : Int)) = true := decide_eq_true (by omega)
        go_wp2_with (go_at_call 28; (with_reducible refine W4.out.mono ?_); rintro e w4 ⟨rfl, rfl⟩)
        go_wp2_with (go_at_call 18; refine (known_any _ T3'.out).mono ?_; rintro e w5 ⟨rfl, hb5⟩)
        go_ret
        exact ⟨rfl, B3.out.trans (hb5.mono B3.out.size)⟩
theorem walk_sha2Full {w : World} (tab : Tab w) (x : Int) (hx : (Lit.int .u16 x).wf) (y : Int) (hy : (Lit.int .u16 y).wf) :
    Calls Tryd.prog 10 #[.int .u16 x, .int .u16 y] w fun e w' => e = .returned (.bool true) ∧ Below w.heap.size w w' := by
  have hx' : 0 ≤ x ∧ x ≤ 65535 := by simpa [Lit.wf, IntKind.min, IntKind.max, IntKind.signed, IntKind.bits] using hx
  have hy' : 0 ≤ y ∧ y ≤ 65535 := by simpa [Lit.wf, IntKind.min, IntKind.max, IntKind.signed, IntKind.bits] using hy
  obtain ⟨n, rfl⟩ : ∃ n : Nat, x = (n : Int) := ⟨x.toNat, by omega⟩
  obtain ⟨m, rfl⟩ : ∃ m : Nat, y = (m : Int) := ⟨y.toNat, by omega⟩
  exact full_any n m (by omega) (by omega) w tab
end Go.Proofs.YtfdjphinicafiabDoor.Sh
