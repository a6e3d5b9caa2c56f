/-
  The walk of the law on asking, copies and emptying.
-/
import Derived.Test.YtfdjphinicafiabDoorShSums
namespace Go.Proofs.YtfdjphinicafiabDoor.Sh
open Go.RowKit Go.Proofs.YtfdjphinicafiabDoor.Gn Go.Deep
set_option linter.unusedVariables false
attribute [local go_sem ↓] Go.wp_at_zero Go.wp_at_succ

def AskRel (N q : Nat) (w3 : World) (i : Value) (wr : World) : Prop :=
  ∃ (k : Nat) (arr : Array Value), k ≤ N ∧ i = .int .i64 (k : Int) ∧ arr.size = N ∧ (∀ j, j < N → ∃ v : Int, arr[j]? = some (.int .u8 v)) ∧ Bl wr q 5 arr ∧ w3.grownBy wr (some q)
theorem dg_slot32 {w : World} {q : Nat} {l : List Nat} (h : Bl w q 5 (bl (dg false l)).toArray) : Sl w (some ⟨q, 0, none⟩) 32 (bl (dg false l)) :=
  Sl.of_bl h 0 _ _ (by rw [bl_length, dg_length32]) (fun k v hk => by rw [Nat.zero_add]; simpa using hk)
set_option maxRecDepth 100000 in
set_option maxHeartbeats 4000000 in
theorem asks32_ok {w : World} (l0 l1 l2 : List Nat) (A0 A1 A2 : Option Addr) (n0 c0 n1 c1 n2 c2 : Nat) (hb0 : BL w A0 n0 c0 l0) (hb1 : BL w A1 n1 c1 l1) (hb2 : BL w A2 n2 c2 l2) (h0 : n0 ≤ 600) (h1 : n1 ≤ 600) (h2 : n2 ≤ 600) (tab : Tab w) :
    Calls Tryd.prog 8 #[.slice A0 n0 c0, .slice A1 n1 c1, .slice A2 n2 c2, .bool false] w fun e w' => e = .returned (.bool true) ∧ Below w.heap.size w w' := by
  obtain ⟨s0, -, b0, m0, k0⟩ := hb0
  obtain ⟨s1, -, b1, m1, k1⟩ := hb1
  obtain ⟨s2, -, b2, m2, k2⟩ := hb2
  have e0 : l0.length = n0 := by have := s0.1; rwa [bl_length] at this
  have e1 : l1.length = n1 := by have := s1.1; rwa [bl_length] at this
  have e2 : l2.length = n2 := by have := s2.1; rwa [bl_length] at this
  have TAB := Lib.hid tab
  have S0 := Lib.hid s0
  have S1 := Lib.hid s1
  have S2 := Lib.hid s2
  have E := Lib.hid (And.intro e0 (And.intro e1 e2))
  have BB := Lib.hid (And.intro b0 (And.intro b1 b2))
  have M := Lib.hid (And.intro m0 (And.intro m1 m2))
  have T2 := Lib.hid tab.size
  obtain ⟨i0, hi, hz0, hz1, hz2⟩ := info_parts info1
  clear s0 s1 s2 b0 b1 b2 m0 m1 m2 e0 e1 e2 tab
  go_enter Tryd.func8, Tryd.ntmps8
  go_wp2_with (first | (go_at_call 22; (with_reducible refine (long_no _ _ _ _ h0).mono ?_); rintro e w' ⟨rfl, rfl⟩) | (go_at_call 22; (with_reducible refine (long_no _ _ _ _ h1).mono ?_); rintro e w' ⟨rfl, rfl⟩) | (go_at_call 22; (with_reducible refine (long_no _ _ _ _ h2).mono ?_); rintro e w' ⟨rfl, rfl⟩) | (go_at_call 25; (with_reducible refine (which_false _).mono ?_); rintro e w' ⟨rfl, rfl⟩) | (go_at_call 27; (with_reducible refine (new32_any _ TAB.out).mono ?_); rintro e w1 ⟨g, rfl, hg, hs, hb, ht⟩; have HG := Lib.hid hg; have H1 := Lib.hid hs; have B1 := Lib.hid hb; have T1 := Lib.hid ht; clear hg hs hb ht))
  have hg2 := Lib.hid (show 2 ≤ g by have := T2.out; have := HG.out; omega)
  have HW2 := Lib.hid (writex32 [] l0 n0 E.out.1 g A0 c0 w1 hg2.out BB.out.1 (S0.out.below B1.out) (fun h ad e => by have := Sl_block S0.out h ad e; have := HG.out; omega) k0 H1.out (by simpa using Nat.le_trans h0 (by decide)) T1.out)
  go_wp2_with (go_at_call 28; (with_reducible refine HW2.out.mono ?_); rintro e w2 ⟨rfl, hs, hgr, ht⟩; have H2 := Lib.hid (show Hs false l0 g w2 from hs); have G2 := Lib.hid hgr; have TT2 := Lib.hid ht; clear hs hgr ht)
  have B2 := Lib.hid (B1.out.grown G2.out B1.out.size (fun k e => by injection e with e; have := HG.out; omega))
  have HS3 := Lib.hid (hsum32_any l0 g w2 (by rw [E.out.1]; omega) H2.out TT2.out)
  go_wp2_with (go_at_call 30; (with_reducible refine HS3.out.mono ?_); rintro e w3 ⟨q, rfl, hq, hbl, hb3⟩; have HQ := Lib.hid hq; have HBL := Lib.hid hbl; have B3' := Lib.hid hb3; clear hq hbl hb3)
  have H3 := Lib.hid (H2.out.below B3'.out)
  have TT3 := Lib.hid (TT2.out.below B3'.out)
  have B3 := Lib.hid (B2.out.trans (B3'.out.mono B2.out.size))
  have HGL := Lib.hid (show g < w2.heap.size by obtain ⟨_, _, hb, _⟩ := H2.out; exact hb.lt)
  have R0 := Lib.hid (show AskRel 32 q w3 (.int .i64 0) w3 from ⟨0, _, Nat.zero_le _, rfl, by simp [bl, dg_length32], fun j hj => by
    have hl : j < (dg false l0).length := by rw [dg_length32]; exact hj
    exact ⟨_, by rw [List.getElem?_toArray, bl_get, List.getElem?_eq_getElem hl]; rfl⟩, HBL.out, World.grownBy.refl _ _⟩)
  go_loopw [12] (fun i wr => AskRel 32 q w3 i wr) (fun i _ => 32 - (intOf i).toNat)
  case atStart => exact R0.out
  case round =>
    obtain ⟨k, arr, hk, rfl, hsz, harr, hb, hgr⟩ := hrel
    have K1 := Lib.hid hsz
    have K2 := Lib.hid harr
    have K3 := Lib.hid hb
    have K4 := Lib.hid hgr
    clear hsz harr hb hgr
    by_cases hlt : k < 32
    · obtain ⟨v, hv⟩ := K2.out k hlt
      have hc : wr.cell? ⟨q, k, none⟩ = some (.int .u8 v) := by rw [K3.out.cell]; exact hv
      have hfz := K3.out.frozen k
      have bk : (k : Int) < 32 := by omega
      clear hv
      go_wp2_with fail
      go_roundw
      case rel =>
        refine ⟨k + 1, arr.setIfInBounds k (.int .u8 _), by omega, by go_num, by rw [Array.size_setIfInBounds]; exact K1.out, ?_, K3.out.set_ k _, only_set K4.out (.inl rfl) _⟩
        intro j hj
        rw [Array.getElem?_setIfInBounds]
        by_cases hjk : k = j
        · rw [if_pos hjk, if_pos (by rw [K1.out]; exact hlt)]; exact ⟨_, rfl⟩
        · rw [if_neg hjk]; exact K2.out j hj
      case measure => simp [intOf]; omega
    · have ek : ((k : Nat) : Int) = 32 := by omega
      rw [ek]
      clear ek
      obtain rfl : k = 32 := by omega
      obtain ⟨w4, rfl⟩ : ∃ w4 : World, w4 = wr := ⟨_, rfl⟩
      have hqg : q ≠ g := by have := HQ.out; have := HGL.out; omega
      have H4 := Lib.hid (H3.out.grown K4.out (fun e => by injection e with e; exact hqg e))
      have TT4 := Lib.hid (TT3.out.only (show 2 ≤ q by have := HQ.out; have := HGL.out; have := hg2.out; omega) K4.out)
      have B4 := Lib.hid (B3.out.grown K4.out B3.out.size (fun k e => by injection e with e; have := HQ.out; have := B2.out.size; omega))
      have HGL4 := Lib.hid (show g < w4.heap.size by obtain ⟨_, _, hb, _⟩ := H4.out; exact hb.lt)
      clear hqg
      go_wp2_with (go_at_call 32; (with_reducible refine (copy32_any l0 g _ H4.out).mono ?_); rintro e w5 ⟨p, rfl, hp, hs5, hb5⟩; have HP := Lib.hid hp; have P5 := Lib.hid hs5; have B5' := Lib.hid hb5; clear hp hs5 hb5)
      have hpg := Lib.hid (show p ≠ g by have := HP.out; have := HGL4.out; omega)
      have TT5 := Lib.hid (TT4.out.below B5'.out)
      have B5 := Lib.hid (B4.out.trans (B5'.out.mono B4.out.size))
      have HW6 := Lib.hid (writex32 l0 l1 n1 E.out.2.1 g A1 c1 w5 hg2.out BB.out.2.1 (S1.out.below B5.out) (fun h ad e => by have := Sl_block S1.out h ad e; have := HG.out; omega) k1 (H4.out.below B5'.out) (by rw [E.out.1]; omega) TT5.out)
      go_wp2_with (go_at_call 28; (with_reducible refine HW6.out.mono ?_); rintro e w6 ⟨rfl, hs, hgr, ht⟩; have H6 := Lib.hid hs; have G6 := Lib.hid hgr; have TT6 := Lib.hid ht; clear hs hgr ht)
      have P6 := Lib.hid (P5.out.grown G6.out (fun e => by injection e with e; exact hpg.out e.symm))
      have B6 := Lib.hid (B5.out.grown G6.out B5.out.size (fun k e => by injection e with e; have := HG.out; omega))
      have hp2 := Lib.hid (show 2 ≤ p ∧ w.heap.size ≤ p by have := HP.out; have := HGL4.out; have := hg2.out; have := HG.out; omega)
      have HW7 := Lib.hid (writex32 l0 l2 n2 E.out.2.2 p A2 c2 w6 hp2.out.1 BB.out.2.2 (S2.out.below B6.out) (fun h ad e => by have := Sl_block S2.out h ad e; have := hp2.out.2; omega) k2 P6.out (by rw [E.out.1]; omega) TT6.out)
      go_wp2_with (first | (go_at_call 28; (with_reducible refine HW7.out.mono ?_); rintro e w7 ⟨rfl, hs, hgr, ht⟩; have P7 := Lib.hid hs; have G7 := Lib.hid hgr; have TT7 := Lib.hid ht; clear hs hgr ht; have B7 := Lib.hid (B6.out.grown G7.out B6.out.size (fun k e => by injection e with e; have := hp2.out.2; omega)); have H7 := Lib.hid (H6.out.grown G7.out (fun e => by injection e with e; exact hpg.out e))) | (at_builtin; refine wpList_append_sl rfl (.tmp 74) (.tmp 75) 30 rfl w7.heap.size 5 i0 _ 1 Tryd.underlying30 hi hz0 hz1 hz2 rfl (.slice none 0 0) 0 [] rfl (own_nil _ _ _) A0 n0 c0 (bl l0) rfl M.out.1 (S0.out.below B7.out) (bl_one _) (by unfold maxLen; omega) (by omega) (Nat.le_refl _) ?_; intro v8 w8 hown hgr; rw [Nat.zero_add, List.nil_append] at hown; have O8 := Lib.hid hown; have D8 := Lib.hid (grown_below hgr); clear hown hgr) | (at_builtin; refine wpList_append_sl rfl (.tmp 76) (.tmp 77) 30 rfl w7.heap.size 5 i0 _ 1 Tryd.underlying30 hi hz0 hz1 hz2 rfl v8 n0 (bl l0) rfl O8.out A1 n1 c1 (bl l1) rfl M.out.2.1 ((S1.out.below B7.out).below D8.out) (bl_one _) (by unfold maxLen; omega) (by omega) D8.out.size ?_; intro v9 w9 hown hgr; have O9 := Lib.hid hown; have D9 := Lib.hid (show Below w7.heap.size w7 w9 from D8.out.grown hgr D8.out.size (own_blk O8.out)); clear hown hgr) | (at_builtin; refine wpList_append_sl rfl (.tmp 79) (.tmp 80) 30 rfl w9.heap.size 5 i0 _ 1 Tryd.underlying30 hi hz0 hz1 hz2 rfl (.slice none 0 0) 0 [] rfl (own_nil _ _ _) A0 n0 c0 (bl l0) rfl M.out.1 ((S0.out.below B7.out).below D9.out) (bl_one _) (by unfold maxLen; omega) (by omega) (Nat.le_refl _) ?_; intro v10 w10 hown hgr; rw [Nat.zero_add, List.nil_append] at hown; have O10 := Lib.hid hown; have D10 := Lib.hid (grown_below hgr); clear hown hgr) | (at_builtin; refine wpList_append_sl rfl (.tmp 81) (.tmp 82) 30 rfl w9.heap.size 5 i0 _ 1 Tryd.underlying30 hi hz0 hz1 hz2 rfl v10 n0 (bl l0) rfl O10.out A2 n2 c2 (bl l2) rfl M.out.2.2 (((S2.out.below B7.out).below D9.out).below D10.out) (bl_one _) (by unfold maxLen; omega) (by omega) D10.out.size ?_; intro v11 w11 hown hgr; have O11 := Lib.hid hown; have D11 := Lib.hid (show Below w9.heap.size w9 w11 from D10.out.grown hgr D10.out.size (own_blk O10.out)); clear hown hgr) | (go_at_call 25; (with_reducible refine (which_false _).mono ?_); rintro e w' ⟨rfl, rfl⟩))
      obtain ⟨A9, c9, rfl, hs9, hn9, hl9, -, -⟩ := Sl.own O9.out
      obtain ⟨A11, c11, rfl, hs11, hn11, hl11, -, -⟩ := Sl.own O11.out
      have lt01 : ∀ x ∈ l0 ++ l1, x < 256 := fun x hx => by rcases List.mem_append.1 hx with h | h; exact BB.out.1 x h; exact BB.out.2.1 x h
      have lt02 : ∀ x ∈ l0 ++ l2, x < 256 := fun x hx => by rcases List.mem_append.1 hx with h | h; exact BB.out.1 x h; exact BB.out.2.2 x h
      have X9 := Lib.hid (show Sl w11 A9 (n0 + n1) (bl (l0 ++ l1)) by rw [bl_append]; exact hs9.below D11.out)
      have X11 := Lib.hid (show Sl w11 A11 (n0 + n2) (bl (l0 ++ l2)) by rw [bl_append]; exact hs11)
      have B11 := Lib.hid (show Below w.heap.size w w11 from (B7.out.trans (D9.out.mono B7.out.size)).trans (D11.out.mono (Nat.le_trans B7.out.size D9.out.size)))
      have D711 := Lib.hid (show Below w7.heap.size w7 w11 from D9.out.trans (D11.out.mono D9.out.size))
      have HR12 := Lib.hid (rsum32_any (l0 ++ l1) A9 (n0 + n1) c9 w11 lt01 X9.out hn9 (by omega))
      have HR13 := Lib.hid (fun (wx : World) (h : Below w11.heap.size w11 wx) => rsum32_any (l0 ++ l2) A11 (n0 + n2) c11 wx lt02 (X11.out.below h) hn11 (by omega))
      have H11 := Lib.hid (H7.out.below D711.out)
      have P11 := Lib.hid (P7.out.below D711.out)
      have TT11 := Lib.hid (TT7.out.below D711.out)
      clear hs9 hn9 hl9 hs11 hn11 hl11 lt01 lt02
      go_wp2_with (first | (go_at_call 24; (with_reducible refine HR12.out.mono ?_); rintro e w12 ⟨v12, rfl, hown, hb⟩; have O12 := Lib.hid hown; have D12 := Lib.hid hb; clear hown hb) | (go_at_call 24; (with_reducible refine (HR13.out _ D12.out).mono ?_); rintro e w13 ⟨v13, rfl, hown, hb⟩; have O13 := Lib.hid hown; have D13 := Lib.hid hb; clear hown hb) | (go_at_call 25; (with_reducible refine (which_false _).mono ?_); rintro e w' ⟨rfl, rfl⟩))
      obtain ⟨A12, c12, rfl, hs12, -, -, -, hA12⟩ := Sl.own O12.out
      obtain ⟨A13, c13, rfl, hs13, -, -, -, hA13⟩ := Sl.own O13.out
      have Y13 := Lib.hid (hs12.below D13.out)
      have Z13 := Lib.hid hs13
      have AY := Lib.hid hA12
      have AZ := Lib.hid hA13
      have D1113 := Lib.hid (D12.out.trans (D13.out.mono D12.out.size))
      have H13 := Lib.hid (H11.out.below D1113.out)
      have P13 := Lib.hid (P11.out.below D1113.out)
      have TT13 := Lib.hid (TT11.out.below D1113.out)
      have B13 := Lib.hid (B11.out.trans (D1113.out.mono B11.out.size))
      have HL01 := Lib.hid (show (l0 ++ l1).length ≤ 1048576 by rw [List.length_append, E.out.1, E.out.2.1]; omega)
      have HL02 := Lib.hid (show (l0 ++ l2).length ≤ 1048576 by rw [List.length_append, E.out.1, E.out.2.2]; omega)
      have HGP := Lib.hid (show g < w11.heap.size ∧ p < w11.heap.size from by obtain ⟨_, _, hb1, _⟩ := H11.out; obtain ⟨_, _, hb2, _⟩ := P11.out; exact ⟨hb1.lt, hb2.lt⟩)
      clear hs12 hs13 hA12 hA13
      have HS14 := Lib.hid (hsum32_any (l0 ++ l1) g w13 HL01.out H13.out TT13.out)
      go_wp2_with (go_at_call 30; (with_reducible refine HS14.out.mono ?_); rintro e w14 ⟨q14, rfl, hq, hbl, hb⟩; have Q14 := Lib.hid (dg_slot32 hbl); have D14 := Lib.hid hb; clear hq hbl hb)
      have Y14 := Lib.hid (Y13.out.below D14.out)
      have Z14 := Lib.hid (Z13.out.below D14.out)
      have HS15 := Lib.hid (hsum32_any (l0 ++ l2) p w14 HL02.out (P13.out.below D14.out) (TT13.out.below D14.out))
      go_wp2_with (first | (go_at_call 21; (with_reducible refine (samebytes_same (dg false (l0 ++ l1)) _ _ _ _ _ _ _ Q14.out Y14.out).mono ?_); rintro e w' ⟨rfl, rfl⟩) | (go_at_call 30; (with_reducible refine HS15.out.mono ?_); rintro e w15 ⟨q15, rfl, hq, hbl, hb⟩; have Q15 := Lib.hid (dg_slot32 hbl); have D15 := Lib.hid hb; clear hq hbl hb))
      have D1415 := Lib.hid (D14.out.trans (D15.out.mono D14.out.size))
      have Y15 := Lib.hid (Y13.out.below D1415.out)
      have Z15 := Lib.hid (Z13.out.below D1415.out)
      have H15 := Lib.hid (H13.out.below D1415.out)
      have HS16 := Lib.hid (hsum32_any (l0 ++ l1) g w15 HL01.out H15.out (TT13.out.below D1415.out))
      go_wp2_with (first | (go_at_call 21; (with_reducible refine (samebytes_same (dg false (l0 ++ l2)) _ _ _ _ _ _ _ Q15.out Z15.out).mono ?_); rintro e w' ⟨rfl, rfl⟩) | (go_at_call 30; (with_reducible refine HS16.out.mono ?_); rintro e w16 ⟨q16, rfl, hq, hbl, hb⟩; have Q16 := Lib.hid (dg_slot32 hbl); have D16 := Lib.hid hb; clear hq hbl hb))
      have D1316 := Lib.hid (D1415.out.trans (D16.out.mono D1415.out.size))
      have Y16 := Lib.hid (Y13.out.below D1316.out)
      have Z16 := Lib.hid (Z13.out.below D1316.out)
      have H16 := Lib.hid (H13.out.below D1316.out)
      have P16 := Lib.hid (P13.out.below D1316.out)
      have TT16 := Lib.hid (TT13.out.below D1316.out)
      have B16 := Lib.hid (B13.out.trans (D1316.out.mono B13.out.size))
      obtain ⟨ws16, rs16, hb16, hst16⟩ := H16.out
      have HB16 := Lib.hid hb16
      have HT16 := Lib.hid hst16
      clear hb16 hst16
      go_wp2_with (first | (go_at_call 21; (with_reducible refine (samebytes_same (dg false (l0 ++ l1)) _ _ _ _ _ _ _ Q16.out Y16.out).mono ?_); rintro e w' ⟨rfl, rfl⟩) | (go_at_call 33; (with_reducible refine (reset32_any g _ ws16 rs16 HT16.out.wl HT16.out.rl w16 hg2.out HB16.out TT16.out).mono ?_); rintro e w17 ⟨rfl, hbr, hgr⟩; have R17 := Lib.hid hbr; have G17 := Lib.hid hgr; clear hbr hgr))
      have H17 := Lib.hid (show Hs false [] g w17 from ⟨_, _, R17.out, St_nil32⟩)
      have P17 := Lib.hid (P16.out.grown G17.out (fun e => by injection e with e; exact hpg.out e.symm))
      have TT17 := Lib.hid (TT16.out.only hg2.out G17.out)
      have AZ2 := Lib.hid (show ∀ ad, A13 = some ad → ad.block ≠ g from fun ad e => by have := (AZ.out ad e).1; have := D12.out.size; have := HGP.out.1; omega)
      have Z17 := Lib.hid (Z16.out.only G17.out (fun ad e h => by injection h with h; exact AZ2.out ad e h.symm))
      have B17 := Lib.hid (B16.out.grown G17.out B16.out.size (fun k e => by injection e with e; have := HG.out; omega))
      have HW18 := Lib.hid (writex32 [] l2 n2 E.out.2.2 g A2 c2 w17 hg2.out BB.out.2.2 (S2.out.below B17.out) (fun h ad e => by have := Sl_block S2.out h ad e; have := HG.out; omega) k2 H17.out (by simpa using Nat.le_trans h2 (by decide)) TT17.out)
      go_wp2_with (first | (go_at_call 28; (with_reducible refine HW18.out.mono ?_); rintro e w18 ⟨rfl, hs, hgr, ht⟩; have H18 := Lib.hid (show Hs false l2 g w18 from hs); have G18 := Lib.hid hgr; have TT18 := Lib.hid ht; clear hs hgr ht) | (go_at_call 25; (with_reducible refine (which_false _).mono ?_); rintro e w' ⟨rfl, rfl⟩))
      have P18 := Lib.hid (P17.out.grown G18.out (fun e => by injection e with e; exact hpg.out e.symm))
      have Z18 := Lib.hid (Z17.out.only G18.out (fun ad e h => by injection h with h; exact AZ2.out ad e h.symm))
      have B18 := Lib.hid (B17.out.grown G18.out B17.out.size (fun k e => by injection e with e; have := HG.out; omega))
      have HR19 := Lib.hid (rsum32_any l2 A2 n2 c2 w18 BB.out.2.2 (S2.out.below B18.out) M.out.2.2 (by omega))
      go_wp2_with (go_at_call 24; (with_reducible refine HR19.out.mono ?_); rintro e w19 ⟨v19, rfl, hown, hb⟩; have O19 := Lib.hid hown; have D19 := Lib.hid hb; clear hown hb)
      obtain ⟨A19, c19, rfl, hs19, -, -, -, -⟩ := Sl.own O19.out
      have W19 := Lib.hid hs19
      clear hs19
      have HS20 := Lib.hid (hsum32_any l2 g w19 (by rw [E.out.2.2]; omega) (H18.out.below D19.out) (TT18.out.below D19.out))
      go_wp2_with (go_at_call 30; (with_reducible refine HS20.out.mono ?_); rintro e w20 ⟨q20, rfl, hq, hbl, hb⟩; have Q20 := Lib.hid (dg_slot32 hbl); have D20 := Lib.hid hb; clear hq hbl hb)
      have W20 := Lib.hid (W19.out.below D20.out)
      have D1820 := Lib.hid (D19.out.trans (D20.out.mono D19.out.size))
      have HS21 := Lib.hid (hsum32_any (l0 ++ l2) p w20 HL02.out (P18.out.below D1820.out) (TT18.out.below D1820.out))
      go_wp2_with (first | (go_at_call 21; (with_reducible refine (samebytes_same (dg false l2) _ _ _ _ _ _ _ Q20.out W20.out).mono ?_); rintro e w' ⟨rfl, rfl⟩) | (go_at_call 30; (with_reducible refine HS21.out.mono ?_); rintro e w21 ⟨q21, rfl, hq, hbl, hb⟩; have Q21 := Lib.hid (dg_slot32 hbl); have D21 := Lib.hid hb; clear hq hbl hb))
      have D1821 := Lib.hid (D1820.out.trans (D21.out.mono D1820.out.size))
      have Z21 := Lib.hid (Z18.out.below D1821.out)
      have B21 := Lib.hid (B18.out.trans (D1821.out.mono B18.out.size))
      go_wp2_with (first | (go_at_call 21; (with_reducible refine (samebytes_same (dg false (l0 ++ l2)) _ _ _ _ _ _ _ Q21.out Z21.out).mono ?_); rintro e w' ⟨rfl, rfl⟩) | (go_at_call 18; (with_reducible refine (known_any _ (TT18.out.below D1821.out)).mono ?_); rintro e w22 ⟨rfl, hb22⟩))
      go_ret
      exact ⟨rfl, B21.out.trans (hb22.mono B21.out.size)⟩
theorem dg_slot64 {w : World} {q : Nat} {l : List Nat} (h : Bl w q 5 (bl (dg true l)).toArray) : Sl w (some ⟨q, 0, none⟩) 64 (bl (dg true l)) :=
  Sl.of_bl h 0 _ _ (by rw [bl_length, dg_length64]) (fun k v hk => by rw [Nat.zero_add]; simpa using hk)
set_option maxRecDepth 100000 in
set_option maxHeartbeats 4000000 in
theorem asks64_ok {w : World} (l0 l1 l2 : List Nat) (A0 A1 A2 : Option Addr) (n0 c0 n1 c1 n2 c2 : Nat) (hb0 : BL w A0 n0 c0 l0) (hb1 : BL w A1 n1 c1 l1) (hb2 : BL w A2 n2 c2 l2) (h0 : n0 ≤ 600) (h1 : n1 ≤ 600) (h2 : n2 ≤ 600) (tab : Tab w) :
    Calls Tryd.prog 8 #[.slice A0 n0 c0, .slice A1 n1 c1, .slice A2 n2 c2, .bool true] w fun e w' => e = .returned (.bool true) ∧ Below w.heap.size w w' := by
  obtain ⟨s0, -, b0, m0, k0⟩ := hb0
  obtain ⟨s1, -, b1, m1, k1⟩ := hb1
  obtain ⟨s2, -, b2, m2, k2⟩ := hb2
  have e0 : l0.length = n0 := by have := s0.1; rwa [bl_length] at this
  have e1 : l1.length = n1 := by have := s1.1; rwa [bl_length] at this
  have e2 : l2.length = n2 := by have := s2.1; rwa [bl_length] at this
  have TAB := Lib.hid tab
  have S0 := Lib.hid s0
  have S1 := Lib.hid s1
  have S2 := Lib.hid s2
  have E := Lib.hid (And.intro e0 (And.intro e1 e2))
  have BB := Lib.hid (And.intro b0 (And.intro b1 b2))
  have M := Lib.hid (And.intro m0 (And.intro m1 m2))
  have T2 := Lib.hid tab.size
  obtain ⟨i0, hi, hz0, hz1, hz2⟩ := info_parts info1
  clear s0 s1 s2 b0 b1 b2 m0 m1 m2 e0 e1 e2 tab
  go_enter Tryd.func8, Tryd.ntmps8
  go_wp2_with (first | (go_at_call 22; (with_reducible refine (long_no _ _ _ _ h0).mono ?_); rintro e w' ⟨rfl, rfl⟩) | (go_at_call 22; (with_reducible refine (long_no _ _ _ _ h1).mono ?_); rintro e w' ⟨rfl, rfl⟩) | (go_at_call 22; (with_reducible refine (long_no _ _ _ _ h2).mono ?_); rintro e w' ⟨rfl, rfl⟩) | (go_at_call 25; (with_reducible refine (which_true _).mono ?_); rintro e w' ⟨rfl, rfl⟩) | (go_at_call 27; (with_reducible refine (new64_any _ TAB.out).mono ?_); rintro e w1 ⟨g, rfl, hg, hs, hb, ht⟩; have HG := Lib.hid hg; have H1 := Lib.hid hs; have B1 := Lib.hid hb; have T1 := Lib.hid ht; clear hg hs hb ht))
  have hg2 := Lib.hid (show 2 ≤ g by have := T2.out; have := HG.out; omega)
  have HW2 := Lib.hid (writex64 [] l0 n0 E.out.1 g A0 c0 w1 hg2.out BB.out.1 (S0.out.below B1.out) (fun h ad e => by have := Sl_block S0.out h ad e; have := HG.out; omega) k0 H1.out (by simpa using Nat.le_trans h0 (by decide)) T1.out)
  go_wp2_with (go_at_call 28; (with_reducible refine HW2.out.mono ?_); rintro e w2 ⟨rfl, hs, hgr, ht⟩; have H2 := Lib.hid (show Hs true l0 g w2 from hs); have G2 := Lib.hid hgr; have TT2 := Lib.hid ht; clear hs hgr ht)
  have B2 := Lib.hid (B1.out.grown G2.out B1.out.size (fun k e => by injection e with e; have := HG.out; omega))
  have HS3 := Lib.hid (hsum64_any l0 g w2 (by rw [E.out.1]; omega) H2.out TT2.out)
  go_wp2_with (go_at_call 30; (with_reducible refine HS3.out.mono ?_); rintro e w3 ⟨q, rfl, hq, hbl, hb3⟩; have HQ := Lib.hid hq; have HBL := Lib.hid hbl; have B3' := Lib.hid hb3; clear hq hbl hb3)
  have H3 := Lib.hid (H2.out.below B3'.out)
  have TT3 := Lib.hid (TT2.out.below B3'.out)
  have B3 := Lib.hid (B2.out.trans (B3'.out.mono B2.out.size))
  have HGL := Lib.hid (show g < w2.heap.size by obtain ⟨_, _, hb, _⟩ := H2.out; exact hb.lt)
  have R0 := Lib.hid (show AskRel 64 q w3 (.int .i64 0) w3 from ⟨0, _, Nat.zero_le _, rfl, by simp [bl, dg_length64], fun j hj => by
    have hl : j < (dg true l0).length := by rw [dg_length64]; exact hj
    exact ⟨_, by rw [List.getElem?_toArray, bl_get, List.getElem?_eq_getElem hl]; rfl⟩, HBL.out, World.grownBy.refl _ _⟩)
  go_loopw [12] (fun i wr => AskRel 64 q w3 i wr) (fun i _ => 64 - (intOf i).toNat)
  case atStart => exact R0.out
  case round =>
    obtain ⟨k, arr, hk, rfl, hsz, harr, hb, hgr⟩ := hrel
    have K1 := Lib.hid hsz
    have K2 := Lib.hid harr
    have K3 := Lib.hid hb
    have K4 := Lib.hid hgr
    clear hsz harr hb hgr
    by_cases hlt : k < 64
    · obtain ⟨v, hv⟩ := K2.out k hlt
      have hc : wr.cell? ⟨q, k, none⟩ = some (.int .u8 v) := by rw [K3.out.cell]; exact hv
      have hfz := K3.out.frozen k
      have bk : (k : Int) < 64 := by omega
      clear hv
      go_wp2_with fail
      go_roundw
      case rel =>
        refine ⟨k + 1, arr.setIfInBounds k (.int .u8 _), by omega, by go_num, by rw [Array.size_setIfInBounds]; exact K1.out, ?_, K3.out.set_ k _, only_set K4.out (.inl rfl) _⟩
        intro j hj
        rw [Array.getElem?_setIfInBounds]
        by_cases hjk : k = j
        · rw [if_pos hjk, if_pos (by rw [K1.out]; exact hlt)]; exact ⟨_, rfl⟩
        · rw [if_neg hjk]; exact K2.out j hj
      case measure => simp [intOf]; omega
    · have ek : ((k : Nat) : Int) = 64 := by omega
      rw [ek]
      clear ek
      obtain rfl : k = 64 := by omega
      obtain ⟨w4, rfl⟩ : ∃ w4 : World, w4 = wr := ⟨_, rfl⟩
      have hqg : q ≠ g := by have := HQ.out; have := HGL.out; omega
      have H4 := Lib.hid (H3.out.grown K4.out (fun e => by injection e with e; exact hqg e))
      have TT4 := Lib.hid (TT3.out.only (show 2 ≤ q by have := HQ.out; have := HGL.out; have := hg2.out; omega) K4.out)
      have B4 := Lib.hid (B3.out.grown K4.out B3.out.size (fun k e => by injection e with e; have := HQ.out; have := B2.out.size; omega))
      have HGL4 := Lib.hid (show g < w4.heap.size by obtain ⟨_, _, hb, _⟩ := H4.out; exact hb.lt)
      clear hqg
      go_wp2_with (go_at_call 32; (with_reducible refine (copy64_any l0 g _ H4.out).mono ?_); rintro e w5 ⟨p, rfl, hp, hs5, hb5⟩; have HP := Lib.hid hp; have P5 := Lib.hid hs5; have B5' := Lib.hid hb5; clear hp hs5 hb5)
      have hpg := Lib.hid (show p ≠ g by have := HP.out; have := HGL4.out; omega)
      have TT5 := Lib.hid (TT4.out.below B5'.out)
      have B5 := Lib.hid (B4.out.trans (B5'.out.mono B4.out.size))
      have HW6 := Lib.hid (writex64 l0 l1 n1 E.out.2.1 g A1 c1 w5 hg2.out BB.out.2.1 (S1.out.below B5.out) (fun h ad e => by have := Sl_block S1.out h ad e; have := HG.out; omega) k1 (H4.out.below B5'.out) (by rw [E.out.1]; omega) TT5.out)
      go_wp2_with (go_at_call 28; (with_reducible refine HW6.out.mono ?_); rintro e w6 ⟨rfl, hs, hgr, ht⟩; have H6 := Lib.hid hs; have G6 := Lib.hid hgr; have TT6 := Lib.hid ht; clear hs hgr ht)
      have P6 := Lib.hid (P5.out.grown G6.out (fun e => by injection e with e; exact hpg.out e.symm))
      have B6 := Lib.hid (B5.out.grown G6.out B5.out.size (fun k e => by injection e with e; have := HG.out; omega))
      have hp2 := Lib.hid (show 2 ≤ p ∧ w.heap.size ≤ p by have := HP.out; have := HGL4.out; have := hg2.out; have := HG.out; omega)
      have HW7 := Lib.hid (writex64 l0 l2 n2 E.out.2.2 p A2 c2 w6 hp2.out.1 BB.out.2.2 (S2.out.below B6.out) (fun h ad e => by have := Sl_block S2.out h ad e; have := hp2.out.2; omega) k2 P6.out (by rw [E.out.1]; omega) TT6.out)
      go_wp2_with (first | (go_at_call 28; (with_reducible refine HW7.out.mono ?_); rintro e w7 ⟨rfl, hs, hgr, ht⟩; have P7 := Lib.hid hs; have G7 := Lib.hid hgr; have TT7 := Lib.hid ht; clear hs hgr ht; have B7 := Lib.hid (B6.out.grown G7.out B6.out.size (fun k e => by injection e with e; have := hp2.out.2; omega)); have H7 := Lib.hid (H6.out.grown G7.out (fun e => by injection e with e; exact hpg.out e))) | (at_builtin; refine wpList_append_sl rfl (.tmp 74) (.tmp 75) 30 rfl w7.heap.size 5 i0 _ 1 Tryd.underlying30 hi hz0 hz1 hz2 rfl (.slice none 0 0) 0 [] rfl (own_nil _ _ _) A0 n0 c0 (bl l0) rfl M.out.1 (S0.out.below B7.out) (bl_one _) (by unfold maxLen; omega) (by omega) (Nat.le_refl _) ?_; intro v8 w8 hown hgr; rw [Nat.zero_add, List.nil_append] at hown; have O8 := Lib.hid hown; have D8 := Lib.hid (grown_below hgr); clear hown hgr) | (at_builtin; refine wpList_append_sl rfl (.tmp 76) (.tmp 77) 30 rfl w7.heap.size 5 i0 _ 1 Tryd.underlying30 hi hz0 hz1 hz2 rfl v8 n0 (bl l0) rfl O8.out A1 n1 c1 (bl l1) rfl M.out.2.1 ((S1.out.below B7.out).below D8.out) (bl_one _) (by unfold maxLen; omega) (by omega) D8.out.size ?_; intro v9 w9 hown hgr; have O9 := Lib.hid hown; have D9 := Lib.hid (show Below w7.heap.size w7 w9 from D8.out.grown hgr D8.out.size (own_blk O8.out)); clear hown hgr) | (at_builtin; refine wpList_append_sl rfl (.tmp 79) (.tmp 80) 30 rfl w9.heap.size 5 i0 _ 1 Tryd.underlying30 hi hz0 hz1 hz2 rfl (.slice none 0 0) 0 [] rfl (own_nil _ _ _) A0 n0 c0 (bl l0) rfl M.out.1 ((S0.out.below B7.out).below D9.out) (bl_one _) (by unfold maxLen; omega) (by omega) (Nat.le_refl _) ?_; intro v10 w10 hown hgr; rw [Nat.zero_add, List.nil_append] at hown; have O10 := Lib.hid hown; have D10 := Lib.hid (grown_below hgr); clear hown hgr) | (at_builtin; refine wpList_append_sl rfl (.tmp 81) (.tmp 82) 30 rfl w9.heap.size 5 i0 _ 1 Tryd.underlying30 hi hz0 hz1 hz2 rfl v10 n0 (bl l0) rfl O10.out A2 n2 c2 (bl l2) rfl M.out.2.2 (((S2.out.below B7.out).below D9.out).below D10.out) (bl_one _) (by unfold maxLen; omega) (by omega) D10.out.size ?_; intro v11 w11 hown hgr; have O11 := Lib.hid hown; have D11 := Lib.hid (show Below w9.heap.size w9 w11 from D10.out.grown hgr D10.out.size (own_blk O10.out)); clear hown hgr) | (go_at_call 25; (with_reducible refine (which_true _).mono ?_); rintro e w' ⟨rfl, rfl⟩))
      obtain ⟨A9, c9, rfl, hs9, hn9, hl9, -, -⟩ := Sl.own O9.out
      obtain ⟨A11, c11, rfl, hs11, hn11, hl11, -, -⟩ := Sl.own O11.out
      have lt01 : ∀ x ∈ l0 ++ l1, x < 256 := fun x hx => by rcases List.mem_append.1 hx with h | h; exact BB.out.1 x h; exact BB.out.2.1 x h
      have lt02 : ∀ x ∈ l0 ++ l2, x < 256 := fun x hx => by rcases List.mem_append.1 hx with h | h; exact BB.out.1 x h; exact BB.out.2.2 x h
      have X9 := Lib.hid (show Sl w11 A9 (n0 + n1) (bl (l0 ++ l1)) by rw [bl_append]; exact hs9.below D11.out)
      have X11 := Lib.hid (show Sl w11 A11 (n0 + n2) (bl (l0 ++ l2)) by rw [bl_append]; exact hs11)
      have B11 := Lib.hid (show Below w.heap.size w w11 from (B7.out.trans (D9.out.mono B7.out.size)).trans (D11.out.mono (Nat.le_trans B7.out.size D9.out.size)))
      have D711 := Lib.hid (show Below w7.heap.size w7 w11 from D9.out.trans (D11.out.mono D9.out.size))
      have HR12 := Lib.hid (rsum64_any (l0 ++ l1) A9 (n0 + n1) c9 w11 lt01 X9.out hn9 (by omega))
      have HR13 := Lib.hid (fun (wx : World) (h : Below w11.heap.size w11 wx) => rsum64_any (l0 ++ l2) A11 (n0 + n2) c11 wx lt02 (X11.out.below h) hn11 (by omega))
      have H11 := Lib.hid (H7.out.below D711.out)
      have P11 := Lib.hid (P7.out.below D711.out)
      have TT11 := Lib.hid (TT7.out.below D711.out)
      clear hs9 hn9 hl9 hs11 hn11 hl11 lt01 lt02
      go_wp2_with (first | (go_at_call 24; (with_reducible refine HR12.out.mono ?_); rintro e w12 ⟨v12, rfl, hown, hb⟩; have O12 := Lib.hid hown; have D12 := Lib.hid hb; clear hown hb) | (go_at_call 24; (with_reducible refine (HR13.out _ D12.out).mono ?_); rintro e w13 ⟨v13, rfl, hown, hb⟩; have O13 := Lib.hid hown; have D13 := Lib.hid hb; clear hown hb) | (go_at_call 25; (with_reducible refine (which_true _).mono ?_); rintro e w' ⟨rfl, rfl⟩))
      obtain ⟨A12, c12, rfl, hs12, -, -, -, hA12⟩ := Sl.own O12.out
      obtain ⟨A13, c13, rfl, hs13, -, -, -, hA13⟩ := Sl.own O13.out
      have Y13 := Lib.hid (hs12.below D13.out)
      have Z13 := Lib.hid hs13
      have AY := Lib.hid hA12
      have AZ := Lib.hid hA13
      have D1113 := Lib.hid (D12.out.trans (D13.out.mono D12.out.size))
      have H13 := Lib.hid (H11.out.below D1113.out)
      have P13 := Lib.hid (P11.out.below D1113.out)
      have TT13 := Lib.hid (TT11.out.below D1113.out)
      have B13 := Lib.hid (B11.out.trans (D1113.out.mono B11.out.size))
      have HL01 := Lib.hid (show (l0 ++ l1).length ≤ 1048576 by rw [List.length_append, E.out.1, E.out.2.1]; omega)
      have HL02 := Lib.hid (show (l0 ++ l2).length ≤ 1048576 by rw [List.length_append, E.out.1, E.out.2.2]; omega)
      have HGP := Lib.hid (show g < w11.heap.size ∧ p < w11.heap.size from by obtain ⟨_, _, hb1, _⟩ := H11.out; obtain ⟨_, _, hb2, _⟩ := P11.out; exact ⟨hb1.lt, hb2.lt⟩)
      clear hs12 hs13 hA12 hA13
      have HS14 := Lib.hid (hsum64_any (l0 ++ l1) g w13 HL01.out H13.out TT13.out)
      go_wp2_with (go_at_call 30; (with_reducible refine HS14.out.mono ?_); rintro e w14 ⟨q14, rfl, hq, hbl, hb⟩; have Q14 := Lib.hid (dg_slot64 hbl); have D14 := Lib.hid hb; clear hq hbl hb)
      have Y14 := Lib.hid (Y13.out.below D14.out)
      have Z14 := Lib.hid (Z13.out.below D14.out)
      have HS15 := Lib.hid (hsum64_any (l0 ++ l2) p w14 HL02.out (P13.out.below D14.out) (TT13.out.below D14.out))
      go_wp2_with (first | (go_at_call 21; (with_reducible refine (samebytes_same (dg true (l0 ++ l1)) _ _ _ _ _ _ _ Q14.out Y14.out).mono ?_); rintro e w' ⟨rfl, rfl⟩) | (go_at_call 30; (with_reducible refine HS15.out.mono ?_); rintro e w15 ⟨q15, rfl, hq, hbl, hb⟩; have Q15 := Lib.hid (dg_slot64 hbl); have D15 := Lib.hid hb; clear hq hbl hb))
      have D1415 := Lib.hid (D14.out.trans (D15.out.mono D14.out.size))
      have Y15 := Lib.hid (Y13.out.below D1415.out)
      have Z15 := Lib.hid (Z13.out.below D1415.out)
      have H15 := Lib.hid (H13.out.below D1415.out)
      have HS16 := Lib.hid (hsum64_any (l0 ++ l1) g w15 HL01.out H15.out (TT13.out.below D1415.out))
      go_wp2_with (first | (go_at_call 21; (with_reducible refine (samebytes_same (dg true (l0 ++ l2)) _ _ _ _ _ _ _ Q15.out Z15.out).mono ?_); rintro e w' ⟨rfl, rfl⟩) | (go_at_call 30; (with_reducible refine HS16.out.mono ?_); rintro e w16 ⟨q16, rfl, hq, hbl, hb⟩; have Q16 := Lib.hid (dg_slot64 hbl); have D16 := Lib.hid hb; clear hq hbl hb))
      have D1316 := Lib.hid (D1415.out.trans (D16.out.mono D1415.out.size))
      have Y16 := Lib.hid (Y13.out.below D1316.out)
      have Z16 := Lib.hid (Z13.out.below D1316.out)
      have H16 := Lib.hid (H13.out.below D1316.out)
      have P16 := Lib.hid (P13.out.below D1316.out)
      have TT16 := Lib.hid (TT13.out.below D1316.out)
      have B16 := Lib.hid (B13.out.trans (D1316.out.mono B13.out.size))
      obtain ⟨ws16, rs16, hb16, hst16⟩ := H16.out
      have HB16 := Lib.hid hb16
      have HT16 := Lib.hid hst16
      clear hb16 hst16
      go_wp2_with (first | (go_at_call 21; (with_reducible refine (samebytes_same (dg true (l0 ++ l1)) _ _ _ _ _ _ _ Q16.out Y16.out).mono ?_); rintro e w' ⟨rfl, rfl⟩) | (go_at_call 33; (with_reducible refine (reset64_any g _ ws16 rs16 HT16.out.wl HT16.out.rl w16 hg2.out HB16.out TT16.out).mono ?_); rintro e w17 ⟨rfl, hbr, hgr⟩; have R17 := Lib.hid hbr; have G17 := Lib.hid hgr; clear hbr hgr))
      have H17 := Lib.hid (show Hs true [] g w17 from ⟨_, _, R17.out, St_nil64⟩)
      have P17 := Lib.hid (P16.out.grown G17.out (fun e => by injection e with e; exact hpg.out e.symm))
      have TT17 := Lib.hid (TT16.out.only hg2.out G17.out)
      have AZ2 := Lib.hid (show ∀ ad, A13 = some ad → ad.block ≠ g from fun ad e => by have := (AZ.out ad e).1; have := D12.out.size; have := HGP.out.1; omega)
      have Z17 := Lib.hid (Z16.out.only G17.out (fun ad e h => by injection h with h; exact AZ2.out ad e h.symm))
      have B17 := Lib.hid (B16.out.grown G17.out B16.out.size (fun k e => by injection e with e; have := HG.out; omega))
      have HW18 := Lib.hid (writex64 [] l2 n2 E.out.2.2 g A2 c2 w17 hg2.out BB.out.2.2 (S2.out.below B17.out) (fun h ad e => by have := Sl_block S2.out h ad e; have := HG.out; omega) k2 H17.out (by simpa using Nat.le_trans h2 (by decide)) TT17.out)
      go_wp2_with (first | (go_at_call 28; (with_reducible refine HW18.out.mono ?_); rintro e w18 ⟨rfl, hs, hgr, ht⟩; have H18 := Lib.hid (show Hs true l2 g w18 from hs); have G18 := Lib.hid hgr; have TT18 := Lib.hid ht; clear hs hgr ht) | (go_at_call 25; (with_reducible refine (which_true _).mono ?_); rintro e w' ⟨rfl, rfl⟩))
      have P18 := Lib.hid (P17.out.grown G18.out (fun e => by injection e with e; exact hpg.out e.symm))
      have Z18 := Lib.hid (Z17.out.only G18.out (fun ad e h => by injection h with h; exact AZ2.out ad e h.symm))
      have B18 := Lib.hid (B17.out.grown G18.out B17.out.size (fun k e => by injection e with e; have := HG.out; omega))
      have HR19 := Lib.hid (rsum64_any l2 A2 n2 c2 w18 BB.out.2.2 (S2.out.below B18.out) M.out.2.2 (by omega))
      go_wp2_with (go_at_call 24; (with_reducible refine HR19.out.mono ?_); rintro e w19 ⟨v19, rfl, hown, hb⟩; have O19 := Lib.hid hown; have D19 := Lib.hid hb; clear hown hb)
      obtain ⟨A19, c19, rfl, hs19, -, -, -, -⟩ := Sl.own O19.out
      have W19 := Lib.hid hs19
      clear hs19
      have HS20 := Lib.hid (hsum64_any l2 g w19 (by rw [E.out.2.2]; omega) (H18.out.below D19.out) (TT18.out.below D19.out))
      go_wp2_with (go_at_call 30; (with_reducible refine HS20.out.mono ?_); rintro e w20 ⟨q20, rfl, hq, hbl, hb⟩; have Q20 := Lib.hid (dg_slot64 hbl); have D20 := Lib.hid hb; clear hq hbl hb)
      have W20 := Lib.hid (W19.out.below D20.out)
      have D1820 := Lib.hid (D19.out.trans (D20.out.mono D19.out.size))
      have HS21 := Lib.hid (hsum64_any (l0 ++ l2) p w20 HL02.out (P18.out.below D1820.out) (TT18.out.below D1820.out))
      go_wp2_with (first | (go_at_call 21; (with_reducible refine (samebytes_same (dg true l2) _ _ _ _ _ _ _ Q20.out W20.out).mono ?_); rintro e w' ⟨rfl, rfl⟩) | (go_at_call 30; (with_reducible refine HS21.out.mono ?_); rintro e w21 ⟨q21, rfl, hq, hbl, hb⟩; have Q21 := Lib.hid (dg_slot64 hbl); have D21 := Lib.hid hb; clear hq hbl hb))
      have D1821 := Lib.hid (D1820.out.trans (D21.out.mono D1820.out.size))
      have Z21 := Lib.hid (Z18.out.below D1821.out)
      have B21 := Lib.hid (B18.out.trans (D1821.out.mono B18.out.size))
      go_wp2_with (first | (go_at_call 21; (with_reducible refine (samebytes_same (dg true (l0 ++ l2)) _ _ _ _ _ _ _ Q21.out Z21.out).mono ?_); rintro e w' ⟨rfl, rfl⟩) | (go_at_call 18; (with_reducible refine (known_any _ (TT18.out.below D1821.out)).mono ?_); rintro e w22 ⟨rfl, hb22⟩))
      go_ret
      exact ⟨rfl, B21.out.trans (hb22.mono B21.out.size)⟩
theorem asks_long {w : World} (A0 A1 A2 : Option Addr) (n0 c0 n1 c1 n2 c2 : Nat) (b : Bool) (h : 600 < n0 ∨ 600 < n1 ∨ 600 < n2) (tab : Tab w) :
    Calls Tryd.prog 8 #[.slice A0 n0 c0, .slice A1 n1 c1, .slice A2 n2 c2, .bool b] w fun e w' => e = .returned (.bool true) ∧ Below w.heap.size w w' := by
  by_cases h0 : 600 < n0
  · go_enter Tryd.func8, Tryd.ntmps8
    go_wp2_with (first | (go_at_call 22; (with_reducible refine (long_yes _ _ _ _ h0).mono ?_); rintro e w' ⟨rfl, rfl⟩) | (go_at_call 18; (with_reducible refine (known_any _ tab).mono ?_); rintro e w5 ⟨rfl, hb5⟩))
    go_ret
    exact ⟨rfl, hb5⟩
  by_cases h1 : 600 < n1
  · have k0 : n0 ≤ 600 := by omega
    go_enter Tryd.func8, Tryd.ntmps8
    go_wp2_with (first | (go_at_call 22; (with_reducible refine (long_no _ _ _ _ k0).mono ?_); rintro e w' ⟨rfl, rfl⟩) | (go_at_call 22; (with_reducible refine (long_yes _ _ _ _ h1).mono ?_); rintro e w' ⟨rfl, rfl⟩) | (go_at_call 18; (with_reducible refine (known_any _ tab).mono ?_); rintro e w5 ⟨rfl, hb5⟩))
    go_ret
    exact ⟨rfl, hb5⟩
  · have h2 : 600 < n2 := by omega
    have k0 : n0 ≤ 600 := by omega
    have k1 : n1 ≤ 600 := by omega
    go_enter Tryd.func8, Tryd.ntmps8
    go_wp2_with (first | (go_at_call 22; (with_reducible refine (long_no _ _ _ _ k0).mono ?_); rintro e w' ⟨rfl, rfl⟩) | (go_at_call 22; (with_reducible refine (long_no _ _ _ _ k1).mono ?_); rintro e w' ⟨rfl, rfl⟩) | (go_at_call 22; (with_reducible refine (long_yes _ _ _ _ h2).mono ?_); rintro e w' ⟨rfl, rfl⟩) | (go_at_call 18; (with_reducible refine (known_any _ tab).mono ?_); rintro e w5 ⟨rfl, hb5⟩))
    go_ret
    exact ⟨rfl, hb5⟩
theorem walk_sha2Asks {w : World} (tab : Tab w) (A0 : Option Addr) (n0 c0 : Nat) (l0 : List Nat) (h0 : BL w A0 n0 c0 l0) (A1 : Option Addr) (n1 c1 : Nat) (l1 : List Nat) (h1 : BL w A1 n1 c1 l1) (A2 : Option Addr) (n2 c2 : Nat) (l2 : List Nat) (h2 : BL w A2 n2 c2 l2) (b : Bool) :
    Calls Tryd.prog 8 #[.slice A0 n0 c0, .slice A1 n1 c1, .slice A2 n2 c2, .bool b] w fun e w' => e = .returned (.bool true) ∧ Below w.heap.size w w' := by
  by_cases h : 600 < n0 ∨ 600 < n1 ∨ 600 < n2
  · exact asks_long A0 A1 A2 n0 c0 n1 c1 n2 c2 b h tab
  · cases b
    · exact asks32_ok l0 l1 l2 A0 A1 A2 n0 c0 n1 c1 n2 c2 h0 h1 h2 (by omega) (by omega) (by omega) tab
    · exact asks64_ok l0 l1 l2 A0 A1 A2 n0 c0 n1 c1 n2 c2 h0 h1 h2 (by omega) (by omega) (by omega) tab
end Go.Proofs.YtfdjphinicafiabDoor.Sh
