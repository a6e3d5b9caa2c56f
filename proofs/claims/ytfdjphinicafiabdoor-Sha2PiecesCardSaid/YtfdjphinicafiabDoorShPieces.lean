/-
  The walk of the law on pieces.
-/
import Derived.Test.YtfdjphinicafiabDoorShAsks
import Derived.Test.YtfdjphinicafiabDoorGnRows
namespace Go.Proofs.YtfdjphinicafiabDoor.Sh
open Go.RowKit Go.Proofs.YtfdjphinicafiabDoor.Gn Go.Deep
set_option linter.unusedVariables false
attribute [local go_sem ↓] Go.wp_at_zero Go.wp_at_succ

def tot : List Rw → Nat
  | [] => 0
  | r :: rs => 1 + r.2.1 + tot rs
def cat : List Rw → List Nat
  | [] => []
  | r :: rs => r.2.2.2 ++ cat rs
theorem tot_append (l k : List Rw) : tot (l ++ k) = tot l + tot k := by
  induction l with
  | nil => simp [tot]
  | cons r l ih => simp only [List.cons_append, tot, ih]; omega
theorem cat_append (l k : List Rw) : cat (l ++ k) = cat l ++ cat k := by
  induction l with
  | nil => simp [cat]
  | cons r l ih => simp only [List.cons_append, cat, ih, List.append_assoc]
theorem tot_take (l : List Rw) (k : Nat) : tot (l.take k) ≤ tot l := by
  have h := congrArg tot (List.take_append_drop k l)
  rw [tot_append] at h
  omega
theorem take_next {l : List Rw} {k : Nat} {r : Rw} (h : l[k]? = some r) : l.take (k + 1) = l.take k ++ [r] := by
  rw [List.take_add_one, h]; rfl
theorem tot_next {l : List Rw} {k : Nat} {r : Rw} (h : l[k]? = some r) : tot (l.take (k + 1)) = tot (l.take k) + 1 + r.2.1 := by
  rw [take_next h, tot_append]; simp only [tot]; omega
theorem cat_next {l : List Rw} {k : Nat} {r : Rw} (h : l[k]? = some r) : cat (l.take (k + 1)) = cat (l.take k) ++ r.2.2.2 := by
  rw [take_next h, cat_append]; simp [cat]
theorem cat_len : ∀ (l : List Rw), (∀ r ∈ l, r.2.2.2.length = r.2.1) → (cat l).length ≤ tot l := by
  intro l
  induction l with
  | nil => intro _; exact Nat.le_refl _
  | cons r l ih =>
    intro h
    have := ih fun x hx => h x (List.mem_cons_of_mem _ hx)
    have h0 := h r List.mem_cons_self
    simp only [cat, tot, List.length_append]
    omega
theorem cat_lt : ∀ (l : List Rw), (∀ r ∈ l, ∀ x ∈ r.2.2.2, x < 256) → ∀ x ∈ cat l, x < 256 := by
  intro l
  induction l with
  | nil => intro _ x hx; cases hx
  | cons r l ih =>
    intro h x hx
    rcases List.mem_append.1 (show x ∈ r.2.2.2 ++ cat l from hx) with h1 | h1
    · exact h r List.mem_cons_self x h1
    · exact ih (fun y hy => h y (List.mem_cons_of_mem _ hy)) x h1
theorem own_only {w w' : World} {base : Nat} {e : TypeId} {v : Value} {n : Nat} {xs : List Value} {g : Nat} (h : w.ownsRow base e 1 v n xs) (hb : w.grownBy w' (some g)) (hg : g < base) : w'.ownsRow base e 1 v n xs := by
  obtain ⟨hl, h2⟩ := h
  refine ⟨hl, ?_⟩
  rcases h2 with h2 | ⟨q, cap, cur, hv, hq, hh, r⟩
  · exact .inl h2
  · exact .inr ⟨q, cap, cur, hv, hq, (Bl.grown (t := e) hh hb (fun e => by injection e with e; omega)), r⟩
def PcRel (w : World) (rows : List Rw) (len : Nat) (t i : Value) (wr : World) : Prop :=
  ∃ k : Nat, k ≤ len ∧ t = .int .i64 ((tot (rows.take k) : Nat) : Int) ∧ i = .int .i64 (k : Int) ∧ w = wr
def PcRow (b : Bool) (rows : List Rw) (g len : Nat) (w1 : World) (v i : Value) (wr : World) : Prop :=
  ∃ k n : Nat, k ≤ len ∧ i = .int .i64 (k : Int) ∧ (cat (rows.take k)).length = n ∧ wr.ownsRow w1.heap.size 5 1 v n (bl (cat (rows.take k))) ∧ Hs b (cat (rows.take k)) g wr ∧ w1.grownBy wr (some g)
theorem countn32 (T : List Nat) (n : Nat) (hn : T.length = n) (g : Nat) (w : World) (h : Hs false T g w) : Calls Tryd.prog 29 #[.pointer (some ⟨g, 0, none⟩)] w fun e w' => e = .returned (.int .i64 (n : Int)) ∧ w = w' := by
  subst hn; exact count32 T g w h
set_option maxRecDepth 100000 in
set_option maxHeartbeats 4000000 in
theorem pieces32_ok {w : World} (rows : List Rw) (A : Option Addr) (len cap : Nat) (h : LL w A len rows) (hlen : len ≤ 9223372036854775807) (tab : Tab w) :
    Calls Tryd.prog 7 #[.slice A len cap, .bool false] w fun e w' => e = .returned (.bool true) ∧ Below w.heap.size w w' := by
  obtain ⟨hsl, hrow⟩ := h
  have hrl : rows.length = len := by have := hsl.1; simpa using this
  have hll : ∀ r ∈ rows, r.2.2.2.length = r.2.1 := fun r hr => by have := (hrow r hr).1.1.1; rwa [bl_length] at this
  have hlt0 : ∀ r ∈ rows, ∀ x ∈ r.2.2.2, x < 256 := fun r hr => (hrow r hr).1.2.2.1
  have TAB := Lib.hid tab
  have S0 := Lib.hid hsl
  have HR := Lib.hid hrow
  have RL := Lib.hid hrl
  have LN := Lib.hid hll
  have LT := Lib.hid hlt0
  have T2 := Lib.hid tab.size
  obtain ⟨i0, hi, hz0, hz1, hz2⟩ := info_parts info1
  clear hsl hrow hrl hll hlt0 tab
  go_enter Tryd.func7, Tryd.ntmps7
  go_wp2_with fail
  go_loopw [5, 6] (fun t i wr => PcRel w rows len t i wr) (fun _ i _ => len - (intOf i).toNat)
  case atStart => exact ⟨0, Nat.zero_le _, rfl, rfl, rfl⟩
  case round =>
    obtain ⟨k, hk, rfl, rfl, rfl⟩ := hrel
    obtain ⟨T, hT⟩ : ∃ T, T = tot (rows.take k) := ⟨_, rfl⟩
    rw [← hT]
    have HT := Lib.hid hT
    clear hT
    by_cases h8 : T ≤ 800
    · by_cases hlt : k < len
      · obtain ⟨ad, rfl, hcell⟩ := S0.out.at_ hlt
        obtain ⟨⟨Ar, m, cr, l⟩, hr⟩ : ∃ r, rows[k]? = some r := ⟨rows[k]'(by have := RL.out; omega), List.getElem?_eq_getElem _⟩
        have hc : w.cell? (ad.add k) = some (.slice Ar m cr) := by rw [hcell, List.getElem?_map, hr]; rfl
        obtain ⟨T', hT'⟩ : ∃ T', T' = T + 1 + m := ⟨_, rfl⟩
        have hm : m ≤ 140737488351232 := (HR.out _ (List.mem_of_getElem? hr)).2
        have eT : IntKind.i64.wrap ((T : Int) + 1 + (m : Int)) = (T' : Int) := by rw [IntKind.wrap_i64]; omega
        have HT' := Lib.hid hT'
        have NX := Lib.hid (tot_next hr)
        clear hT' hm hr hcell
        go_wp2_with fail
        go_roundw
        case rel => exact ⟨k + 1, by omega, by rw [NX.out, HT'.out, HT.out], by go_num, rfl⟩
        case measure => simp [intOf]; omega
      · obtain rfl : k = len := by omega
        have hT8 : tot rows ≤ 800 := by
          have := HT.out
          rw [List.take_of_length_le (by rw [RL.out]; exact Nat.le_refl _)] at this
          omega
        have TOT := Lib.hid hT8
        clear hT8
        go_wp2_with (first | (go_at_call 25; (with_reducible refine (which_false _).mono ?_); rintro e w' ⟨rfl, rfl⟩) | (go_at_call 27; (with_reducible refine (new32_any _ TAB.out).mono ?_); rintro e w1 ⟨g, rfl, hg, hs, hb, ht⟩; have HG := Lib.hid hg; have H1 := Lib.hid hs; have B1 := Lib.hid hb; have T1 := Lib.hid ht; clear hg hs hb ht))
        have hg2 := Lib.hid (show 2 ≤ g by have := T2.out; have := HG.out; omega)
        have HGL := Lib.hid (show g < w1.heap.size by obtain ⟨_, _, hb, _⟩ := H1.out; exact hb.lt)
        have R0 := Lib.hid (show PcRow false rows g k w1 (.slice none 0 0) (.int .i64 0) w1 from ⟨0, 0, Nat.zero_le _, rfl, rfl, own_nil _ _ _, H1.out, World.grownBy.refl _ _⟩)
        go_loopw [9, 10] (fun v i wr => PcRow false rows g k w1 v i wr) (fun _ i _ => k - (intOf i).toNat)
        case atStart => exact R0.out
        case round =>
          obtain ⟨j, n, hj, rfl, hn, hown, hs, hgr⟩ := hrel
          have HN := Lib.hid hn
          have OW := Lib.hid hown
          have HS := Lib.hid hs
          have GR := Lib.hid hgr
          have BW := Lib.hid (B1.out.grown hgr B1.out.size (fun x e => by injection e with e; have := HG.out; omega))
          have TW := Lib.hid (T1.out.only hg2.out hgr)
          have hn8 : n ≤ 800 := by
            have h1 := cat_len (rows.take j) (fun r hr => LN.out r (List.mem_of_mem_take hr))
            have h2 := tot_take rows j
            have h3 := TOT.out
            omega
          clear hn hown hs hgr
          by_cases hlt2 : j < k
          · obtain ⟨ad, rfl, hcell⟩ := S0.out.at_ hlt2
            obtain ⟨⟨Ar, m, cr, l⟩, hr⟩ : ∃ r, rows[j]? = some r := ⟨rows[j]'(by have := RL.out; omega), List.getElem?_eq_getElem _⟩
            have hc0 : w.cell? (ad.add j) = some (.slice Ar m cr) := by rw [hcell, List.getElem?_map, hr]; rfl
            have hc : wr.cell? (ad.add j) = some (.slice Ar m cr) := keepc BW.out hc0
            obtain ⟨⟨s1, -, lt1, nil1, cap1⟩, -⟩ := HR.out _ (List.mem_of_getElem? hr)
            have hlm : l.length = m := LN.out _ (List.mem_of_getElem? hr)
            have CN := Lib.hid (show cat (rows.take (j + 1)) = cat (rows.take j) ++ l from cat_next hr)
            obtain ⟨N', hN'⟩ : ∃ N', N' = n + m := ⟨_, rfl⟩
            have hN8 : N' ≤ 800 := by
              have h1 := cat_len (rows.take (j + 1)) (fun r hr => LN.out r (List.mem_of_mem_take hr))
              have h2 := tot_take rows (j + 1)
              have h3 := TOT.out
              rw [CN.out, List.length_append, HN.out] at h1
              omega
            have HW := Lib.hid (writex32 (cat (rows.take j)) l m hlm g Ar cr wr hg2.out lt1 (s1.below BW.out) (fun h ad e => by have := Sl_block s1 h ad e; have := HG.out; omega) cap1 HS.out (by rw [HN.out]; omega) TW.out)
            have C0 := Lib.hid hc0
            have S1 := Lib.hid s1
            have M1 := Lib.hid nil1
            have HNN := Lib.hid (show (cat (rows.take j) ++ l).length = N' by rw [List.length_append, HN.out, hN']; omega)
            have HN' := Lib.hid hN'
            clear hc0 s1 nil1 lt1 cap1 hcell hlm hr hN'
            go_wp2_with (first | (go_at_call 28; (with_reducible refine HW.out.mono ?_); rintro e w2 ⟨rfl, hs2, hgr2, -⟩; have H2 := Lib.hid hs2; have G2 := Lib.hid hgr2; have BW2 := Lib.hid (BW.out.grown hgr2 BW.out.size (fun x e => by injection e with e; have := HG.out; omega)); have hc2 : w2.cell? (ad.add j) = some (.slice Ar m cr) := keepc BW2.out C0.out; clear hs2 hgr2) | (at_builtin; refine wpList_append_sl rfl (.tmp 59) (.tmp 63) 30 rfl w1.heap.size 5 i0 _ 1 Tryd.underlying30 hi hz0 hz1 hz2 rfl _ n (bl (cat (rows.take j))) rfl (own_only OW.out G2.out HGL.out) Ar m cr (bl l) rfl M1.out (S1.out.below BW2.out) (bl_one _) (by have := HN'.out; unfold maxLen; omega) (by have := HN'.out; omega) (Nat.le_trans GR.out.size G2.out.size) ?_; intro v3 w3 hown3 hgr3; have D3 := Lib.hid ((Below.refl w1.heap.size w2).grown hgr3 (Nat.le_trans GR.out.size G2.out.size) (own_blk OW.out)); have H3 := Lib.hid (H2.out.grown hgr3 (fun e => by have := own_blk OW.out _ e; have := HGL.out; omega)); rw [← bl_append, ← HN'.out] at hown3; have O3 := Lib.hid hown3; obtain ⟨A3, c3, rfl, -⟩ := Sl.own hown3; have HC3 := Lib.hid (countn32 _ N' HNN.out g w3 H3.out); clear hown3 hgr3) | (go_at_call 29; (with_reducible refine HC3.out.mono ?_); rintro e w' ⟨rfl, rfl⟩))
            go_roundw
            case rel => exact ⟨j + 1, N', by omega, by go_num, by rw [CN.out]; exact HNN.out, by rw [CN.out]; exact O3.out, by rw [CN.out]; exact H3.out, only_then (only_trans GR.out G2.out) D3.out⟩
            case measure => simp [intOf]; omega
          · obtain rfl : j = k := by omega
            obtain ⟨L, hL⟩ : ∃ L, L = cat (rows.take j) := ⟨_, rfl⟩
            have hLlt : ∀ x ∈ L, x < 256 := by rw [hL]; exact cat_lt _ (fun r hr => LT.out r (List.mem_of_mem_take hr))
            obtain ⟨A9, c9, rfl, hs9, hn9, hl9, -, -⟩ := Sl.own OW.out
            rw [← hL] at hs9
            have HSUM := Lib.hid (lsum32 L A9 n c9 (by rw [hL]; exact HN.out) wr hLlt hs9 hl9 (by omega) TW.out)
            have H9 := Lib.hid (show Hs false L g wr by rw [hL]; exact HS.out)
            have HLN := Lib.hid (show L.length ≤ 1048576 by rw [hL, HN.out]; omega)
            clear hL hLlt hs9 hn9
            go_wp2_with (go_at_call 23; (with_reducible refine HSUM.out.mono ?_); rintro e w4 ⟨q, rfl, hq, hbl, hb4⟩; have D4 := Lib.hid hb4; have K4 := Lib.hid (dg_slot32 hbl); clear hq hbl hb4)
            have B4 := Lib.hid (BW.out.trans (D4.out.mono BW.out.size))
            have H4 := Lib.hid (H9.out.below D4.out)
            have T4 := Lib.hid (TW.out.below D4.out)
            have HS5 := Lib.hid (hsum32_any L g w4 HLN.out H4.out T4.out)
            go_wp2_with (first | (go_at_call 30; (with_reducible refine HS5.out.mono ?_); rintro e w5 ⟨q5, rfl, hq, hbl, hb⟩; have Q5 := Lib.hid (dg_slot32 hbl); have D5 := Lib.hid hb; have K5 := Lib.hid (K4.out.below hb); have H5 := Lib.hid (H4.out.below hb); have T5 := Lib.hid (T4.out.below hb); have B5 := Lib.hid (B4.out.trans (hb.mono B4.out.size)); clear hq hbl hb) | (go_at_call 21; (with_reducible refine (samebytes_same (dg false L) _ _ _ _ _ _ _ Q5.out K5.out).mono ?_); rintro e w' ⟨rfl, rfl⟩) | (go_at_call 31; (with_reducible refine (hsize32 L g _ H5.out).mono ?_); rintro e w' ⟨rfl, rfl⟩) | (go_at_call 25; (with_reducible refine (which_false _).mono ?_); rintro e w' ⟨rfl, rfl⟩) | (go_at_call 18; (with_reducible refine (known_any _ T5.out).mono ?_); rintro e w6 ⟨rfl, hb6⟩))
            go_ret
            exact ⟨rfl, B5.out.trans (hb6.mono B5.out.size)⟩
    · by_cases hlt : k < len
      · go_wp2_with (go_at_call 18; (with_reducible refine (known_any _ TAB.out).mono ?_); rintro e w6 ⟨rfl, hb6⟩)
        go_ret
        exact ⟨rfl, hb6⟩
      · go_wp2_with (go_at_call 18; (with_reducible refine (known_any _ TAB.out).mono ?_); rintro e w6 ⟨rfl, hb6⟩)
        go_ret
        exact ⟨rfl, hb6⟩
theorem countn64 (T : List Nat) (n : Nat) (hn : T.length = n) (g : Nat) (w : World) (h : Hs true T g w) : Calls Tryd.prog 29 #[.pointer (some ⟨g, 0, none⟩)] w fun e w' => e = .returned (.int .i64 (n : Int)) ∧ w = w' := by
  subst hn; exact count64 T g w h
set_option maxRecDepth 100000 in
set_option maxHeartbeats 4000000 in
theorem pieces64_ok {w : World} (rows : List Rw) (A : Option Addr) (len cap : Nat) (h : LL w A len rows) (hlen : len ≤ 9223372036854775807) (tab : Tab w) :
    Calls Tryd.prog 7 #[.slice A len cap, .bool true] w fun e w' => e = .returned (.bool true) ∧ Below w.heap.size w w' := by
  obtain ⟨hsl, hrow⟩ := h
  have hrl : rows.length = len := by have := hsl.1; simpa using this
  have hll : ∀ r ∈ rows, r.2.2.2.length = r.2.1 := fun r hr => by have := (hrow r hr).1.1.1; rwa [bl_length] at this
  have hlt0 : ∀ r ∈ rows, ∀ x ∈ r.2.2.2, x < 256 := fun r hr => (hrow r hr).1.2.2.1
  have TAB := Lib.hid tab
  have S0 := Lib.hid hsl
  have HR := Lib.hid hrow
  have RL := Lib.hid hrl
  have LN := Lib.hid hll
  have LT := Lib.hid hlt0
  have T2 := Lib.hid tab.size
  obtain ⟨i0, hi, hz0, hz1, hz2⟩ := info_parts info1
  clear hsl hrow hrl hll hlt0 tab
  go_enter Tryd.func7, Tryd.ntmps7
  go_wp2_with fail
  go_loopw [5, 6] (fun t i wr => PcRel w rows len t i wr) (fun _ i _ => len - (intOf i).toNat)
  case atStart => exact ⟨0, Nat.zero_le _, rfl, rfl, rfl⟩
  case round =>
    obtain ⟨k, hk, rfl, rfl, rfl⟩ := hrel
    obtain ⟨T, hT⟩ : ∃ T, T = tot (rows.take k) := ⟨_, rfl⟩
    rw [← hT]
    have HT := Lib.hid hT
    clear hT
    by_cases h8 : T ≤ 800
    · by_cases hlt : k < len
      · obtain ⟨ad, rfl, hcell⟩ := S0.out.at_ hlt
        obtain ⟨⟨Ar, m, cr, l⟩, hr⟩ : ∃ r, rows[k]? = some r := ⟨rows[k]'(by have := RL.out; omega), List.getElem?_eq_getElem _⟩
        have hc : w.cell? (ad.add k) = some (.slice Ar m cr) := by rw [hcell, List.getElem?_map, hr]; rfl
        obtain ⟨T', hT'⟩ : ∃ T', T' = T + 1 + m := ⟨_, rfl⟩
        have hm : m ≤ 140737488351232 := (HR.out _ (List.mem_of_getElem? hr)).2
        have eT : IntKind.i64.wrap ((T : Int) + 1 + (m : Int)) = (T' : Int) := by rw [IntKind.wrap_i64]; omega
        have HT' := Lib.hid hT'
        have NX := Lib.hid (tot_next hr)
        clear hT' hm hr hcell
        go_wp2_with fail
        go_roundw
        case rel => exact ⟨k + 1, by omega, by rw [NX.out, HT'.out, HT.out], by go_num, rfl⟩
        case measure => simp [intOf]; omega
      · obtain rfl : k = len := by omega
        have hT8 : tot rows ≤ 800 := by
          have := HT.out
          rw [List.take_of_length_le (by rw [RL.out]; exact Nat.le_refl _)] at this
          omega
        have TOT := Lib.hid hT8
        clear hT8
        go_wp2_with (first | (go_at_call 25; (with_reducible refine (which_true _).mono ?_); rintro e w' ⟨rfl, rfl⟩) | (go_at_call 27; (with_reducible refine (new64_any _ TAB.out).mono ?_); rintro e w1 ⟨g, rfl, hg, hs, hb, ht⟩; have HG := Lib.hid hg; have H1 := Lib.hid hs; have B1 := Lib.hid hb; have T1 := Lib.hid ht; clear hg hs hb ht))
        have hg2 := Lib.hid (show 2 ≤ g by have := T2.out; have := HG.out; omega)
        have HGL := Lib.hid (show g < w1.heap.size by obtain ⟨_, _, hb, _⟩ := H1.out; exact hb.lt)
        have R0 := Lib.hid (show PcRow true rows g k w1 (.slice none 0 0) (.int .i64 0) w1 from ⟨0, 0, Nat.zero_le _, rfl, rfl, own_nil _ _ _, H1.out, World.grownBy.refl _ _⟩)
        go_loopw [9, 10] (fun v i wr => PcRow true rows g k w1 v i wr) (fun _ i _ => k - (intOf i).toNat)
        case atStart => exact R0.out
        case round =>
          obtain ⟨j, n, hj, rfl, hn, hown, hs, hgr⟩ := hrel
          have HN := Lib.hid hn
          have OW := Lib.hid hown
          have HS := Lib.hid hs
          have GR := Lib.hid hgr
          have BW := Lib.hid (B1.out.grown hgr B1.out.size (fun x e => by injection e with e; have := HG.out; omega))
          have TW := Lib.hid (T1.out.only hg2.out hgr)
          have hn8 : n ≤ 800 := by
            have h1 := cat_len (rows.take j) (fun r hr => LN.out r (List.mem_of_mem_take hr))
            have h2 := tot_take rows j
            have h3 := TOT.out
            omega
          clear hn hown hs hgr
          by_cases hlt2 : j < k
          · obtain ⟨ad, rfl, hcell⟩ := S0.out.at_ hlt2
            obtain ⟨⟨Ar, m, cr, l⟩, hr⟩ : ∃ r, rows[j]? = some r := ⟨rows[j]'(by have := RL.out; omega), List.getElem?_eq_getElem _⟩
            have hc0 : w.cell? (ad.add j) = some (.slice Ar m cr) := by rw [hcell, List.getElem?_map, hr]; rfl
            have hc : wr.cell? (ad.add j) = some (.slice Ar m cr) := keepc BW.out hc0
            obtain ⟨⟨s1, -, lt1, nil1, cap1⟩, -⟩ := HR.out _ (List.mem_of_getElem? hr)
            have hlm : l.length = m := LN.out _ (List.mem_of_getElem? hr)
            have CN := Lib.hid (show cat (rows.take (j + 1)) = cat (rows.take j) ++ l from cat_next hr)
            obtain ⟨N', hN'⟩ : ∃ N', N' = n + m := ⟨_, rfl⟩
            have hN8 : N' ≤ 800 := by
              have h1 := cat_len (rows.take (j + 1)) (fun r hr => LN.out r (List.mem_of_mem_take hr))
              have h2 := tot_take rows (j + 1)
              have h3 := TOT.out
              rw [CN.out, List.length_append, HN.out] at h1
              omega
            have HW := Lib.hid (writex64 (cat (rows.take j)) l m hlm g Ar cr wr hg2.out lt1 (s1.below BW.out) (fun h ad e => by have := Sl_block s1 h ad e; have := HG.out; omega) cap1 HS.out (by rw [HN.out]; omega) TW.out)
            have C0 := Lib.hid hc0
            have S1 := Lib.hid s1
            have M1 := Lib.hid nil1
            have HNN := Lib.hid (show (cat (rows.take j) ++ l).length = N' by rw [List.length_append, HN.out, hN']; omega)
            have HN' := Lib.hid hN'
            clear hc0 s1 nil1 lt1 cap1 hcell hlm hr hN'
            go_wp2_with (first | (go_at_call 28; (with_reducible refine HW.out.mono ?_); rintro e w2 ⟨rfl, hs2, hgr2, -⟩; have H2 := Lib.hid hs2; have G2 := Lib.hid hgr2; have BW2 := Lib.hid (BW.out.grown hgr2 BW.out.size (fun x e => by injection e with e; have := HG.out; omega)); have hc2 : w2.cell? (ad.add j) = some (.slice Ar m cr) := keepc BW2.out C0.out; clear hs2 hgr2) | (at_builtin; refine wpList_append_sl rfl (.tmp 59) (.tmp 63) 30 rfl w1.heap.size 5 i0 _ 1 Tryd.underlying30 hi hz0 hz1 hz2 rfl _ n (bl (cat (rows.take j))) rfl (own_only OW.out G2.out HGL.out) Ar m cr (bl l) rfl M1.out (S1.out.below BW2.out) (bl_one _) (by have := HN'.out; unfold maxLen; omega) (by have := HN'.out; omega) (Nat.le_trans GR.out.size G2.out.size) ?_; intro v3 w3 hown3 hgr3; have D3 := Lib.hid ((Below.refl w1.heap.size w2).grown hgr3 (Nat.le_trans GR.out.size G2.out.size) (own_blk OW.out)); have H3 := Lib.hid (H2.out.grown hgr3 (fun e => by have := own_blk OW.out _ e; have := HGL.out; omega)); rw [← bl_append, ← HN'.out] at hown3; have O3 := Lib.hid hown3; obtain ⟨A3, c3, rfl, -⟩ := Sl.own hown3; have HC3 := Lib.hid (countn64 _ N' HNN.out g w3 H3.out); clear hown3 hgr3) | (go_at_call 29; (with_reducible refine HC3.out.mono ?_); rintro e w' ⟨rfl, rfl⟩))
            go_roundw
            case rel => exact ⟨j + 1, N', by omega, by go_num, by rw [CN.out]; exact HNN.out, by rw [CN.out]; exact O3.out, by rw [CN.out]; exact H3.out, only_then (only_trans GR.out G2.out) D3.out⟩
            case measure => simp [intOf]; omega
          · obtain rfl : j = k := by omega
            obtain ⟨L, hL⟩ : ∃ L, L = cat (rows.take j) := ⟨_, rfl⟩
            have hLlt : ∀ x ∈ L, x < 256 := by rw [hL]; exact cat_lt _ (fun r hr => LT.out r (List.mem_of_mem_take hr))
            obtain ⟨A9, c9, rfl, hs9, hn9, hl9, -, -⟩ := Sl.own OW.out
            rw [← hL] at hs9
            have HSUM := Lib.hid (lsum64 L A9 n c9 (by rw [hL]; exact HN.out) wr hLlt hs9 hl9 (by omega) TW.out)
            have H9 := Lib.hid (show Hs true L g wr by rw [hL]; exact HS.out)
            have HLN := Lib.hid (show L.length ≤ 1048576 by rw [hL, HN.out]; omega)
            clear hL hLlt hs9 hn9
            go_wp2_with (go_at_call 23; (with_reducible refine HSUM.out.mono ?_); rintro e w4 ⟨q, rfl, hq, hbl, hb4⟩; have D4 := Lib.hid hb4; have K4 := Lib.hid (dg_slot64 hbl); clear hq hbl hb4)
            have B4 := Lib.hid (BW.out.trans (D4.out.mono BW.out.size))
            have H4 := Lib.hid (H9.out.below D4.out)
            have T4 := Lib.hid (TW.out.below D4.out)
            have HS5 := Lib.hid (hsum64_any L g w4 HLN.out H4.out T4.out)
            go_wp2_with (first | (go_at_call 30; (with_reducible refine HS5.out.mono ?_); rintro e w5 ⟨q5, rfl, hq, hbl, hb⟩; have Q5 := Lib.hid (dg_slot64 hbl); have D5 := Lib.hid hb; have K5 := Lib.hid (K4.out.below hb); have H5 := Lib.hid (H4.out.below hb); have T5 := Lib.hid (T4.out.below hb); have B5 := Lib.hid (B4.out.trans (hb.mono B4.out.size)); clear hq hbl hb) | (go_at_call 21; (with_reducible refine (samebytes_same (dg true L) _ _ _ _ _ _ _ Q5.out K5.out).mono ?_); rintro e w' ⟨rfl, rfl⟩) | (go_at_call 31; (with_reducible refine (hsize64 L g _ H5.out).mono ?_); rintro e w' ⟨rfl, rfl⟩) | (go_at_call 25; (with_reducible refine (which_true _).mono ?_); rintro e w' ⟨rfl, rfl⟩) | (go_at_call 18; (with_reducible refine (known_any _ T5.out).mono ?_); rintro e w6 ⟨rfl, hb6⟩))
            go_ret
            exact ⟨rfl, B5.out.trans (hb6.mono B5.out.size)⟩
    · by_cases hlt : k < len
      · go_wp2_with (go_at_call 18; (with_reducible refine (known_any _ TAB.out).mono ?_); rintro e w6 ⟨rfl, hb6⟩)
        go_ret
        exact ⟨rfl, hb6⟩
      · go_wp2_with (go_at_call 18; (with_reducible refine (known_any _ TAB.out).mono ?_); rintro e w6 ⟨rfl, hb6⟩)
        go_ret
        exact ⟨rfl, hb6⟩
theorem walk_sha2Pieces {w : World} (tab : Tab w) (A : Option Addr) (n c : Nat) (rows : List Rw) (h : LL w A n rows ∧ n ≤ 9223372036854775807) (b : Bool) :
    Calls Tryd.prog 7 #[.slice A n c, .bool b] w fun e w' => e = .returned (.bool true) ∧ Below w.heap.size w w' := by
  cases b
  · exact pieces32_ok rows A n c h.1 h.2 tab
  · exact pieces64_ok rows A n c h.1 h.2 tab
end Go.Proofs.YtfdjphinicafiabDoor.Sh
