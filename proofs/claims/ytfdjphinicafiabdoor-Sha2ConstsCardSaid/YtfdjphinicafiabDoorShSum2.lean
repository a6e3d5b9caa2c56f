/-
  A digest of whatever row of bytes, an empty one wherever it lies.
-/
import Derived.Test.YtfdjphinicafiabDoorShSum
namespace Go.Proofs.YtfdjphinicafiabDoor.Sh
open Go.RowKit Go.Proofs.YtfdjphinicafiabDoor.Gn Go.Deep
set_option linter.unusedVariables false
attribute [local go_sem ↓] Go.wp_at_zero Go.wp_at_succ

theorem Sl_block {w : World} {A : Option Addr} {n : Nat} {xs : List Value} (h : Sl w A n xs) (h0 : 0 < n) : ∀ ad, A = some ad → ad.block < w.heap.size := by
  rintro ad rfl
  obtain ⟨ad', e, hc⟩ := h.at_ h0
  cases e
  have h1 : 0 < xs.length := by rw [h.1]; exact h0
  rw [List.getElem?_eq_getElem h1] at hc
  have := cell_lt hc
  rwa [add_block] at this
theorem put32_none (g c : Nat) (A : Option Addr) (w : World) (b0 : w.cell? ⟨g, 0, none⟩ = some (.int .i64 256)) :
    Calls Tryd.prog 47 #[.pointer (some ⟨g, 0, none⟩), .slice A 0 c] w fun e w' => e = .returned (.tuple #[]) ∧ w = w' := by
  go_enter Tryd.func47, Tryd.ntmps47
  go_wp2_with (go_at_call 41; refine (block_256 _).mono ?_; rintro e w' ⟨rfl, rfl⟩)
  go_loop [1] (fun b => b = .slice A 0 c) (fun _ => 0)
  case atStart => rfl
  case round =>
    obtain rfl := hrel
    go_wp2
    go_end0
    exact ⟨rfl, rfl⟩
theorem write32_none (T : List Nat) (g : Nat) (A : Option Addr) (c : Nat) (w : World) (h : Hs false T g w) (hT : T.length ≤ 1048576) :
    Calls Tryd.prog 28 #[.pointer (some ⟨g, 0, none⟩), .slice A 0 c] w fun e w' => e = .returned (.int .i64 0) ∧ w = w' := by
  obtain ⟨ws, rs, hb, hst⟩ := h
  have b0 : w.cell? ⟨g, 0, none⟩ = some (.int .i64 256) := hb.cell_ rfl
  have b1 : w.cell? ⟨g, 1, none⟩ = some (.int .i64 (T.length : Int)) := hb.cell_ rfl
  have t1 : decide ((1048576 : Int) - (T.length : Int) < 0) = false := decide_eq_false (by omega)
  clear hb hst
  go_enter Tryd.func28, Tryd.ntmps28
  go_wp2_with (first | (go_at_call 46; refine (none32 g _ b0).mono ?_; rintro e w' ⟨rfl, rfl⟩) | (go_at_call 47; refine (put32_none g _ _ _ b0).mono ?_; rintro e w' ⟨rfl, rfl⟩))
  go_ret
  exact ⟨rfl, rfl⟩
/-- A write of whatever row. -/
theorem writex32 (T l : List Nat) (n : Nat) (hn : l.length = n) (g : Nat) (A : Option Addr) (c : Nat) (w : World) (hg : 2 ≤ g) (hl : ∀ x ∈ l, x < 256) (hsl : Sl w A n (bl l)) (hA : 0 < n → ∀ ad, A = some ad → ad.block ≠ g) (hlc : n ≤ c) (h : Hs false T g w) (hmax : T.length + n ≤ 1048576) (tab : Tab w) :
    Calls Tryd.prog 28 #[.pointer (some ⟨g, 0, none⟩), .slice A n c] w
      fun e w' => e = .returned (.int .i64 0) ∧ Hs false (T ++ l) g w' ∧ w.grownBy w' (some g) ∧ Tab w' := by
  subst hn
  rcases Nat.eq_zero_or_pos l.length with h0 | h0
  · have hl0 : l = [] := List.length_eq_zero_iff.1 h0
    subst hl0
    exact (write32_none T g A c w h (by simpa using hmax)).mono fun e w' ⟨h1, h2⟩ => by subst h2; exact ⟨h1, by rw [List.append_nil]; exact h, World.grownBy.refl _ _, tab⟩
  · exact write32_any T l g A c w hg hl hsl (hA h0) hlc h hmax tab
theorem sumx32 (l : List Nat) (n : Nat) (hn : l.length = n) (A : Option Addr) (c : Nat) (w : World) (hl : ∀ x ∈ l, x < 256) (hsl : Sl w A n (bl l)) (hlc : n ≤ c) (hmax : n ≤ 1048576) (tab : Tab w) :
    Calls Tryd.prog 52 #[.slice A n c, .int .i64 256] w
      fun e w' => ∃ q, e = .returned (.tuple #[.slice (some ⟨q, 0, none⟩) 32 32, .int .i64 0]) ∧ w.heap.size ≤ q ∧ Bl w' q 5 (bl (dg false l)).toArray ∧ Below w.heap.size w w' := by
  have TAB := Lib.hid tab
  have HL := Lib.hid hl
  have HSL := Lib.hid hsl
  have HN := Lib.hid hn
  have h2 := Lib.hid tab.size
  clear tab hl hsl hn
  go_enter Tryd.func52, Tryd.ntmps52
  go_wp2_with (go_at_call 27; refine (new32_any _ TAB.out).mono ?_; rintro e w1 ⟨g, rfl, hg, hs, hb, ht⟩; have HG := Lib.hid hg; have H1 := Lib.hid hs; have HB := Lib.hid hb; have T1 := Lib.hid ht; clear hg hs hb ht)
  go_wp2_with (go_at_call 28; refine (writex32 [] l n HN.out g A c _ (by have := h2.out; have := HG.out; omega) HL.out (HSL.out.below HB.out) (fun h0 ad h => by have := Sl_block HSL.out h0 ad h; have := HG.out; omega) hlc H1.out (by simpa using hmax) T1.out).mono ?_; rintro e w2 ⟨rfl, hs2, hg2, ht2⟩; have H2 := Lib.hid (show Hs false l g w2 from hs2); have G2 := Lib.hid hg2; have T2 := Lib.hid ht2; clear hs2 hg2 ht2)
  go_wp2_with (go_at_call 30; refine (hsum32_any l g _ (by rw [HN.out]; exact hmax) H2.out T2.out).mono ?_; rintro e w3 ⟨q, rfl, hq, hbl, hb3⟩; have HQ := Lib.hid hq; have HBL := Lib.hid hbl; have HB3 := Lib.hid hb3; clear hq hbl hb3)
  go_ret2
  have hb2 : Below w.heap.size w w2 := HB.out.grown G2.out HB.out.size (fun k e => by injection e with e; have := HG.out; omega)
  exact ⟨q, rfl, by have := hb2.size; have := HQ.out; omega, HBL.out, hb2.trans (HB3.out.mono hb2.size)⟩
theorem Sumx256 (l : List Nat) (n : Nat) (hn : l.length = n) (A : Option Addr) (c : Nat) (w : World) (hl : ∀ x ∈ l, x < 256) (hsl : Sl w A n (bl l)) (hlc : n ≤ c) (hmax : n ≤ 1048576) (tab : Tab w) :
    Calls Tryd.prog 39 #[.slice A n c] w
      fun e w' => ∃ q, e = .returned (.tuple #[.slice (some ⟨q, 0, none⟩) 32 32, .int .i64 0]) ∧ w.heap.size ≤ q ∧ Bl w' q 5 (bl (dg false l)).toArray ∧ Below w.heap.size w w' := by
  have HC := Lib.hid (sumx32 l n hn A c w hl hsl hlc hmax tab)
  clear hn hl hsl tab
  go_enter Tryd.func39, Tryd.ntmps39
  go_wp2_with (go_at_call 52; (with_reducible refine HC.out.mono ?_); rintro e w1 ⟨q, rfl, hq, hbl, hb⟩)
  go_ret2
  exact ⟨q, rfl, hq, hbl, hb⟩
theorem put64_none (g c : Nat) (A : Option Addr) (w : World) (b0 : w.cell? ⟨g, 0, none⟩ = some (.int .i64 512)) :
    Calls Tryd.prog 47 #[.pointer (some ⟨g, 0, none⟩), .slice A 0 c] w fun e w' => e = .returned (.tuple #[]) ∧ w = w' := by
  go_enter Tryd.func47, Tryd.ntmps47
  go_wp2_with (go_at_call 41; refine (block_512 _).mono ?_; rintro e w' ⟨rfl, rfl⟩)
  go_loop [1] (fun b => b = .slice A 0 c) (fun _ => 0)
  case atStart => rfl
  case round =>
    obtain rfl := hrel
    go_wp2
    go_end0
    exact ⟨rfl, rfl⟩
theorem write64_none (T : List Nat) (g : Nat) (A : Option Addr) (c : Nat) (w : World) (h : Hs true T g w) (hT : T.length ≤ 1048576) :
    Calls Tryd.prog 28 #[.pointer (some ⟨g, 0, none⟩), .slice A 0 c] w fun e w' => e = .returned (.int .i64 0) ∧ w = w' := by
  obtain ⟨ws, rs, hb, hst⟩ := h
  have b0 : w.cell? ⟨g, 0, none⟩ = some (.int .i64 512) := hb.cell_ rfl
  have b1 : w.cell? ⟨g, 1, none⟩ = some (.int .i64 (T.length : Int)) := hb.cell_ rfl
  have t1 : decide ((1048576 : Int) - (T.length : Int) < 0) = false := decide_eq_false (by omega)
  clear hb hst
  go_enter Tryd.func28, Tryd.ntmps28
  go_wp2_with (first | (go_at_call 46; refine (none64 g _ b0).mono ?_; rintro e w' ⟨rfl, rfl⟩) | (go_at_call 47; refine (put64_none g _ _ _ b0).mono ?_; rintro e w' ⟨rfl, rfl⟩))
  go_ret
  exact ⟨rfl, rfl⟩
/-- A write of whatever row. -/
theorem writex64 (T l : List Nat) (n : Nat) (hn : l.length = n) (g : Nat) (A : Option Addr) (c : Nat) (w : World) (hg : 2 ≤ g) (hl : ∀ x ∈ l, x < 256) (hsl : Sl w A n (bl l)) (hA : 0 < n → ∀ ad, A = some ad → ad.block ≠ g) (hlc : n ≤ c) (h : Hs true T g w) (hmax : T.length + n ≤ 1048576) (tab : Tab w) :
    Calls Tryd.prog 28 #[.pointer (some ⟨g, 0, none⟩), .slice A n c] w
      fun e w' => e = .returned (.int .i64 0) ∧ Hs true (T ++ l) g w' ∧ w.grownBy w' (some g) ∧ Tab w' := by
  subst hn
  rcases Nat.eq_zero_or_pos l.length with h0 | h0
  · have hl0 : l = [] := List.length_eq_zero_iff.1 h0
    subst hl0
    exact (write64_none T g A c w h (by simpa using hmax)).mono fun e w' ⟨h1, h2⟩ => by subst h2; exact ⟨h1, by rw [List.append_nil]; exact h, World.grownBy.refl _ _, tab⟩
  · exact write64_any T l g A c w hg hl hsl (hA h0) hlc h hmax tab
theorem sumx64 (l : List Nat) (n : Nat) (hn : l.length = n) (A : Option Addr) (c : Nat) (w : World) (hl : ∀ x ∈ l, x < 256) (hsl : Sl w A n (bl l)) (hlc : n ≤ c) (hmax : n ≤ 1048576) (tab : Tab w) :
    Calls Tryd.prog 52 #[.slice A n c, .int .i64 512] w
      fun e w' => ∃ q, e = .returned (.tuple #[.slice (some ⟨q, 0, none⟩) 64 64, .int .i64 0]) ∧ w.heap.size ≤ q ∧ Bl w' q 5 (bl (dg true l)).toArray ∧ Below w.heap.size w w' := by
  have TAB := Lib.hid tab
  have HL := Lib.hid hl
  have HSL := Lib.hid hsl
  have HN := Lib.hid hn
  have h2 := Lib.hid tab.size
  clear tab hl hsl hn
  go_enter Tryd.func52, Tryd.ntmps52
  go_wp2_with (go_at_call 27; refine (new64_any _ TAB.out).mono ?_; rintro e w1 ⟨g, rfl, hg, hs, hb, ht⟩; have HG := Lib.hid hg; have H1 := Lib.hid hs; have HB := Lib.hid hb; have T1 := Lib.hid ht; clear hg hs hb ht)
  go_wp2_with (go_at_call 28; refine (writex64 [] l n HN.out g A c _ (by have := h2.out; have := HG.out; omega) HL.out (HSL.out.below HB.out) (fun h0 ad h => by have := Sl_block HSL.out h0 ad h; have := HG.out; omega) hlc H1.out (by simpa using hmax) T1.out).mono ?_; rintro e w2 ⟨rfl, hs2, hg2, ht2⟩; have H2 := Lib.hid (show Hs true l g w2 from hs2); have G2 := Lib.hid hg2; have T2 := Lib.hid ht2; clear hs2 hg2 ht2)
  go_wp2_with (go_at_call 30; refine (hsum64_any l g _ (by rw [HN.out]; exact hmax) H2.out T2.out).mono ?_; rintro e w3 ⟨q, rfl, hq, hbl, hb3⟩; have HQ := Lib.hid hq; have HBL := Lib.hid hbl; have HB3 := Lib.hid hb3; clear hq hbl hb3)
  go_ret2
  have hb2 : Below w.heap.size w w2 := HB.out.grown G2.out HB.out.size (fun k e => by injection e with e; have := HG.out; omega)
  exact ⟨q, rfl, by have := hb2.size; have := HQ.out; omega, HBL.out, hb2.trans (HB3.out.mono hb2.size)⟩
theorem Sumx512 (l : List Nat) (n : Nat) (hn : l.length = n) (A : Option Addr) (c : Nat) (w : World) (hl : ∀ x ∈ l, x < 256) (hsl : Sl w A n (bl l)) (hlc : n ≤ c) (hmax : n ≤ 1048576) (tab : Tab w) :
    Calls Tryd.prog 42 #[.slice A n c] w
      fun e w' => ∃ q, e = .returned (.tuple #[.slice (some ⟨q, 0, none⟩) 64 64, .int .i64 0]) ∧ w.heap.size ≤ q ∧ Bl w' q 5 (bl (dg true l)).toArray ∧ Below w.heap.size w w' := by
  have HC := Lib.hid (sumx64 l n hn A c w hl hsl hlc hmax tab)
  clear hn hl hsl tab
  go_enter Tryd.func42, Tryd.ntmps42
  go_wp2_with (go_at_call 52; (with_reducible refine HC.out.mono ?_); rintro e w1 ⟨q, rfl, hq, hbl, hb⟩)
  go_ret2
  exact ⟨q, rfl, hq, hbl, hb⟩
end Go.Proofs.YtfdjphinicafiabDoor.Sh
