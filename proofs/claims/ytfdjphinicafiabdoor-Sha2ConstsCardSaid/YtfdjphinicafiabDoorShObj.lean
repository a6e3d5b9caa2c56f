/-
  A hash in memory; the contracts of what works on it: mix.
-/
import Derived.Test.YtfdjphinicafiabDoorShBeh
import Derived.Deep.RegionLaw
import Derived.Deep.AppendLies
namespace Go.Proofs.YtfdjphinicafiabDoor.Sh
open Go.RowKit Go.Proofs.YtfdjphinicafiabDoor.Gn Go.Deep
set_option linter.unusedVariables false

def bt (b : Bool) : Nat := if b then 512 else 256
/-- A hash's cells: the digits, how many bytes, the eight words, the bytes behind the whole blocks. -/
def hc (b : Bool) (n : Nat) (ws rs : List Nat) : List Value :=
  .int .i64 (bt b : Int) :: .int .i64 (n : Int) :: ((ws.map fun (x : Nat) => Value.int .u64 (x : Int)) ++ bl rs)
theorem hc_rest (b : Bool) (n : Nat) (ws rs : List Nat) (hw : ws.length = 8) (j : Nat) : (hc b n ws rs).toArray[10 + j]? = (bl rs)[j]? := by
  simp only [hc, List.getElem?_toArray]
  rw [show 10 + j = (8 + j) + 1 + 1 by omega, List.getElem?_cons_succ, List.getElem?_cons_succ, List.getElem?_append_right (by simp; omega)]
  simp [hw]
theorem hc_set8 (b : Bool) (n : Nat) (x0 x1 x2 x3 x4 x5 x6 x7 y0 y1 y2 y3 y4 y5 y6 y7 : Nat) (rs : List Nat) :
    ((((((((hc b n [x0, x1, x2, x3, x4, x5, x6, x7] rs).toArray.setIfInBounds 2 (.int .u64 (y0 : Int))).setIfInBounds 3 (.int .u64 (y1 : Int))).setIfInBounds 4 (.int .u64 (y2 : Int))).setIfInBounds 5 (.int .u64 (y3 : Int))).setIfInBounds 6 (.int .u64 (y4 : Int))).setIfInBounds 7 (.int .u64 (y5 : Int))).setIfInBounds 8 (.int .u64 (y6 : Int))).setIfInBounds 9 (.int .u64 (y7 : Int)) = (hc b n [y0, y1, y2, y3, y4, y5, y6, y7] rs).toArray := by
  simp [hc, List.setIfInBounds_toArray]
theorem spl_hc (b : Bool) (n : Nat) (x0 x1 x2 x3 x4 x5 x6 x7 y0 y1 y2 y3 y4 y5 y6 y7 : Nat) (rs : List Nat) :
    spl (hc b n [x0, x1, x2, x3, x4, x5, x6, x7] rs).toArray 2 (al .u64 [y0, y1, y2, y3, y4, y5, y6, y7]).toList = (hc b n [y0, y1, y2, y3, y4, y5, y6, y7] rs).toArray := by
  have e : (al .u64 [y0, y1, y2, y3, y4, y5, y6, y7]).toList = [.int .u64 (y0 : Int), .int .u64 (y1 : Int), .int .u64 (y2 : Int), .int .u64 (y3 : Int), .int .u64 (y4 : Int), .int .u64 (y5 : Int), .int .u64 (y6 : Int), .int .u64 (y7 : Int)] := by simp [al]
  rw [e]
  simp only [spl, Nat.reduceAdd]
  exact hc_set8 b n x0 x1 x2 x3 x4 x5 x6 x7 y0 y1 y2 y3 y4 y5 y6 y7 rs
theorem hc_size (b : Bool) (n : Nat) (ws rs : List Nat) (hw : ws.length = 8) (hr : rs.length = 128) : (hc b n ws rs).toArray.size = 138 := by
  simp [hc, bl, hw, hr]
theorem eight_of {l : List Nat} (h : l.length = 8) : ∃ a b c d e f g k, l = [a, b, c, d, e, f, g, k] := by
  match l, h with
  | [a, b, c, d, e, f, g, k], _ => exact ⟨a, b, c, d, e, f, g, k, rfl⟩
theorem bh_length (b : Bool) (h l : List Nat) (hl : h.length = 8) : (bh b h l).length = 8 := by simp [bh, V8.l, hl]
theorem bh_lt (b : Bool) (h l : List Nat) : ∀ x ∈ bh b h l, x < mo b := by
  intro x hx
  unfold bh at hx
  rw [List.mem_iff_getElem?] at hx
  obtain ⟨i, hi⟩ := hx
  rw [List.getElem?_zipWith] at hi
  split at hi
  · injection hi with hi
    rw [← hi]; exact Nat.mod_lt _ (mo_pos b)
  · cases hi
set_option maxRecDepth 100000 in
set_option maxHeartbeats 2000000 in
theorem mix32_any (g n : Nat) (ws rs : List Nat) (hw : ws.length = 8) (hr : rs.length = 128) (hwl : ∀ x ∈ ws, x < mo false) (hrl : ∀ x ∈ rs, x < 256) (w : World) (hb : Bl w g 72 (hc false n ws rs).toArray) (tab : Tab w) (c : Nat) (hc0 : 64 ≤ c) :
    Calls Tryd.prog 55 #[.pointer (some ⟨g, 0, none⟩), .slice (some ⟨g, 10, none⟩) 64 c] w fun e w' => e = .returned (.tuple #[]) ∧ Bl w' g 72 (hc false n (bh false ws (rs.take 64)) rs).toArray ∧ w.grownBy w' (some g) := by
  have HSL := Lib.hid (show Sl w (some ⟨g, 10, none⟩) 64 (bl (rs.take 64)) from Sl.of_bl hb 10 64 _ (by simp [bl, hr]) (fun k v hk => by
    rw [hc_rest _ _ _ _ hw, ← hk, ← bl_take, List.getElem?_take]
    rw [if_pos (by have := (List.getElem?_eq_some_iff.1 hk).1; simp [bl, hr] at this; omega)]))
  have HWL := Lib.hid hwl
  have HRL := Lib.hid (show ∀ x ∈ rs.take 64, x < 256 from fun x hx => hrl x (List.mem_of_mem_take hx))
  have TAB := Lib.hid tab
  have HB := Lib.hid hb
  obtain ⟨blk, hblk⟩ : ∃ l, l = rs.take 64 := ⟨_, rfl⟩
  rw [← hblk] at HSL HRL ⊢
  clear hblk hwl hrl tab
  obtain ⟨x0, x1, x2, x3, x4, x5, x6, x7, rfl⟩ := eight_of hw
  obtain ⟨y0, y1, y2, y3, y4, y5, y6, y7, hy⟩ := eight_of (bh_length false [x0, x1, x2, x3, x4, x5, x6, x7] blk rfl)
  rw [hy]
  have HY := Lib.hid hy
  clear hy hw
  have b0 : w.cell? ⟨g, 0, none⟩ = some (.int .i64 256) := hb.cell_ rfl
  clear hb
  have hne : ((256 : Int) == 256) = !false := by decide
  go_enter Tryd.func55, Tryd.ntmps55
  go_upto_region 1 with (go_at_call 50; refine (kindOf_256 _).mono ?_; rintro e w1 ⟨rfl, hb1⟩; rw [kv_false]; have k0 := keepc hb1 b0)
  have hq1 := Bl.new_ w1 77 (kv false)
  have hq2 : Below w.heap.size w (w1.alloc (.cells (kv false) 77)) := hb1.alloc hb1.size _
  rw [kv_false] at hq1 hq2
  generalize hwq : w1.alloc _ = wq at hq1 hq2 ⊢
  clear hwq k0
  have HQ1 := Lib.hid hq1
  have HQ2 := Lib.hid hq2
  have hbq := HB.out.below' hq2
  have HBQ := Lib.hid hbq
  have k0 := hbq.cell_ (i := 0) (v := .int .i64 256) rfl
  have hq1' := hq1.cell
  have hgq : g ≠ w1.heap.size := by have := hq1.lt; intro e; have h1 := (keepc hb1 (HB.out.cell_ (i := 0) rfl)); have := cell_lt h1; simp at this; omega
  clear hq1 hq2 b0
  have kc0 := hq1' 0
  have kc1 := hq1' 1
  have kc2 := hq1' 2
  have kc3 := hq1' 3
  have kc4 := hq1' 4
  have kc5 := hq1' 5
  have kc6 := hq1' 6
  have kc7 := hq1' 7
  have kc8 := hq1' 8
  have kc9 := hq1' 9
  have kc10 := hq1' 10
  have kc11 := hq1' 11
  have kc12 := hq1' 12
  have kc13 := hq1' 13
  clear hq1'
  simp only [List.getElem?_toArray, List.getElem?_cons_zero, List.getElem?_cons_succ] at kc0 kc1 kc2 kc3 kc4 kc5 kc6 kc7 kc8 kc9 kc10 kc11 kc12 kc13
  have c0 := HBQ.out.cell_ (i := 2) (v := .int .u64 (x0 : Int)) rfl
  have c1 := HBQ.out.cell_ (i := 3) (v := .int .u64 (x1 : Int)) rfl
  have c2 := HBQ.out.cell_ (i := 4) (v := .int .u64 (x2 : Int)) rfl
  have c3 := HBQ.out.cell_ (i := 5) (v := .int .u64 (x3 : Int)) rfl
  have c4 := HBQ.out.cell_ (i := 6) (v := .int .u64 (x4 : Int)) rfl
  have c5 := HBQ.out.cell_ (i := 7) (v := .int .u64 (x5 : Int)) rfl
  have c6 := HBQ.out.cell_ (i := 8) (v := .int .u64 (x6 : Int)) rfl
  have c7 := HBQ.out.cell_ (i := 9) (v := .int .u64 (x7 : Int)) rfl
  have f0 := HBQ.out.frozen 2
  have f1 := HBQ.out.frozen 3
  have f2 := HBQ.out.frozen 4
  have f3 := HBQ.out.frozen 5
  have f4 := HBQ.out.frozen 6
  have f5 := HBQ.out.frozen 7
  have f6 := HBQ.out.frozen 8
  have f7 := HBQ.out.frozen 9
  generalize hqq : w1.heap.size = q at *
  go_wp2_with fail
  go_region_law ((go_simp; go_at_call 57; refine (behind32_any [x0, x1, x2, x3, x4, x5, x6, x7] rfl HWL.out _ c blk _ HRL.out (by exact HSL.out.below HQ2.out.drew) hc0 (by exact TAB.out.below HQ2.out.drew)).mono ?_; rintro e w2 ⟨rfl, hb2⟩; rw [HY.out]; have K2 := k_drew hb2; have hz8 : (al .u64 [y0, y1, y2, y3, y4, y5, y6, y7]).size = 8 := rfl; obtain ⟨w3, hst, hb3, hg3⟩ := run_store_bl Tryd.prog (HBQ.out.below' K2) 2 (al .u64 [y0, y1, y2, y3, y4, y5, y6, y7]).toList (by rw [hc_size _ _ _ _ rfl hr]; simp [al]) (al_ones _ _); have HB3 := Lib.hid hb3; have HG3 := Lib.hid hg3; clear hb3 hg3))
  all_goals go_wp2_with fail
  all_goals go_end0
  all_goals refine ⟨rfl, ?_, ?_⟩
  · exact spl_hc _ _ _ _ _ _ _ _ _ _ _ _ _ _ _ _ _ _ _ ▸ HB3.out
  · exact only_trans (only_below (HQ2.out.trans (K2.mono HQ2.out.size)) _) HG3.out
  · exact spl_hc _ _ _ _ _ _ _ _ _ _ _ _ _ _ _ _ _ _ _ ▸ HB3.out
  · exact only_trans (only_below (HQ2.out.trans (K2.mono HQ2.out.size)) _) HG3.out
set_option maxRecDepth 100000 in
set_option maxHeartbeats 2000000 in
theorem mix64_any (g n : Nat) (ws rs : List Nat) (hw : ws.length = 8) (hr : rs.length = 128) (hwl : ∀ x ∈ ws, x < mo true) (hrl : ∀ x ∈ rs, x < 256) (w : World) (hb : Bl w g 72 (hc true n ws rs).toArray) (tab : Tab w) (c : Nat) (hc0 : 128 ≤ c) :
    Calls Tryd.prog 55 #[.pointer (some ⟨g, 0, none⟩), .slice (some ⟨g, 10, none⟩) 128 c] w fun e w' => e = .returned (.tuple #[]) ∧ Bl w' g 72 (hc true n (bh true ws (rs.take 128)) rs).toArray ∧ w.grownBy w' (some g) := by
  have HSL := Lib.hid (show Sl w (some ⟨g, 10, none⟩) 128 (bl (rs.take 128)) from Sl.of_bl hb 10 128 _ (by simp [bl, hr]) (fun k v hk => by
    rw [hc_rest _ _ _ _ hw, ← hk, ← bl_take, List.getElem?_take]
    rw [if_pos (by have := (List.getElem?_eq_some_iff.1 hk).1; simp [bl, hr] at this; omega)]))
  have HWL := Lib.hid hwl
  have HRL := Lib.hid (show ∀ x ∈ rs.take 128, x < 256 from fun x hx => hrl x (List.mem_of_mem_take hx))
  have TAB := Lib.hid tab
  have HB := Lib.hid hb
  obtain ⟨blk, hblk⟩ : ∃ l, l = rs.take 128 := ⟨_, rfl⟩
  rw [← hblk] at HSL HRL ⊢
  clear hblk hwl hrl tab
  obtain ⟨x0, x1, x2, x3, x4, x5, x6, x7, rfl⟩ := eight_of hw
  obtain ⟨y0, y1, y2, y3, y4, y5, y6, y7, hy⟩ := eight_of (bh_length true [x0, x1, x2, x3, x4, x5, x6, x7] blk rfl)
  rw [hy]
  have HY := Lib.hid hy
  clear hy hw
  have b0 : w.cell? ⟨g, 0, none⟩ = some (.int .i64 512) := hb.cell_ rfl
  clear hb
  have hne : ((512 : Int) == 256) = !true := by decide
  go_enter Tryd.func55, Tryd.ntmps55
  go_upto_region 1 with (go_at_call 50; refine (kindOf_512 _).mono ?_; rintro e w1 ⟨rfl, hb1⟩; rw [kv_true]; have k0 := keepc hb1 b0)
  have hq1 := Bl.new_ w1 77 (kv true)
  have hq2 : Below w.heap.size w (w1.alloc (.cells (kv true) 77)) := hb1.alloc hb1.size _
  rw [kv_true] at hq1 hq2
  generalize hwq : w1.alloc _ = wq at hq1 hq2 ⊢
  clear hwq k0
  have HQ1 := Lib.hid hq1
  have HQ2 := Lib.hid hq2
  have hbq := HB.out.below' hq2
  have HBQ := Lib.hid hbq
  have k0 := hbq.cell_ (i := 0) (v := .int .i64 512) rfl
  have hq1' := hq1.cell
  have hgq : g ≠ w1.heap.size := by have := hq1.lt; intro e; have h1 := (keepc hb1 (HB.out.cell_ (i := 0) rfl)); have := cell_lt h1; simp at this; omega
  clear hq1 hq2 b0
  have kc0 := hq1' 0
  have kc1 := hq1' 1
  have kc2 := hq1' 2
  have kc3 := hq1' 3
  have kc4 := hq1' 4
  have kc5 := hq1' 5
  have kc6 := hq1' 6
  have kc7 := hq1' 7
  have kc8 := hq1' 8
  have kc9 := hq1' 9
  have kc10 := hq1' 10
  have kc11 := hq1' 11
  have kc12 := hq1' 12
  have kc13 := hq1' 13
  clear hq1'
  simp only [List.getElem?_toArray, List.getElem?_cons_zero, List.getElem?_cons_succ] at kc0 kc1 kc2 kc3 kc4 kc5 kc6 kc7 kc8 kc9 kc10 kc11 kc12 kc13
  have c0 := HBQ.out.cell_ (i := 2) (v := .int .u64 (x0 : Int)) rfl
  have c1 := HBQ.out.cell_ (i := 3) (v := .int .u64 (x1 : Int)) rfl
  have c2 := HBQ.out.cell_ (i := 4) (v := .int .u64 (x2 : Int)) rfl
  have c3 := HBQ.out.cell_ (i := 5) (v := .int .u64 (x3 : Int)) rfl
  have c4 := HBQ.out.cell_ (i := 6) (v := .int .u64 (x4 : Int)) rfl
  have c5 := HBQ.out.cell_ (i := 7) (v := .int .u64 (x5 : Int)) rfl
  have c6 := HBQ.out.cell_ (i := 8) (v := .int .u64 (x6 : Int)) rfl
  have c7 := HBQ.out.cell_ (i := 9) (v := .int .u64 (x7 : Int)) rfl
  have f0 := HBQ.out.frozen 2
  have f1 := HBQ.out.frozen 3
  have f2 := HBQ.out.frozen 4
  have f3 := HBQ.out.frozen 5
  have f4 := HBQ.out.frozen 6
  have f5 := HBQ.out.frozen 7
  have f6 := HBQ.out.frozen 8
  have f7 := HBQ.out.frozen 9
  generalize hqq : w1.heap.size = q at *
  go_wp2_with fail
  go_region_law ((go_simp; go_at_call 58; refine (behind64_any [x0, x1, x2, x3, x4, x5, x6, x7] rfl HWL.out _ c blk _ HRL.out (by exact HSL.out.below HQ2.out.drew) hc0 (by exact TAB.out.below HQ2.out.drew)).mono ?_; rintro e w2 ⟨rfl, hb2⟩; rw [HY.out]; have K2 := k_drew hb2; have hz8 : (al .u64 [y0, y1, y2, y3, y4, y5, y6, y7]).size = 8 := rfl; obtain ⟨w3, hst, hb3, hg3⟩ := run_store_bl Tryd.prog (HBQ.out.below' K2) 2 (al .u64 [y0, y1, y2, y3, y4, y5, y6, y7]).toList (by rw [hc_size _ _ _ _ rfl hr]; simp [al]) (al_ones _ _); have HB3 := Lib.hid hb3; have HG3 := Lib.hid hg3; clear hb3 hg3))
  all_goals go_wp2_with fail
  all_goals go_end0
  all_goals refine ⟨rfl, ?_, ?_⟩
  · exact spl_hc _ _ _ _ _ _ _ _ _ _ _ _ _ _ _ _ _ _ _ ▸ HB3.out
  · exact only_trans (only_below (HQ2.out.trans (K2.mono HQ2.out.size)) _) HG3.out
  · exact spl_hc _ _ _ _ _ _ _ _ _ _ _ _ _ _ _ _ _ _ _ ▸ HB3.out
  · exact only_trans (only_below (HQ2.out.trans (K2.mono HQ2.out.size)) _) HG3.out
end Go.Proofs.YtfdjphinicafiabDoor.Sh
