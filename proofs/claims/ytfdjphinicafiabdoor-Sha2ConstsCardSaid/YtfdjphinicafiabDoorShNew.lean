/-
  The contracts of New, Reset, Copy, Write, and of what tells whether there is a hash.
-/
import Derived.Test.YtfdjphinicafiabDoorShPut
import Derived.Test.YtfdjphinicafiabDoorShDig
import Derived.Outline
namespace Go.Proofs.YtfdjphinicafiabDoor.Sh
open Go.RowKit Go.Proofs.YtfdjphinicafiabDoor.Gn Go.Deep
set_option linter.unusedVariables false

/-- The hash that has this text. -/
def Hs (b : Bool) (T : List Nat) (g : Nat) (w : World) : Prop := ∃ ws rs, Bl w g 72 (hc b T.length ws rs).toArray ∧ St b T ws rs
theorem Hs.below {b : Bool} {T : List Nat} {g : Nat} {w w' : World} (h : Hs b T g w) (hb : Below w.heap.size w w') : Hs b T g w' := by
  obtain ⟨ws, rs, h1, h2⟩ := h
  exact ⟨ws, rs, h1.below' hb, h2⟩
theorem Hs.grown {b : Bool} {T : List Nat} {g : Nat} {w w' : World} {row : Option Nat} (h : Hs b T g w) (hb : w.grownBy w' row) (hg : row ≠ some g) : Hs b T g w' := by
  obtain ⟨ws, rs, h1, h2⟩ := h
  exact ⟨ws, rs, h1.grown hb hg, h2⟩
theorem size_hash : (Tryd.prog.info? 72).map (·.size) = some 138 := by kernel_rfl
theorem Tab.size {w : World} (h : Tab w) : 2 ≤ w.heap.size := cell_lt (h.2 0 (by decide))
theorem hc_ones (b : Bool) (n : Nat) (ws rs : List Nat) : ∀ v ∈ hc b n ws rs, v.oneCell' = true := by
  intro v hv
  simp only [hc, bl, List.mem_cons, List.mem_append, List.mem_map] at hv
  rcases hv with rfl | rfl | ⟨x, -, rfl⟩ | ⟨x, -, rfl⟩ <;> rfl
theorem hc_word (b : Bool) (n : Nat) (ws rs : List Nat) (k : Nat) (h : k < ws.length) : (hc b n ws rs).toArray[2 + k]? = some (.int .u64 ((ws.getD k 0 : Nat) : Int)) := by
  simp only [hc, List.getElem?_toArray]
  rw [show 2 + k = k + 1 + 1 by omega, List.getElem?_cons_succ, List.getElem?_cons_succ, List.getElem?_append_left (by simpa using h)]
  simp [h]
theorem hc_setw (b : Bool) (n : Nat) (ws rs : List Nat) (k v : Nat) (h : k < ws.length) : (hc b n ws rs).toArray.setIfInBounds (2 + k) (.int .u64 (v : Int)) = (hc b n (ws.set k v) rs).toArray := by
  have : ∀ l r : List Value, k < l.length → (l ++ r).set k (.int .u64 (v : Int)) = l.set k (.int .u64 (v : Int)) ++ r := fun l r h => by rw [List.set_append_left _ _ h]
  rw [show 2 + k = k + 1 + 1 by omega]
  simp only [hc, List.setIfInBounds_toArray, List.set_cons_succ]
  rw [this _ _ (by simpa using h), ← List.map_set]

theorem none_nil (w : World) : Calls Tryd.prog 46 #[.pointer none] w fun e w' => e = .returned (.bool true) ∧ w = w' := by
  go_enter Tryd.func46, Tryd.ntmps46
  go_wp2
  go_ret
  exact ⟨rfl, rfl⟩
theorem none32 (g : Nat) (w : World) (hb : w.cell? ⟨g, 0, none⟩ = some (.int .i64 256)) : Calls Tryd.prog 46 #[.pointer (some ⟨g, 0, none⟩)] w fun e w' => e = .returned (.bool false) ∧ w = w' := by
  go_enter Tryd.func46, Tryd.ntmps46
  go_wp2
  go_ret
  exact ⟨rfl, rfl⟩
theorem zc32 : Tryd.zeroCells72.toList.set 0 (.int .i64 256) = hc false 0 (List.replicate 8 0) (List.replicate 128 0) := by kernel_rfl
def RZ32 (g q : Nat) (w : World) (i : Value) (wr : World) : Prop :=
  ∃ (k : Nat) (ws : List Nat), k ≤ 8 ∧ i = .int .i64 (k : Int) ∧ ws.length = 8 ∧ (∀ j, j < k → ws.getD j 0 = (st false).getD j 0) ∧ Bl wr g 72 (hc false 0 ws (List.replicate 128 0)).toArray ∧ Bl wr q 77 (kv false) ∧ w.grownBy wr (some g) ∧ Tab wr
set_option maxRecDepth 100000 in
set_option maxHeartbeats 1000000 in
theorem reset32_any (g n : Nat) (ws rs : List Nat) (hw : ws.length = 8) (hr : rs.length = 128) (w : World) (hg2 : 2 ≤ g) (hb : Bl w g 72 (hc false n ws rs).toArray) (tab : Tab w) :
    Calls Tryd.prog 33 #[.pointer (some ⟨g, 0, none⟩)] w fun e w' => e = .returned (.tuple #[]) ∧ Bl w' g 72 (hc false 0 (st false) (List.replicate 128 0)).toArray ∧ w.grownBy w' (some g) := by
  have TAB := Lib.hid tab
  have HB := Lib.hid hb
  have b0 : w.cell? ⟨g, 0, none⟩ = some (.int .i64 256) := hb.cell_ rfl
  clear hb tab
  go_enter Tryd.func33, Tryd.ntmps33
  go_upto_region 2 with (first | (go_at_call 46; refine (none32 g _ b0).mono ?_; rintro e w' ⟨rfl, rfl⟩) | (go_at_call 50; refine (kindOf_256 _).mono ?_; rintro e w1 ⟨rfl, hb1⟩; rw [kv_false]))
  have hq1 := Bl.new_ w1 77 (kv false)
  have hq2 : Below w.heap.size w (w1.alloc (.cells (kv false) 77)) := hb1.alloc hb1.size _
  have hqs : g ≠ w1.heap.size := by have := cell_lt b0; have := hb1.size; simp at *; omega
  rw [kv_false] at hq1 hq2
  generalize hwq : w1.alloc _ = wq at hq1 hq2 ⊢
  generalize hqq : w1.heap.size = q at *
  clear hwq
  have HQ1 := Lib.hid hq1
  have HQ2 := Lib.hid hq2
  have hbq := HB.out.below' hq2
  have HBQ := Lib.hid hbq
  have k0 := hbq.cell_ (i := 0) (v := .int .i64 256) rfl
  clear hq1 hq2 b0
  obtain ⟨w3, hst, hb3, hg3⟩ := run_store_bl Tryd.prog HBQ.out 0 (Tryd.zeroCells72.toList.set 0 (.int .i64 256)) (by rw [zc32, hc_size _ _ _ _ hw hr]; simp [hc, bl]) (by rw [zc32]; exact hc_ones _ _ _ _)
  rw [zc32, spl_all _ _ (by rw [hc_size _ _ _ _ hw hr]; simp [hc, bl])] at hb3
  have HB3 := Lib.hid hb3
  have HG3 := Lib.hid hg3
  clear hb3 hg3
  go_wp2_with fail
  go_loopw [18] (fun i wr => RZ32 g q w i wr) (fun i _ => 8 - (intOf i).toNat)
  case atStart =>
    refine ⟨0, List.replicate 8 0, Nat.zero_le _, rfl, by simp, fun j hj => by omega, HB3.out, HQ1.out.grown HG3.out (fun e => by injection e; omega), only_trans (only_below HQ2.out _) HG3.out, (TAB.out.below HQ2.out).only hg2 HG3.out⟩
  case round =>
    obtain ⟨k, us, hk, rfl, h1, h2, h3, h4, h5, h6⟩ := hrel
    have H2 := Lib.hid h2
    have H3 := Lib.hid h3
    have H4 := Lib.hid h4
    have H5 := Lib.hid h5
    have H6 := Lib.hid h6
    clear h2 h3 h4 h5 h6
    by_cases hlt : k < 8
    · have hcell := H3.out.cell (2 + k)
      rw [hc_word _ _ _ _ _ (by omega)] at hcell
      have hfz := H3.out.frozen (2 + k)
      have cq := H4.out.cell_ (i := 0) (v := .int .u64 32) (by rw [kv_false]; rfl)
      have cs := H6.out.2 k hlt
      obtain ⟨x, hx⟩ : ∃ x, x = sc.getD k 0 := ⟨_, rfl⟩
      rw [← hx] at cs
      have HX := Lib.hid hx
      clear hx
      have bk8 : (k : Int) < 8 := by omega
      go_wp2_with fail
      go_region_held3 (fun x' => x'.cell? ⟨1, k, none⟩ = some (.int .u64 (x : Int)) ∧ x'.cell? ⟨q, 0, none⟩ = some (.int .u64 32))
        (first | exact ⟨cs, cq⟩ | exact ⟨(World.cell?_setCell_other _ _ _ _ (by simp <;> omega)).trans cs, (World.cell?_setCell_other _ _ _ _ (by simp <;> omega)).trans cq⟩) (fail)
      rename_i hHeld
      clear hHeld
      go_wp2
      go_roundw
      case rel =>
        have e1 : (x : Int) / 2 ^ min 32 64 = ((x / 2 ^ (64 - wd false) : Nat) : Int) := by simp [wd]
        try rw [e1]
        refine ⟨k + 1, us.set k (x / 2 ^ (64 - wd false)), by omega, by go_num, by rw [List.length_set]; exact h1, ?_, ?_, ?_, ?_, ?_⟩
        · intro j hj
          by_cases hjk : k = j
          · subst hjk
            simp only [List.getD_eq_getElem?_getD, List.getElem?_set, h1, hlt, if_true, HX.out, st, List.getElem?_map]
            rw [List.getElem?_eq_getElem (show k < sc.length by exact hlt)]
            rfl
          · have := H2.out j (by omega)
            simp only [List.getD_eq_getElem?_getD] at this ⊢
            rw [List.getElem?_set_ne hjk, this]
        · rw [← hc_setw _ _ _ _ _ _ (by omega)]; exact (H3.out.set_ _ _).drew
        · exact (H4.out.other (show q ≠ g by omega) _).drew
        · exact only_drewN (only_set H5.out (.inl rfl) _) 1
        · exact (H6.out.only hg2 (only_set (World.grownBy.refl _ _) (.inl rfl) _)).drew
      case measure => simp [intOf]; omega
    · obtain rfl : k = 8 := by omega
      go_wp2_with fail
      go_end0
      refine ⟨rfl, ?_, H5.out⟩
      have e : us = st false := by
        have hl : (st false).length = 8 := rfl
        apply List.ext_getElem (by rw [h1, hl])
        intro j hj1 hj2
        have := H2.out j (by omega)
        simpa [List.getD_eq_getElem?_getD, List.getElem?_eq_getElem hj1, List.getElem?_eq_getElem hj2] using this
      rw [← e]
      exact H3.out
theorem zca32 : Tryd.zeroCells72.setIfInBounds 0 (.int .i64 256) = (hc false 0 (List.replicate 8 0) (List.replicate 128 0)).toArray := by kernel_rfl
theorem St_nil32 : St false [] (st false) (List.replicate 128 0) := by
  refine ⟨rfl, rfl, ?_, by simp, by simp, by simp⟩
  decide
set_option maxRecDepth 100000 in
set_option maxHeartbeats 1000000 in
theorem new32_any (w : World) (tab : Tab w) :
    Calls Tryd.prog 27 #[.int .i64 256] w fun e w' => ∃ g, e = .returned (.tuple #[.pointer (some ⟨g, 0, none⟩), .int .i64 0]) ∧ w.heap.size ≤ g ∧ Hs false [] g w' ∧ Below w.heap.size w w' ∧ Tab w' := by
  have TAB := Lib.hid tab
  have h2 := tab.size
  clear tab
  go_enter Tryd.func27, Tryd.ntmps27
  go_upto_region 4 with (go_at_call 40; refine (known32 _).mono ?_; rintro e w' ⟨rfl, rfl⟩)
  rw [zca32]
  have h3 : Bl (w.alloc (.cells (hc false 0 (List.replicate 8 0) (List.replicate 128 0)).toArray 72)) w.heap.size 72 (hc false 0 (List.replicate 8 0) (List.replicate 128 0)).toArray := Bl.new_ _ _ _
  have h4 : Below w.heap.size w (w.alloc (.cells (hc false 0 (List.replicate 8 0) (List.replicate 128 0)).toArray 72)) := (Below.refl _ _).alloc (Nat.le_refl _) _
  generalize hwq : w.alloc (.cells (hc false 0 (List.replicate 8 0) (List.replicate 128 0)).toArray 72) = wq at *
  clear hwq
  have H3 := Lib.hid h3
  have H4 := Lib.hid h4
  clear h3 h4
  go_wp2_with (go_at_call 33; refine (reset32_any w.heap.size 0 _ _ rfl rfl _ h2 H3.out (TAB.out.below H4.out)).mono ?_; rintro e w' ⟨rfl, hb2, hg2⟩)
  go_ret2
  have h5 : Below w.heap.size w w' := H4.out.grown hg2 H4.out.size (fun k e => by injection e with e; omega)
  exact ⟨_, rfl, Nat.le_refl _, ⟨_, _, hb2, St_nil32⟩, h5, TAB.out.below h5⟩
set_option maxRecDepth 100000 in
theorem copy32_any (T : List Nat) (g : Nat) (w : World) (h : Hs false T g w) :
    Calls Tryd.prog 32 #[.pointer (some ⟨g, 0, none⟩)] w fun e w' => ∃ q, e = .returned (.pointer (some ⟨q, 0, none⟩)) ∧ w.heap.size ≤ q ∧ Hs false T q w' ∧ Below w.heap.size w w' := by
  obtain ⟨ws, rs, hb, hst⟩ := h
  have HB := Lib.hid hb
  have HST := Lib.hid hst
  have hcs := hc_size false T.length ws rs hst.wl hst.rl
  have b0 : w.cell? ⟨g, 0, none⟩ = some (.int .i64 256) := hb.cell_ rfl
  clear hb hst
  have hsz0 : Tryd.zeroCells72.size = 138 := by kernel_rfl
  obtain ⟨w3, hst, hb3, hg3⟩ := run_store_bl Tryd.prog (Bl.new_ w 72 Tryd.zeroCells72) 0 (hc false T.length ws rs) (by rw [hsz0]; simp [hc, bl, HST.out.wl, HST.out.rl]) (hc_ones _ _ _ _)
  rw [spl_all _ _ (by rw [hsz0]; simp [hc, bl, HST.out.wl, HST.out.rl])] at hb3
  have HB3 := Lib.hid hb3
  have HG3 := Lib.hid hg3
  clear hb3 hg3 hsz0
  go_enter Tryd.func32, Tryd.ntmps32
  go_wp2_with (first | (go_at_call 46; refine (none32 g _ b0).mono ?_; rintro e w' ⟨rfl, rfl⟩) | (refine wpList_load_bl rfl 72 (.tmp 7) rfl g 0 138 rfl _ _ HB.out _ (by omega) _ (extract_all hcs) Tryd.underlying72 rfl size_hash ?_))
  go_ret
  exact ⟨_, rfl, Nat.le_refl _, ⟨ws, rs, HB3.out, HST.out⟩, ((Below.refl _ _).alloc (Nat.le_refl _) _).grown HG3.out (by simp) (fun k e => by injection e with e; omega)⟩
theorem none64 (g : Nat) (w : World) (hb : w.cell? ⟨g, 0, none⟩ = some (.int .i64 512)) : Calls Tryd.prog 46 #[.pointer (some ⟨g, 0, none⟩)] w fun e w' => e = .returned (.bool false) ∧ w = w' := by
  go_enter Tryd.func46, Tryd.ntmps46
  go_wp2
  go_ret
  exact ⟨rfl, rfl⟩
theorem zc64 : Tryd.zeroCells72.toList.set 0 (.int .i64 512) = hc true 0 (List.replicate 8 0) (List.replicate 128 0) := by kernel_rfl
def RZ64 (g q : Nat) (w : World) (i : Value) (wr : World) : Prop :=
  ∃ (k : Nat) (ws : List Nat), k ≤ 8 ∧ i = .int .i64 (k : Int) ∧ ws.length = 8 ∧ (∀ j, j < k → ws.getD j 0 = (st true).getD j 0) ∧ Bl wr g 72 (hc true 0 ws (List.replicate 128 0)).toArray ∧ Bl wr q 77 (kv true) ∧ w.grownBy wr (some g) ∧ Tab wr
set_option maxRecDepth 100000 in
set_option maxHeartbeats 1000000 in
theorem reset64_any (g n : Nat) (ws rs : List Nat) (hw : ws.length = 8) (hr : rs.length = 128) (w : World) (hg2 : 2 ≤ g) (hb : Bl w g 72 (hc true n ws rs).toArray) (tab : Tab w) :
    Calls Tryd.prog 33 #[.pointer (some ⟨g, 0, none⟩)] w fun e w' => e = .returned (.tuple #[]) ∧ Bl w' g 72 (hc true 0 (st true) (List.replicate 128 0)).toArray ∧ w.grownBy w' (some g) := by
  have TAB := Lib.hid tab
  have HB := Lib.hid hb
  have b0 : w.cell? ⟨g, 0, none⟩ = some (.int .i64 512) := hb.cell_ rfl
  clear hb tab
  go_enter Tryd.func33, Tryd.ntmps33
  go_upto_region 2 with (first | (go_at_call 46; refine (none64 g _ b0).mono ?_; rintro e w' ⟨rfl, rfl⟩) | (go_at_call 50; refine (kindOf_512 _).mono ?_; rintro e w1 ⟨rfl, hb1⟩; rw [kv_true]))
  have hq1 := Bl.new_ w1 77 (kv true)
  have hq2 : Below w.heap.size w (w1.alloc (.cells (kv true) 77)) := hb1.alloc hb1.size _
  have hqs : g ≠ w1.heap.size := by have := cell_lt b0; have := hb1.size; simp at *; omega
  rw [kv_true] at hq1 hq2
  generalize hwq : w1.alloc _ = wq at hq1 hq2 ⊢
  generalize hqq : w1.heap.size = q at *
  clear hwq
  have HQ1 := Lib.hid hq1
  have HQ2 := Lib.hid hq2
  have hbq := HB.out.below' hq2
  have HBQ := Lib.hid hbq
  have k0 := hbq.cell_ (i := 0) (v := .int .i64 512) rfl
  clear hq1 hq2 b0
  obtain ⟨w3, hst, hb3, hg3⟩ := run_store_bl Tryd.prog HBQ.out 0 (Tryd.zeroCells72.toList.set 0 (.int .i64 512)) (by rw [zc64, hc_size _ _ _ _ hw hr]; simp [hc, bl]) (by rw [zc64]; exact hc_ones _ _ _ _)
  rw [zc64, spl_all _ _ (by rw [hc_size _ _ _ _ hw hr]; simp [hc, bl])] at hb3
  have HB3 := Lib.hid hb3
  have HG3 := Lib.hid hg3
  clear hb3 hg3
  go_wp2_with fail
  go_loopw [18] (fun i wr => RZ64 g q w i wr) (fun i _ => 8 - (intOf i).toNat)
  case atStart =>
    refine ⟨0, List.replicate 8 0, Nat.zero_le _, rfl, by simp, fun j hj => by omega, HB3.out, HQ1.out.grown HG3.out (fun e => by injection e; omega), only_trans (only_below HQ2.out _) HG3.out, (TAB.out.below HQ2.out).only hg2 HG3.out⟩
  case round =>
    obtain ⟨k, us, hk, rfl, h1, h2, h3, h4, h5, h6⟩ := hrel
    have H2 := Lib.hid h2
    have H3 := Lib.hid h3
    have H4 := Lib.hid h4
    have H5 := Lib.hid h5
    have H6 := Lib.hid h6
    clear h2 h3 h4 h5 h6
    by_cases hlt : k < 8
    · have hcell := H3.out.cell (2 + k)
      rw [hc_word _ _ _ _ _ (by omega)] at hcell
      have hfz := H3.out.frozen (2 + k)
      have cq := H4.out.cell_ (i := 0) (v := .int .u64 64) (by rw [kv_true]; rfl)
      have cs := H6.out.2 k hlt
      obtain ⟨x, hx⟩ : ∃ x, x = sc.getD k 0 := ⟨_, rfl⟩
      rw [← hx] at cs
      have HX := Lib.hid hx
      clear hx
      have bk8 : (k : Int) < 8 := by omega
      go_wp2_with fail
      go_region_held3 (fun x' => x'.cell? ⟨1, k, none⟩ = some (.int .u64 (x : Int)) ∧ x'.cell? ⟨q, 0, none⟩ = some (.int .u64 64))
        (first | exact ⟨cs, cq⟩ | exact ⟨(World.cell?_setCell_other _ _ _ _ (by simp <;> omega)).trans cs, (World.cell?_setCell_other _ _ _ _ (by simp <;> omega)).trans cq⟩) (fail)
      rename_i hHeld
      clear hHeld
      go_wp2
      go_roundw
      case rel =>
        have e1 : (x : Int) / 2 ^ min 0 64 = ((x / 2 ^ (64 - wd true) : Nat) : Int) := by simp [wd]
        try rw [e1]
        refine ⟨k + 1, us.set k (x / 2 ^ (64 - wd true)), by omega, by go_num, by rw [List.length_set]; exact h1, ?_, ?_, ?_, ?_, ?_⟩
        · intro j hj
          by_cases hjk : k = j
          · subst hjk
            simp only [List.getD_eq_getElem?_getD, List.getElem?_set, h1, hlt, if_true, HX.out, st, List.getElem?_map]
            rw [List.getElem?_eq_getElem (show k < sc.length by exact hlt)]
            rfl
          · have := H2.out j (by omega)
            simp only [List.getD_eq_getElem?_getD] at this ⊢
            rw [List.getElem?_set_ne hjk, this]
        · rw [← hc_setw _ _ _ _ _ _ (by omega)]; exact (H3.out.set_ _ _).drew
        · exact (H4.out.other (show q ≠ g by omega) _).drew
        · exact only_drewN (only_set H5.out (.inl rfl) _) 1
        · exact (H6.out.only hg2 (only_set (World.grownBy.refl _ _) (.inl rfl) _)).drew
      case measure => simp [intOf]; omega
    · obtain rfl : k = 8 := by omega
      go_wp2_with fail
      go_end0
      refine ⟨rfl, ?_, H5.out⟩
      have e : us = st true := by
        have hl : (st true).length = 8 := rfl
        apply List.ext_getElem (by rw [h1, hl])
        intro j hj1 hj2
        have := H2.out j (by omega)
        simpa [List.getD_eq_getElem?_getD, List.getElem?_eq_getElem hj1, List.getElem?_eq_getElem hj2] using this
      rw [← e]
      exact H3.out
theorem zca64 : Tryd.zeroCells72.setIfInBounds 0 (.int .i64 512) = (hc true 0 (List.replicate 8 0) (List.replicate 128 0)).toArray := by kernel_rfl
theorem St_nil64 : St true [] (st true) (List.replicate 128 0) := by
  refine ⟨rfl, rfl, ?_, by simp, by simp, by simp⟩
  decide
set_option maxRecDepth 100000 in
set_option maxHeartbeats 1000000 in
theorem new64_any (w : World) (tab : Tab w) :
    Calls Tryd.prog 27 #[.int .i64 512] w fun e w' => ∃ g, e = .returned (.tuple #[.pointer (some ⟨g, 0, none⟩), .int .i64 0]) ∧ w.heap.size ≤ g ∧ Hs true [] g w' ∧ Below w.heap.size w w' ∧ Tab w' := by
  have TAB := Lib.hid tab
  have h2 := tab.size
  clear tab
  go_enter Tryd.func27, Tryd.ntmps27
  go_upto_region 4 with (go_at_call 40; refine (known64 _).mono ?_; rintro e w' ⟨rfl, rfl⟩)
  rw [zca64]
  have h3 : Bl (w.alloc (.cells (hc true 0 (List.replicate 8 0) (List.replicate 128 0)).toArray 72)) w.heap.size 72 (hc true 0 (List.replicate 8 0) (List.replicate 128 0)).toArray := Bl.new_ _ _ _
  have h4 : Below w.heap.size w (w.alloc (.cells (hc true 0 (List.replicate 8 0) (List.replicate 128 0)).toArray 72)) := (Below.refl _ _).alloc (Nat.le_refl _) _
  generalize hwq : w.alloc (.cells (hc true 0 (List.replicate 8 0) (List.replicate 128 0)).toArray 72) = wq at *
  clear hwq
  have H3 := Lib.hid h3
  have H4 := Lib.hid h4
  clear h3 h4
  go_wp2_with (go_at_call 33; refine (reset64_any w.heap.size 0 _ _ rfl rfl _ h2 H3.out (TAB.out.below H4.out)).mono ?_; rintro e w' ⟨rfl, hb2, hg2⟩)
  go_ret2
  have h5 : Below w.heap.size w w' := H4.out.grown hg2 H4.out.size (fun k e => by injection e with e; omega)
  exact ⟨_, rfl, Nat.le_refl _, ⟨_, _, hb2, St_nil64⟩, h5, TAB.out.below h5⟩
set_option maxRecDepth 100000 in
theorem copy64_any (T : List Nat) (g : Nat) (w : World) (h : Hs true T g w) :
    Calls Tryd.prog 32 #[.pointer (some ⟨g, 0, none⟩)] w fun e w' => ∃ q, e = .returned (.pointer (some ⟨q, 0, none⟩)) ∧ w.heap.size ≤ q ∧ Hs true T q w' ∧ Below w.heap.size w w' := by
  obtain ⟨ws, rs, hb, hst⟩ := h
  have HB := Lib.hid hb
  have HST := Lib.hid hst
  have hcs := hc_size true T.length ws rs hst.wl hst.rl
  have b0 : w.cell? ⟨g, 0, none⟩ = some (.int .i64 512) := hb.cell_ rfl
  clear hb hst
  have hsz0 : Tryd.zeroCells72.size = 138 := by kernel_rfl
  obtain ⟨w3, hst, hb3, hg3⟩ := run_store_bl Tryd.prog (Bl.new_ w 72 Tryd.zeroCells72) 0 (hc true T.length ws rs) (by rw [hsz0]; simp [hc, bl, HST.out.wl, HST.out.rl]) (hc_ones _ _ _ _)
  rw [spl_all _ _ (by rw [hsz0]; simp [hc, bl, HST.out.wl, HST.out.rl])] at hb3
  have HB3 := Lib.hid hb3
  have HG3 := Lib.hid hg3
  clear hb3 hg3 hsz0
  go_enter Tryd.func32, Tryd.ntmps32
  go_wp2_with (first | (go_at_call 46; refine (none64 g _ b0).mono ?_; rintro e w' ⟨rfl, rfl⟩) | (refine wpList_load_bl rfl 72 (.tmp 7) rfl g 0 138 rfl _ _ HB.out _ (by omega) _ (extract_all hcs) Tryd.underlying72 rfl size_hash ?_))
  go_ret
  exact ⟨_, rfl, Nat.le_refl _, ⟨ws, rs, HB3.out, HST.out⟩, ((Below.refl _ _).alloc (Nat.le_refl _) _).grown HG3.out (by simp) (fun k e => by injection e with e; omega)⟩
theorem known_no (b : Int) (w : World) (h1 : (b == 256) = false) (h2 : (b == 512) = false) : Calls Tryd.prog 40 #[.int .i64 b] w fun e w' => e = .returned (.bool false) ∧ w = w' := by
  go_enter Tryd.func40, Tryd.ntmps40
  go_wp2
  go_ret
  exact ⟨rfl, rfl⟩
theorem new_no (b : Int) (w : World) (h1 : (b == 256) = false) (h2 : (b == 512) = false) : Calls Tryd.prog 27 #[.int .i64 b] w fun e w' => e = .returned (.tuple #[.pointer none, .int .i64 1]) ∧ w = w' := by
  go_enter Tryd.func27, Tryd.ntmps27
  go_wp2_with (go_at_call 40; refine (known_no b _ h1 h2).mono ?_; rintro e w' ⟨rfl, rfl⟩)
  go_ret2
  exact ⟨rfl, rfl⟩
end Go.Proofs.YtfdjphinicafiabDoor.Sh
