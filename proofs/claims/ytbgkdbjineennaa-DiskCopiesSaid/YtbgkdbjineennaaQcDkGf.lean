/- Joined texts. -/
import Derived.Test.YtbgkdbjineennaaQcDkGe
set_option linter.unusedVariables false
namespace Go.Proofs.Ytbgkdbjineennaa.Dk
open Go.IntWalk Go.RowKit Go.Proofs.Ytbgkdbjineennaa.Gn Go.Proofs.Ytbgkdbjineennaa.Fd Go.Deep
section
set_option maxRecDepth 100000 in
set_option maxHeartbeats 4000000 in
theorem Write_go {g gb n cp : Nat} {H : Value} {st : Int} {cs : Bool} {cw : Int} {ch : Value} {w : World} {k : Nat} {xs : List Value} (h : DB w g gb n cp H true st cs cw ch) (hn : 0 < n) (m : Nat) (hm : n = 64 * m) (hm9 : m ≤ 100000) (p : Nat) (hp : p < m) (x : List Nat) (hx : x.length = 64) (ad : Addr) (xc : Nat) (hs : Sl w (some ad) 64 (bl x)) (base : Nat) (hb : base ≤ w.heap.size) (hH : w.ownsRow base 67 65 H k xs) (hk : k < 1000000) (hHg : H.ownBlock ≠ some g) (Q : Int → World → Prop)
    (ST : ∀ w1 H', DB w1 g gb n cp H' true st cs cw ch → w1.ownsRow base 67 65 H' (k + 1) (xs ++ (wv p x).toList) → (H'.ownBlock = H.ownBlock ∨ ∃ q, H'.ownBlock = some q ∧ w.heap.size ≤ q) → Gx (g :: H.ownBlock.toList) w w1 → Calls Try.prog 32 #[.pointer (some ⟨g, 0, none⟩)] w1 fun e w' => ∃ k, e = .returned (.int .i64 k) ∧ Q k w') :
    Calls Try.prog 18 #[.pointer (some ⟨g, 0, none⟩), .int .i64 (p : Int), .slice (some ad) 64 xc] w fun e w' => ∃ k, e = .returned (.int .i64 k) ∧ Q k w' := by
  have C := Lib.hid (reach_any h hn m hm p hp hm9)
  have HH := Lib.hid h
  have HS := Lib.hid hs
  have HO := Lib.hid hH
  have HST := Lib.hid ST
  obtain ⟨V, hV⟩ : ∃ V, wv p x = V := ⟨_, rfl⟩
  have V65 := Lib.hid (show V.size = 65 by rw [← hV]; exact wv_size p hx)
  have V1 := Lib.hid (show ∀ v ∈ V.toList, v.oneCell' = true by rw [← hV]; exact wv_one p x)
  have SPL := Lib.hid (show spl (zw p) 1 (List.take 64 (bl x)) = V by rw [← hV]; exact spl_wv p hx)
  rw [hV] at HST
  have HK := Lib.hid hk
  have HX := Lib.hid hx
  clear h hs hH ST hk hx hm hV
  obtain ⟨i0, hi, hz0, hz1, hz2⟩ := info_parts infoW
  obtain ⟨Z, hZ⟩ : ∃ Z, zw p = Z := ⟨_, rfl⟩
  go_enter Try.func18, Try.ntmps18
  go_upto_region 6 with (go_at_call 37; (with_reducible refine C.out.mono ?_); rintro e w1 ⟨rfl, rfl⟩)
  refine wp_region_lit ?_
  refine sq_run (.int .i64 (p : Int)) rfl (by kernel_rfl) ?_
  refine sq_run (.agg Z) rfl (by rw [← hZ]; kernel_rfl) ?_
  refine sq_new (w.alloc (.cells z0 67)) (.pointer (some ⟨w.heap.size, 0, none⟩)) rfl (by kernel_rfl) ?_
  refine sq_store w.heap.size 67 z0 Z (Bl.new_ w _ _) 67 (.tmp 8) (.tmp 19) rfl rfl (by kernel_rfl) (by kernel_rfl) (by rw [← hZ]; kernel_rfl) (by rw [← hZ]; kernel_rfl) (by rw [← hZ]; exact zw_one p) ?_
  intro w1 hb1 hg1
  refine sq_done ?_
  simp only [Act.put, List.setIfInBounds_toArray, List.set_cons_zero, List.set_cons_succ]
  have B1 : Below w.heap.size w w1 := ((Below.refl _ w).alloc (Nat.le_refl _) (.cells z0 67)).grown hg1 (by simp) (by intro k e; cases e; omega)
  have HB1 := Lib.hid hb1
  have HW1 := Lib.hid B1
  have HS1 := Lib.hid (HS.out.below B1)
  have HZ := Lib.hid (show 1 + 64 ≤ Z.size by rw [← hZ]; exact Nat.le_of_ble_eq_true (by kernel_rfl))
  have HG1 := Lib.hid (Gx.of_below (S := g :: H.ownBlock.toList) B1)
  have SV1 := Lib.hid (bl_one x)
  clear hb1 hg1 B1
  go_upto_region 8 with (with_reducible refine wpList_copy_bl rfl (.tmp 21) (.tmp 22) 22 22 rfl 5 Try.underlying22 (by kernel_rfl) w.heap.size 1 64 64 ad 64 xc rfl rfl 67 Z HB1.out (bl x) HS1.out 64 rfl HZ.out SV1.out ?_; intro w2 h2 h3; have HB2 := Lib.hid h2; have HG2 := Lib.hid h3; clear h2 h3)
  simp only [Act.put, List.setIfInBounds_toArray, List.set_cons_zero, List.set_cons_succ]
  have B2 : Below w.heap.size w w2 := HW1.out.grown HG2.out HW1.out.size (by intro k e; cases e; omega)
  have DB2 := HH.out.below B2
  have T2 : Bl w2 w.heap.size 67 V := by have := HB2.out; rw [← hZ, SPL.out] at this; exact this
  have O2 : w2.ownsRow base 67 65 H k xs := HO.out.kept (row := none) ⟨B2.os, B2.tape, B2.output, B2.size, fun k hk _ => B2.block k hk⟩ (by cases H.ownBlock <;> simp)
  have hgl : g < w2.heap.size := (Array.getElem?_eq_some_iff.1 DB2).1
  have hb2 : base ≤ w2.heap.size := Nat.le_trans hb B2.size
  have R1 := XR.mk' (base := base) (g := g) (tb := w.heap.size) (k := k) (V := V) (xs := xs) (H := H) (w := w2) (w0 := w2) (.inl rfl) hb2 DB2.c1 (DB2.fz 1) hgl hHg T2 O2 HK.out V65.out V1.out
  have R2 := XR.mk' (base := base) (g := g) (tb := w.heap.size) (k := k) (V := V) (xs := xs) (H := H) (w := w2) (w0 := w2.drew) (.inr rfl) hb2 DB2.c1 (DB2.fz 1) hgl hHg T2 O2 HK.out V65.out V1.out
  have hmx : Try.prog.follows .mixedOrders = true := by kernel_rfl
  refine wp_region_free (fun i v _ => WT (xsp g V H) i v) (XJ base g w.heap.size k V xs H w2) (fun _ _ => True) hmx (by kernel_rfl) (by kernel_rfl) (fun _ _ _ _ h _ => h) ?h0 ?each ?fin
  case h0 =>
    intro γ
    obtain ⟨v, w', h1⟩ := R1
    obtain ⟨u, w'', h2⟩ := R2
    exact ⟨⟨_, _, _, h2, fun _ => rfl, (fun e => by cases e), (fun e => by cases e), (fun e => by cases e), (fun e => by cases e), (fun e => by cases e), (fun e => by cases e), (fun e => by cases e)⟩, ⟨_, _, _, h1, fun _ => rfl, (fun e => by cases e), (fun e => by cases e), (fun e => by cases e), (fun e => by cases e), (fun e => by cases e), (fun e => by cases e), (fun e => by cases e)⟩⟩
  case fin =>
    intro L γ W hL hT hJ
    obtain ⟨w0, v7, w7, h1, -, -, -, h5, -⟩ := hJ
    have hW := h5 (hL 10 (by decide))
    subst hW
    have DB0 : DB w0 g gb n cp H true st cs cw ch := by rcases h1.start with e | e <;> rw [e] <;> exact DB2
    have G0 : Gx (g :: H.ownBlock.toList) w w0 := by rcases h1.start with e | e <;> rw [e] <;> exact Gx.of_below ⟨B2.os, B2.tape, B2.output, B2.size, B2.block⟩
    have hgA : g < (w0.alloc (.cells V 67)).heap.size := (Array.getElem?_eq_some_iff.1 (Bl.alloc DB0 _)).1
    have DB7 : DB w7 g gb n cp H true st cs cw ch := (h1.grow.block g hgA (Ne.symm hHg)).trans (Bl.alloc DB0 _)
    have G7 : Gx (g :: H.ownBlock.toList) w w7 := (G0.alloc _).trans (Gx.of_grown h1.grow (fun k e => by rw [e]; simp))
    have hv : v7.ownBlock ≠ some g := by
      rcases h1.at_ with e | e
      · rw [e]; exact hHg
      · rw [e]; intro e2; cases e2; omega
    have at7 : v7.ownBlock = H.ownBlock ∨ ∃ q, v7.ownBlock = some q ∧ w.heap.size ≤ q := by
      rcases h1.at_ with e | e
      · exact .inl e
      · exact .inr ⟨_, e, Nat.le_trans G0.size (by simp)⟩
    have CS := Lib.hid (HST.out _ v7 (DB7.set1 v7) (h1.own.kept (grown_set w7 g 1 v7) (.inr hv)) at7 (G7.set (by simp) v7))
    clear hT hL h5 DB0 G0 hgA DB7 G7 hv at7 DB2 T2 O2 R1 R2 B2 h1
    generalize w7.setCell ⟨g, 1, none⟩ v7 = W at CS ⊢
    unfold fr
    simp only [List.map_cons, List.map_nil, Gn.fill, List.setIfInBounds_toArray, List.set_cons_zero, List.set_cons_succ]
    go_wp2_with (go_at_call 32; (with_reducible refine CS.out.mono ?_); rintro e w3 ⟨kk, rfl, hk⟩; have HQ := Lib.hid hk; clear hk)
    go_ret
    exact ⟨kk, rfl, HQ.out⟩
  case each =>
    refine each_ox ?_
    refine Each.cons ?_ <| Each.cons ?_ <| Each.cons ?_ <| Each.cons ?_ <| Each.cons ?_ <| Each.cons ?_ <| Each.cons ?_ <| Each.cons ?_ <| Each.cons ?_ <| Each.cons ?_ <| Each.cons ?_ <| Each.nil
    · exact OX.val (.pointer (some ⟨g, 0, none⟩)) rfl (fun L γ W1 hLi hcl hJ hd => by kernel_rfl) (fun _ => WT.has rfl) (fun L γ W1 hLi hJ => hJ.mark 0 (by decide) (by decide) (by decide) _) (fun _ => trivial)
    · exact OX.val (.pointer (some ⟨g, 0, none⟩)) rfl (fun L γ W1 hLi hcl hJ hd => by kernel_rfl) (fun _ => WT.has rfl) (fun L γ W1 hLi hJ => hJ.mark 1 (by decide) (by decide) (by decide) _) (fun _ => trivial)
    · exact OX.val (.pointer (some ⟨g, 0, none⟩)) rfl (fun L γ W1 hLi hcl hJ hd => run_nil (.tmp 25) rfl g 0 (Eq.trans (b := γ 1) (by kernel_rfl) ((hd 1 (by kernel_rfl)).is (u := .pointer (some ⟨g, 0, none⟩)) rfl))) (fun _ => WT.has rfl) (fun L γ W1 hLi hJ => hJ.mark 2 (by decide) (by decide) (by decide) _) (fun _ => trivial)
    · exact OX.val (.pointer (some ⟨g, 1, none⟩)) rfl (fun L γ W1 hLi hcl hJ hd => run_field1 (.tmp 26) rfl g (Eq.trans (b := γ 2) (by kernel_rfl) ((hd 2 (by kernel_rfl)).is (u := .pointer (some ⟨g, 0, none⟩)) rfl))) (fun _ => WT.has rfl) (fun L γ W1 hLi hJ => hJ.mark 3 (by decide) (by decide) (by decide) _) (fun _ => trivial)
    · exact OX.val (H) rfl (fun L γ W1 hLi hcl hJ hd => run_cell_op 56 (.tmp 27) rfl ⟨g, 1, none⟩ (Eq.trans (b := γ 3) (by kernel_rfl) ((hd 3 (by kernel_rfl)).is (u := .pointer (some ⟨g, 1, none⟩)) rfl)) H (hJ.cell (off' fun e => by have h1 := hcl 10 _ rfl e 7 (by kernel_rfl); have h2 := hcl 7 _ rfl h1 4 (by kernel_rfl); rw [hLi] at h2; cases h2)) _ Try.underlying56 rfl) (fun _ => WT.has rfl) (fun L γ W1 hLi hJ => hJ.mark 4 (by decide) (by decide) (by decide) _) (fun _ => trivial)
    · exact OX.val (.agg V) rfl (fun L γ W1 hLi hcl hJ hd => run_load_bl 67 (.tmp 8) rfl w.heap.size (by kernel_rfl) 67 V (hJ.row (off' fun e => by have h1 := hcl 6 _ rfl e 5 (by kernel_rfl); rw [hLi] at h1; cases h1)) _ Try.underlying67 rfl (by rw [V65.out]; kernel_rfl)) (fun _ => WT.has rfl) (fun L γ W1 hLi hJ => hJ.mark 5 (by decide) (by decide) (by decide) _) (fun _ => trivial)
    · exact OX.new rfl (fun L γ W1 hLi hdep hJ hd => ⟨_, _, run_build_op 56 67 (.tmp 29) rfl V (Eq.trans (b := γ 5) (by kernel_rfl) ((hd 5 (by kernel_rfl)).is (u := .agg V) rfl)) V i0 (.agg z0) Try.underlying56 hi hz0 (by rw [hz1]; decide) (by rw [hz1]; decide) (fill_v V _ V65.out (by rw [hz1]; kernel_rfl) _ hz1), WT.no rfl, hJ.six hLi, trivial⟩)
    · exact OX.new rfl (fun L γ W1 hLi hdep hJ hd => by
        obtain ⟨w0, v7, w7, -, e6, hr, hj⟩ := hJ.seven hLi (hdep 6 (by kernel_rfl))
        exact ⟨v7, w7, run_append_op (.tmp 28) (.tmp 30) 56 rfl H _ v7 w7 (Eq.trans (b := γ 4) (by kernel_rfl) ((hd 4 (by kernel_rfl)).is (u := H) rfl)) (Eq.trans (b := γ 6) (by kernel_rfl) e6) hr, WT.no rfl, hj, trivial⟩)
    · exact OX.val (.pointer (some ⟨g, 0, none⟩)) rfl (fun L γ W1 hLi hcl hJ hd => run_nil (.tmp 24) rfl g 0 (Eq.trans (b := γ 0) (by kernel_rfl) ((hd 0 (by kernel_rfl)).is (u := .pointer (some ⟨g, 0, none⟩)) rfl))) (fun _ => WT.has rfl) (fun L γ W1 hLi hJ => hJ.mark 8 (by decide) (by decide) (by decide) _) (fun _ => trivial)
    · exact OX.val (.pointer (some ⟨g, 1, none⟩)) rfl (fun L γ W1 hLi hcl hJ hd => run_field1 (.tmp 32) rfl g (Eq.trans (b := γ 8) (by kernel_rfl) ((hd 8 (by kernel_rfl)).is (u := .pointer (some ⟨g, 0, none⟩)) rfl))) (fun _ => WT.has rfl) (fun L γ W1 hLi hJ => hJ.mark 9 (by decide) (by decide) (by decide) _) (fun _ => trivial)
    · exact OX.skip rfl (fun L γ W1 hLi hdep hJ hd => by
        obtain ⟨h1, h2, h3, hj⟩ := hJ.ten hLi (hdep 7 (by kernel_rfl))
        exact ⟨_, run_store_at 56 (.tmp 33) (.tmp 31) rfl g 1 (Eq.trans (b := γ 9) (by kernel_rfl) ((hd 9 (by kernel_rfl)).is (u := .pointer (some ⟨g, 1, none⟩)) rfl)) (γ 7) (by kernel_rfl) H h2 h3 (by kernel_rfl) h1, WT.no rfl, hj, trivial⟩)
end
end Go.Proofs.Ytbgkdbjineennaa.Dk
