/- Joined texts. -/
import Derived.Test.YtbgkdbjineennaaQcDkE
set_option linter.unusedVariables false
namespace Go.Proofs.Ytbgkdbjineennaa.Dk
open Go.IntWalk Go.RowKit Go.Proofs.Ytbgkdbjineennaa.Gn Go.Proofs.Ytbgkdbjineennaa.Fd Go.Deep
theorem grown_set(W:World)(b k:Nat)(v:Value):W.grownBy (W.setCell ⟨b,k,none⟩ v) (some b) :=
 ⟨rfl,rfl,rfl,by simp,fun j _ hk=>Below.heap_setCell _ _ _ j (fun e=>hk (by rw[e]))⟩
theorem off'{b:Bool}(h:b=true→False):b=false:=by cases b;rfl;exact(h rfl).elim
theorem run_nil{P:Program}{op:Oper}{a:Act}{w:World}(x:Operand)(ho:op.op=.nilCheck x)(g k:Nat)(hx:a.eval x=.pointer (some ⟨g,k,none⟩)):(execOp a.eval op).run P w=.ok (.value (.pointer (some ⟨g,k,none⟩))) w:=by
 unfold execOp
 rw[ho]
 simp only[hx]
 rfl
theorem run_field1{op:Oper}{a:Act}{w:World}(x:Operand)(ho:op.op=.fieldAddr 60 x 1)(g:Nat)(hx:a.eval x=.pointer (some ⟨g,0,none⟩)):(execOp a.eval op).run Try.prog w=.ok (.value (.pointer (some ⟨g,1,none⟩))) w:=by
 unfold execOp
 rw[ho]
 simp only[hx]
 kernel_rfl
theorem fill_vw(p n:Nat)(hn:n=65):Instr.fill (fun i=>some (i*n,n)) ((Array.range (1*n)).map ((Value.agg z0).cells[· % (Value.agg z0).cells.size]!)) [(0,.agg (vw p))]=some (vw p):=by subst hn;kernel_rfl
section
set_option maxRecDepth 100000 in
set_option maxHeartbeats 4000000 in
theorem Write_any {g gb : Nat} {H : Value} {st : Int} {cs : Bool} {cw : Int} {ch : Value} {w : World} (h : DB w g gb 128 128 H true st cs cw ch) (p : Nat) (hp : p < 2) (ad : Addr) (hs : Sl w (some ad) 64 sv) (base : Nat) (hb : base ≤ w.heap.size) (hH : w.ownsRow base 67 65 H 0 []) (hHg : H.ownBlock ≠ some g) (Q : Int → World → Prop)
    (ST : ∀ w1 H', DB w1 g gb 128 128 H' true st cs cw ch → w1.ownsRow base 67 65 H' 1 (vw p).toList → (H'.ownBlock = H.ownBlock ∨ ∃ q, H'.ownBlock = some q ∧ w.heap.size ≤ q) → Gx (g :: H.ownBlock.toList) w w1 → Calls Try.prog 32 #[.pointer (some ⟨g, 0, none⟩)] w1 fun e w' => ∃ k, e = .returned (.int .i64 k) ∧ Q k w') :
    Calls Try.prog 18 #[.pointer (some ⟨g, 0, none⟩), .int .i64 (p : Int), .slice (some ad) 64 64] w fun e w' => ∃ k, e = .returned (.int .i64 k) ∧ Q k w' := by
  have C := Lib.hid (reach_any h (by decide) 2 rfl p hp (by decide))
  have HH := Lib.hid h
  have HS := Lib.hid hs
  have HO := Lib.hid hH
  have HST := Lib.hid ST
  clear h hs hH ST
  obtain ⟨i0, hi, hz0, hz1, hz2⟩ := info_parts infoW
  obtain ⟨Z, hZ⟩ : ∃ Z, zw p = Z := ⟨_, rfl⟩
  go_enter Try.func18, Try.ntmps18
  go_upto_region 6 with (go_at_call 37; (with_reducible refine C.out.mono ?_); rintro e w1 ⟨rfl, rfl⟩)
  refine wp_region_lit ?_
  refine sq_run (.int .i64 (p : Int)) rfl (by kernel_rfl) ?_
  refine sq_run (.agg Z) rfl (by rw [← hZ]; kernel_rfl) ?_
  refine sq_new (w.alloc (.cells z0 67)) (.pointer (some ⟨w.heap.size, 0, none⟩)) rfl (by kernel_rfl) ?_
  refine sq_store w.heap.size 67 z0 Z (Bl.new_ w _ _) 67 (.tmp 8) (.tmp 19) rfl rfl (by kernel_rfl) (by kernel_rfl) (by rw [← hZ]; kernel_rfl) (by rw [← hZ]; kernel_rfl) (by rw [← hZ]; exact zw_one p) ?_
  intro w1 hb1 hg1
  refine sq_done ?_
  simp only [Act.put, List.setIfInBounds_toArray, List.set_cons_zero, List.set_cons_succ]
  have B1 : Below w.heap.size w w1 := ((Below.refl _ w).alloc (Nat.le_refl _) (.cells z0 67)).grown hg1 (by simp) (by intro k e; cases e; omega)
  have HB1 := Lib.hid hb1
  have HW1 := Lib.hid B1
  have HS1 := Lib.hid (HS.out.below B1)
  have HZ := Lib.hid (show 1 + 64 ≤ Z.size by rw [← hZ]; exact Nat.le_of_ble_eq_true (by kernel_rfl))
  have HG1 := Lib.hid (Gx.of_below (S := g :: H.ownBlock.toList) B1)
  have SV1 := Lib.hid (show ∀ v ∈ sv, v.oneCell' = true from by intro v hv; simp only [sv, List.mem_cons, List.mem_replicate] at hv; rcases hv with rfl | ⟨-, rfl⟩ <;> rfl)
  clear hb1 hg1 B1
  go_upto_region 8 with (with_reducible refine wpList_copy_bl rfl (.tmp 21) (.tmp 22) 22 22 rfl 5 Try.underlying22 (by kernel_rfl) w.heap.size 1 64 64 ad 64 64 rfl rfl 67 Z HB1.out sv HS1.out 64 rfl HZ.out SV1.out ?_; intro w2 h2 h3; have HB2 := Lib.hid h2; have HG2 := Lib.hid h3; clear h2 h3)
  simp only [Act.put, List.setIfInBounds_toArray, List.set_cons_zero, List.set_cons_succ]
  have B2 : Below w.heap.size w w2 := HW1.out.grown HG2.out HW1.out.size (by intro k e; cases e; omega)
  have DB2 := HH.out.below B2
  have T2 : Bl w2 w.heap.size 67 (vw p) := by have := HB2.out; rw [← hZ, show spl (zw p) 1 (List.take 64 sv) = vw p by kernel_rfl] at this; exact this
  have O2 : w2.ownsRow base 67 65 H 0 [] := HO.out.kept (row := none) ⟨B2.os, B2.tape, B2.output, B2.size, fun k hk _ => B2.block k hk⟩ (by cases H.ownBlock <;> simp)
  have hgl : g < w2.heap.size := (Array.getElem?_eq_some_iff.1 DB2).1
  have hb2 : base ≤ w2.heap.size := Nat.le_trans hb B2.size
  have R1 := WR.mk' (base := base) (g := g) (tb := w.heap.size) (p := p) (H := H) (w := w2) (w0 := w2) (.inl rfl) hb2 DB2.c1 (DB2.fz 1) hgl hHg T2 O2
  have R2 := WR.mk' (base := base) (g := g) (tb := w.heap.size) (p := p) (H := H) (w := w2) (w0 := w2.drew) (.inr rfl) hb2 DB2.c1 (DB2.fz 1) hgl hHg T2 O2
  have hmx : Try.prog.follows .mixedOrders = true := by kernel_rfl
  refine wp_region_free (fun i v _ => WT (wsp g p H) i v) (WJ base g w.heap.size p H w2) (fun _ _ => True) hmx (by kernel_rfl) (by kernel_rfl) (fun _ _ _ _ h _ => h) ?h0 ?each ?fin
  case h0 =>
    intro γ
    obtain ⟨v, w', h1⟩ := R1
    obtain ⟨u, w'', h2⟩ := R2
    exact ⟨⟨_, _, _, h2, fun _ => rfl, (fun e => by cases e), (fun e => by cases e), (fun e => by cases e), (fun e => by cases e), (fun e => by cases e), (fun e => by cases e), (fun e => by cases e)⟩, ⟨_, _, _, h1, fun _ => rfl, (fun e => by cases e), (fun e => by cases e), (fun e => by cases e), (fun e => by cases e), (fun e => by cases e), (fun e => by cases e), (fun e => by cases e)⟩⟩
  case fin =>
    intro L γ W hL hT hJ
    obtain ⟨w0, v7, w7, h1, -, -, -, h5, -⟩ := hJ
    have hW := h5 (hL 10 (by decide))
    subst hW
    have DB0 : DB w0 g gb 128 128 H true st cs cw ch := by rcases h1.start with e | e <;> rw [e] <;> exact DB2
    have G0 : Gx (g :: H.ownBlock.toList) w w0 := by rcases h1.start with e | e <;> rw [e] <;> exact Gx.of_below ⟨B2.os, B2.tape, B2.output, B2.size, B2.block⟩
    have hgA : g < (w0.alloc (.cells (vw p) 67)).heap.size := (Array.getElem?_eq_some_iff.1 (Bl.alloc DB0 _)).1
    have DB7 : DB w7 g gb 128 128 H true st cs cw ch := (h1.grow.block g hgA (Ne.symm hHg)).trans (Bl.alloc DB0 _)
    have G7 : Gx (g :: H.ownBlock.toList) w w7 := (G0.alloc _).trans (Gx.of_grown h1.grow (fun k e => by rw [e]; simp))
    have hv : v7.ownBlock ≠ some g := by
      rcases h1.at_ with e | e
      · rw [e]; exact hHg
      · rw [e]; intro e2; cases e2; omega
    have at7 : v7.ownBlock = H.ownBlock ∨ ∃ q, v7.ownBlock = some q ∧ w.heap.size ≤ q := by
      rcases h1.at_ with e | e
      · exact .inl e
      · exact .inr ⟨_, e, Nat.le_trans G0.size (by simp)⟩
    have CS := Lib.hid (HST.out _ v7 (DB7.set1 v7) (h1.own.kept (grown_set w7 g 1 v7) (.inr hv)) at7 (G7.set (by simp) v7))
    clear hT hL h5 DB0 G0 hgA DB7 G7 hv at7 DB2 T2 O2 R1 R2 B2 h1
    generalize w7.setCell ⟨g, 1, none⟩ v7 = W at CS ⊢
    unfold fr
    simp only [List.map_cons, List.map_nil, Gn.fill, List.setIfInBounds_toArray, List.set_cons_zero, List.set_cons_succ]
    go_wp2_with (go_at_call 32; (with_reducible refine CS.out.mono ?_); rintro e w3 ⟨k, rfl, hk⟩; have HK := Lib.hid hk; clear hk)
    go_ret
    exact ⟨k, rfl, HK.out⟩
  case each =>
    refine each_ox ?_
    refine Each.cons ?_ <| Each.cons ?_ <| Each.cons ?_ <| Each.cons ?_ <| Each.cons ?_ <| Each.cons ?_ <| Each.cons ?_ <| Each.cons ?_ <| Each.cons ?_ <| Each.cons ?_ <| Each.cons ?_ <| Each.nil
    · exact OX.val (.pointer (some ⟨g, 0, none⟩)) rfl (fun L γ W1 hLi hcl hJ hd => by kernel_rfl) (fun _ => WT.has rfl) (fun L γ W1 hLi hJ => hJ.mark 0 (by decide) (by decide) (by decide) _) (fun _ => trivial)
    · exact OX.val (.pointer (some ⟨g, 0, none⟩)) rfl (fun L γ W1 hLi hcl hJ hd => by kernel_rfl) (fun _ => WT.has rfl) (fun L γ W1 hLi hJ => hJ.mark 1 (by decide) (by decide) (by decide) _) (fun _ => trivial)
    · exact OX.val (.pointer (some ⟨g, 0, none⟩)) rfl (fun L γ W1 hLi hcl hJ hd => run_nil (.tmp 25) rfl g 0 (Eq.trans (b := γ 1) (by kernel_rfl) ((hd 1 (by kernel_rfl)).is (u := .pointer (some ⟨g, 0, none⟩)) rfl))) (fun _ => WT.has rfl) (fun L γ W1 hLi hJ => hJ.mark 2 (by decide) (by decide) (by decide) _) (fun _ => trivial)
    · exact OX.val (.pointer (some ⟨g, 1, none⟩)) rfl (fun L γ W1 hLi hcl hJ hd => run_field1 (.tmp 26) rfl g (Eq.trans (b := γ 2) (by kernel_rfl) ((hd 2 (by kernel_rfl)).is (u := .pointer (some ⟨g, 0, none⟩)) rfl))) (fun _ => WT.has rfl) (fun L γ W1 hLi hJ => hJ.mark 3 (by decide) (by decide) (by decide) _) (fun _ => trivial)
    · exact OX.val (H) rfl (fun L γ W1 hLi hcl hJ hd => run_cell_op 56 (.tmp 27) rfl ⟨g, 1, none⟩ (Eq.trans (b := γ 3) (by kernel_rfl) ((hd 3 (by kernel_rfl)).is (u := .pointer (some ⟨g, 1, none⟩)) rfl)) H (hJ.cell (off' fun e => by have h1 := hcl 10 _ rfl e 7 (by kernel_rfl); have h2 := hcl 7 _ rfl h1 4 (by kernel_rfl); rw [hLi] at h2; cases h2)) _ Try.underlying56 rfl) (fun _ => WT.has rfl) (fun L γ W1 hLi hJ => hJ.mark 4 (by decide) (by decide) (by decide) _) (fun _ => trivial)
    · exact OX.val (.agg (vw p)) rfl (fun L γ W1 hLi hcl hJ hd => run_load_bl 67 (.tmp 8) rfl w.heap.size (by kernel_rfl) 67 (vw p) (hJ.row (off' fun e => by have h1 := hcl 6 _ rfl e 5 (by kernel_rfl); rw [hLi] at h1; cases h1)) _ Try.underlying67 rfl (by kernel_rfl)) (fun _ => WT.has rfl) (fun L γ W1 hLi hJ => hJ.mark 5 (by decide) (by decide) (by decide) _) (fun _ => trivial)
    · exact OX.new rfl (fun L γ W1 hLi hdep hJ hd => ⟨_, _, run_build_op 56 67 (.tmp 29) rfl (vw p) (Eq.trans (b := γ 5) (by kernel_rfl) ((hd 5 (by kernel_rfl)).is (u := .agg (vw p)) rfl)) (vw p) i0 (.agg z0) Try.underlying56 hi hz0 (by rw [hz1]; decide) (by rw [hz1]; decide) (fill_vw p _ hz1), WT.no rfl, hJ.six hLi, trivial⟩)
    · exact OX.new rfl (fun L γ W1 hLi hdep hJ hd => by
        obtain ⟨w0, v7, w7, -, e6, hr, hj⟩ := hJ.seven hLi (hdep 6 (by kernel_rfl))
        exact ⟨v7, w7, run_append_op (.tmp 28) (.tmp 30) 56 rfl H _ v7 w7 (Eq.trans (b := γ 4) (by kernel_rfl) ((hd 4 (by kernel_rfl)).is (u := H) rfl)) (Eq.trans (b := γ 6) (by kernel_rfl) e6) hr, WT.no rfl, hj, trivial⟩)
    · exact OX.val (.pointer (some ⟨g, 0, none⟩)) rfl (fun L γ W1 hLi hcl hJ hd => run_nil (.tmp 24) rfl g 0 (Eq.trans (b := γ 0) (by kernel_rfl) ((hd 0 (by kernel_rfl)).is (u := .pointer (some ⟨g, 0, none⟩)) rfl))) (fun _ => WT.has rfl) (fun L γ W1 hLi hJ => hJ.mark 8 (by decide) (by decide) (by decide) _) (fun _ => trivial)
    · exact OX.val (.pointer (some ⟨g, 1, none⟩)) rfl (fun L γ W1 hLi hcl hJ hd => run_field1 (.tmp 32) rfl g (Eq.trans (b := γ 8) (by kernel_rfl) ((hd 8 (by kernel_rfl)).is (u := .pointer (some ⟨g, 0, none⟩)) rfl))) (fun _ => WT.has rfl) (fun L γ W1 hLi hJ => hJ.mark 9 (by decide) (by decide) (by decide) _) (fun _ => trivial)
    · exact OX.skip rfl (fun L γ W1 hLi hdep hJ hd => by
        obtain ⟨h1, h2, h3, hj⟩ := hJ.ten hLi (hdep 7 (by kernel_rfl))
        exact ⟨_, run_store_at 56 (.tmp 33) (.tmp 31) rfl g 1 (Eq.trans (b := γ 9) (by kernel_rfl) ((hd 9 (by kernel_rfl)).is (u := .pointer (some ⟨g, 1, none⟩)) rfl)) (γ 7) (by kernel_rfl) H h2 h3 (by kernel_rfl) h1, WT.no rfl, hj, trivial⟩)
end
end Go.Proofs.Ytbgkdbjineennaa.Dk
