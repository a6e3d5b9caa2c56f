/- Joined texts. -/
import Derived.Test.YteblmphohhbgcaaQaMtR
set_option linter.unusedVariables false
namespace Go.Proofs.Yteblmphohhbgcaa.Mt
open Go.RowKit Go.Proofs.Yteblmphohhbgcaa.Gn Go.Proofs.Yteblmphohhbgcaa.Fd Go.Proofs.Yteblmphohhbgcaa.Wr Go.Deep
theorem JP.fr'{d:Nat}{P:Tv→Prop}{w:World}{lo g:Nat}{wr:Bool}{K:Nat}{ks:List Tv}{T:Value}{L:Nat→Bool}{γ:Nat→Value}{W:World}(h:JP d P w lo g wr K ks T L γ W):Fr w W g T (if L (10+d)=true then γ (10+d) else T):=PJ.fr h
set_option maxHeartbeats 4000000 in
theorem right_w{w:World}{g:Nat}{wr:Bool}{T:Value}(h:Bl w g 94 #[.pointer none,T,.bool wr]):Calls Try.prog 42 #[.pointer (some ⟨g,0,none⟩)] w fun e w'=>e=.returned (.bool (!wr))∧w=w':=by
 have CR:=Lib.hid (reads_no h)
 have r2:w.cell? ⟨g,2,none⟩=some (.bool wr):=h.cell_ rfl
 clear h
 cases wr <;>
 ·go_enter Try.func42,Try.ntmps42
  go_wp2_with (go_at_call 65;(refine CR.out.mono ?_);rintro e w1 ⟨rfl,rfl⟩)
  go_ret
  exact⟨rfl,rfl⟩
theorem new_px(w:World):Px (w.alloc (.cells #[.pointer none,.slice none 0 0,.bool false] 94)) w.heap.size w.heap.size false 0 [] :=
 ⟨[],.slice none 0 0,⟨Bl.new_ w _ _,World.ownsRow_nil _ _ _ _,fun t ht=>(List.not_mem_nil ht).elim,by rw[liess];trivial,Nat.le_refl _,by rw[szs];exact Nat.le_refl _,by rw[liess];trivial⟩,fun _=>by rw[nds]⟩
set_option maxHeartbeats 4000000 in
theorem open_w{w:World}{g:Nat}{wr:Bool}{T:Value}(h:Bl w g 94 #[.pointer none,T,.bool wr]):Calls Try.prog 68 #[.pointer (some ⟨g,0,none⟩)] w fun e w'=>e=.returned (.tuple #[.pointer (some ⟨w.heap.size,0,none⟩),.int .i64 0])∧Px w' w.heap.size w.heap.size false 0 []∧Below w.heap.size w w':=by
 have CR:=Lib.hid (reads_no h)
 have X:=Lib.hid (new_px w)
 have B:=Lib.hid (below_one w (.cells #[.pointer none,.slice none 0 0,.bool false] 94))
 clear h
 go_enter Try.func68,Try.ntmps68
 go_wp2_with (go_at_call 65;(refine CR.out.mono ?_);rintro e w1 ⟨rfl,rfl⟩)
 go_ret2
 exact⟨rfl,X.out,B.out⟩
abbrev lN(us:List Nd):Nd:=.mk 3 0 [] us
set_option maxRecDepth 100000 in
set_option maxHeartbeats 4000000 in
theorem end_w {w : World} {lo g : Nat} {wr : Bool} {K : Nat} {ks : List Tv} {T : Value} (h : Pw w lo g wr K ks T) {lo2 g2 : Nat} {wr2 : Bool} {K2 : Nat} {us : List Tv} {A2 : Option Addr} {m2 c2 : Nat} (h2 : Pw w lo2 g2 wr2 K2 us (.slice A2 m2 c2)) (hg : g < lo2) (hT : ∀ k, T.ownBlock = some k → k < lo2) (hK : K ≤ 1000000) (hK2 : K2 ≤ 900000) :
    Calls Try.prog 70 #[.pointer (some ⟨g, 0, none⟩), .pointer (some ⟨g2, 0, none⟩)] w fun e w' => e = .returned (.tuple #[]) ∧ ∃ t T', Pw w' lo g (wr || !!wr2) (K + (1 + K2)) (ks ++ [t]) T' ∧ Wr.nd t = lN (nds us) ∧ Fr w w' g T T' ∧ Below lo w w' := by
  have CR := Lib.hid (right_w h2.bl)
  have CM := Lib.hid (must_any h.bl (!wr2))
  have hne := Lib.hid (show g2 ≠ g from by have := h2.low; omega)
  have HP := Lib.hid h
  have H2 := Lib.hid h2
  have HG := Lib.hid hg
  have HT := Lib.hid hT
  have KL := Lib.hid (Nat.le_trans (len_sz h.sz) hK)
  have K9 := Lib.hid hK2
  obtain ⟨i0, hi, hz0, hz1, hz2⟩ := info_parts infoN
  clear h h2 hg hT hK hK2
  go_enter Try.func70, Try.ntmps70
  go_upto_region 2 with (first
    | (go_at_call 42; (refine CR.out.mono ?_); rintro e w1 ⟨rfl, rfl⟩)
    | (go_at_call 69; (refine CM.out.mono ?_); rintro e w1 ⟨rfl, hp, hg⟩; obtain ⟨wr', hw, q1, q2, q3⟩ := HP.out.flag' hp hg; have EW := Lib.hid hw; have P1 := Lib.hid q1; have F1 := Lib.hid q2; have D1 := Lib.hid q3; have B1 := Lib.hid (q2.bl H2.out.bl hne.out (own_ne HP.out.own H2.out.bl (by decide))); have CS := Lib.hid (reads_no q1.bl); clear hp hg hw q1 q2 q3)
    | (go_at_call 65; (refine CS.out.mono ?_); rintro e w2 ⟨rfl, rfl⟩))
  clear CR CM CS
  have hmx : Try.prog.follows .mixedOrders = true := by kernel_rfl
  refine wp_region_free (fun i v _ => WT [some (.pointer (some ⟨g, 0, none⟩)), some (.pointer (some ⟨g, 0, none⟩)), some (.pointer (some ⟨g, 1, none⟩)), some T, some (.pointer (some ⟨g2, 0, none⟩)), some (.pointer (some ⟨g2, 0, none⟩)), some (.pointer (some ⟨g2, 1, none⟩)), some (.slice A2 m2 c2), none, some (.int .i64 (ks.length : Int)), none, none, none, none, some (.pointer (some ⟨g, 0, none⟩)), some (.pointer (some ⟨g, 1, none⟩)), none] i v) (JP 1 (fun t => Wr.nd t = lN (nds us) ∧ Wr.sz t ≤ 1 + K2) w1 lo g wr' K ks T) (fun _ _ => True) hmx (by kernel_rfl) (by kernel_rfl) (fun _ _ _ _ h _ => h) ?h0 ?each ?fin
  case h0 =>
    intro γ
    exact ⟨PJ.start P1.out (below_drewN (Below.refl _ w1) 1), PJ.start P1.out (Below.refl _ w1)⟩
  case fin =>
    intro L γ W hL hT hJ
    obtain ⟨t, ⟨ht1, ht2⟩, p2, f2, d2⟩ := hJ.whole' (hL 8 (by decide)) (hL 10 (by decide)) (hL 11 (by decide)) (hL 12 (by decide)) (hL 13 (by decide)) (hL 16 (by decide)) (J := 1 + K2) (fun t e => e.2)
    have P2 := Lib.hid p2
    have F2 := Lib.hid (F1.out.trans f2)
    have D2 := Lib.hid (D1.out.trans d2)
    have N2 := Lib.hid ht1
    clear hJ hT hL p2 f2 d2 ht1 ht2
    unfold fr
    simp only [List.map_cons, List.map_nil, Gn.fill, List.setIfInBounds_toArray, List.set_cons_zero, List.set_cons_succ]
    go_wp2_with fail
    first | go_end0 | refine bodyPost_ret (results_none rfl _ _ _) rfl ?_
    rw [← EW.out]
    exact ⟨rfl, t, _, P2.out, N2.out, F2.out, D2.out⟩
  case each =>
    refine each_ox ?_
    refine Each.cons ?_ <| Each.cons ?_ <| Each.cons ?_ <| Each.cons ?_ <| Each.cons ?_ <| Each.cons ?_ <| Each.cons ?_ <| Each.cons ?_ <| Each.cons ?_ <| Each.cons ?_ <| Each.cons ?_ <| Each.cons ?_ <| Each.cons ?_ <| Each.cons ?_ <| Each.cons ?_ <| Each.cons ?_ <| Each.cons ?_ <| Each.nil
    · exact OX.val (.pointer (some ⟨g, 0, none⟩)) rfl (fun L γ W1 hLi hcl hJ hd => by kernel_rfl) (fun _ => WT.has rfl) (fun L γ W1 hLi hJ => hJ.mark 0 _ (by omega)) (fun _ => trivial)
    · exact OX.val (.pointer (some ⟨g, 0, none⟩)) rfl (fun L γ W1 hLi hcl hJ hd => run_nil_op (.tmp 11) rfl ⟨g, 0, none⟩ (Eq.trans (b := γ 0) (by kernel_rfl) ((hd 0 (by kernel_rfl)).is (u := .pointer (some ⟨g, 0, none⟩)) rfl))) (fun _ => WT.has rfl) (fun L γ W1 hLi hJ => hJ.mark 1 _ (by omega)) (fun _ => trivial)
    · exact OX.val (.pointer (some ⟨g, 1, none⟩)) rfl (fun L γ W1 hLi hcl hJ hd => run_made_op (.tmp 12) rfl g (Eq.trans (b := γ 1) (by kernel_rfl) ((hd 1 (by kernel_rfl)).is (u := .pointer (some ⟨g, 0, none⟩)) rfl))) (fun _ => WT.has rfl) (fun L γ W1 hLi hJ => hJ.mark 2 _ (by omega)) (fun _ => trivial)
    · exact OX.val (T) rfl (fun L γ W1 hLi hcl hJ hd => run_cell_op 78 (.tmp 13) rfl ⟨g, 1, none⟩ (Eq.trans (b := γ 2) (by kernel_rfl) ((hd 2 (by kernel_rfl)).is (u := .pointer (some ⟨g, 1, none⟩)) rfl)) T (hJ.cell1 (off' fun e => by have h1 := hcl 16 _ rfl e 11 (by kernel_rfl); have h2 := hcl 11 _ rfl h1 3 (by kernel_rfl); rw [hLi] at h2; cases h2)).1 _ Try.underlying78 rfl) (fun _ => WT.has rfl) (fun L γ W1 hLi hJ => hJ.mark 3 _ (by omega)) (fun _ => trivial)
    · exact OX.val (.pointer (some ⟨g2, 0, none⟩)) rfl (fun L γ W1 hLi hcl hJ hd => by kernel_rfl) (fun _ => WT.has rfl) (fun L γ W1 hLi hJ => hJ.mark 4 _ (by omega)) (fun _ => trivial)
    · exact OX.val (.pointer (some ⟨g2, 0, none⟩)) rfl (fun L γ W1 hLi hcl hJ hd => run_nil_op (.tmp 15) rfl ⟨g2, 0, none⟩ (Eq.trans (b := γ 4) (by kernel_rfl) ((hd 4 (by kernel_rfl)).is (u := .pointer (some ⟨g2, 0, none⟩)) rfl))) (fun _ => WT.has rfl) (fun L γ W1 hLi hJ => hJ.mark 5 _ (by omega)) (fun _ => trivial)
    · exact OX.val (.pointer (some ⟨g2, 1, none⟩)) rfl (fun L γ W1 hLi hcl hJ hd => run_made_op (.tmp 16) rfl g2 (Eq.trans (b := γ 5) (by kernel_rfl) ((hd 5 (by kernel_rfl)).is (u := .pointer (some ⟨g2, 0, none⟩)) rfl))) (fun _ => WT.has rfl) (fun L γ W1 hLi hJ => hJ.mark 6 _ (by omega)) (fun _ => trivial)
    · exact OX.val (.slice A2 m2 c2) rfl (fun L γ W1 hLi hcl hJ hd => run_cell_op 78 (.tmp 17) rfl ⟨g2, 1, none⟩ (Eq.trans (b := γ 6) (by kernel_rfl) ((hd 6 (by kernel_rfl)).is (u := .pointer (some ⟨g2, 1, none⟩)) rfl)) _ ((hJ.fr'.bl B1.out hne.out (own_ne P1.out.own B1.out (by decide))).cell_ rfl) _ Try.underlying78 rfl) (fun _ => WT.has rfl) (fun L γ W1 hLi hJ => hJ.mark 7 _ (by omega)) (fun _ => trivial)
    · exact OX.callx rfl (fun L γ W1 hLi hdep hJ hd => ⟨34, #[γ 7], by kernel_rfl, by
        rw [(hd 7 (by kernel_rfl)).is (u := .slice A2 m2 c2) rfl]
        have FF := F1.out.trans hJ.fr'
        have keep : ∀ k, lo2 ≤ k → k < w.heap.size → W1.heap[k]? = w.heap[k]? := fun k hk hlt => FF.keep k hlt (by have := HG.out; omega) (fun e => by have := HT.out k e; omega)
        obtain ⟨A', c', e', s1, s2, s3, s4⟩ := own_form H2.out.own
        cases e'
        have hs : Sl W1 A2 (4 * us.length) (flat us) := by
          rw [Nat.mul_comm]
          exact Sl.kept s1 (fun ad e _ hlt => keep _ (s4 ad e).1 hlt)
        refine (List_any hs s3 s2 (fun t ht => (H2.out.ok t ht).kept (liess_mem.1 H2.out.up t ht) keep) (Nat.le_trans H2.out.sz K9.out) W1 (Below.refl _ _)).mono ?_
        rintro e w' ⟨vs, A3, c3, ⟨he, hok, hbw⟩, hn, hli⟩
        have hvs : szs vs = szs us := by
          have h1 := (nds_all vs (kids_ok hok)).2.2.2
          have h2 := (nds_all us H2.out.ok).2.2.2
          rw [h1, h2]; exact congrArg szns hn
        exact ⟨_, he, WT.no rfl, hJ.called hLi hbw ⟨by rw [Wr.nd, hn], by rw [Wr.sz, hvs]; have := H2.out.sz; show 1 + 0 + szs us ≤ 1 + K2; omega⟩ hok hli, trivial⟩⟩)
    · exact OX.val (.int .i64 (ks.length : Int)) rfl (fun L γ W1 hLi hcl hJ hd => run_len_op (.tmp 14) 78 rfl T _ (Eq.trans (b := γ 3) (by kernel_rfl) ((hd 3 (by kernel_rfl)).is (u := T) rfl)) (by obtain ⟨A, c, e⟩ := hJ.made; rw [e]; exact len_run W1 A _ c _)) (fun _ => WT.has rfl) (fun L γ W1 hLi hJ => hJ.mark 9 _ (by omega)) (fun _ => trivial)
    · exact OX.new rfl (fun L γ W1 hLi hdep hJ hd => ⟨_, _, run_build_op 78 80 (.const (.agg nz.toArray)) rfl nz.toArray rfl nz.toArray i0 (.agg nz.toArray) Try.underlying78 hi hz0 (by rw [hz1]; decide) (by rw [hz1]; decide) (fill_nz _ hz1), WT.no rfl, hJ.built hLi, trivial⟩)
    · exact OX.new rfl (fun L γ W1 hLi hdep hJ hd => by
        obtain ⟨z, v', w', e9, hr, hj⟩ := hJ.appended hLi (hdep 10 (by kernel_rfl)) KL.out
        exact ⟨v', w', run_append_op (.tmp 14) (.tmp 21) 78 rfl T _ v' w' (Eq.trans (b := γ 3) (by kernel_rfl) ((hd 3 (by kernel_rfl)).is (u := T) rfl)) (Eq.trans (b := γ 10) (by kernel_rfl) e9) hr, WT.no rfl, hj, trivial⟩)
    · exact OX.new rfl (fun L γ W1 hLi hdep hJ hd => by
        obtain ⟨q, cap, e10, hj⟩ := hJ.indexed hLi (hdep 11 (by kernel_rfl))
        exact ⟨_, W1, run_ix_op 78 (.tmp 22) (.tmp 20) rfl _ (.int .i64 (ks.length : Int)) _ (Eq.trans (b := γ 11) (by kernel_rfl) e10) (Eq.trans (b := γ 9) (by kernel_rfl) ((hd 9 (by kernel_rfl)).is (u := .int .i64 (ks.length : Int)) rfl)) (ix_run W1 q _ cap _ (Nat.lt_succ_self _)), WT.no rfl, hj, trivial⟩)
    · exact OX.skip rfl (fun L γ W1 hLi hdep hJ hd => by
        obtain ⟨t, q, w', e7, e11, hr, hj⟩ := hJ.stored hLi (hdep 12 (by kernel_rfl)) (hdep 8 (by kernel_rfl)) undef
        exact ⟨w', run_store_row 80 (.tmp 23) (.tmp 19) rfl ⟨q, ks.length * 4, none⟩ (Eq.trans (b := γ 12) (by kernel_rfl) e11) t.row.toArray (Eq.trans (b := γ 8) (by kernel_rfl) (e7.trans (val_row t))) 4 (row_len t) size34 hr, WT.no rfl, hj, trivial⟩)
    · exact OX.val (.pointer (some ⟨g, 0, none⟩)) rfl (fun L γ W1 hLi hcl hJ hd => run_nil_op (.tmp 11) rfl ⟨g, 0, none⟩ (Eq.trans (b := γ 0) (by kernel_rfl) ((hd 0 (by kernel_rfl)).is (u := .pointer (some ⟨g, 0, none⟩)) rfl))) (fun _ => WT.has rfl) (fun L γ W1 hLi hJ => hJ.mark 14 _ (by omega)) (fun _ => trivial)
    · exact OX.val (.pointer (some ⟨g, 1, none⟩)) rfl (fun L γ W1 hLi hcl hJ hd => run_made_op (.tmp 24) rfl g (Eq.trans (b := γ 14) (by kernel_rfl) ((hd 14 (by kernel_rfl)).is (u := .pointer (some ⟨g, 0, none⟩)) rfl))) (fun _ => WT.has rfl) (fun L γ W1 hLi hJ => hJ.mark 15 _ (by omega)) (fun _ => trivial)
    · exact OX.skip rfl (fun L γ W1 hLi hdep hJ hd => by
        obtain ⟨h1, hj⟩ := hJ.field hLi (hdep 11 (by kernel_rfl)) undef
        obtain ⟨h2, h3⟩ := hJ.cell1 hLi
        exact ⟨_, run_store_at 78 (.tmp 25) (.tmp 22) rfl g 1 (Eq.trans (b := γ 15) (by kernel_rfl) ((hd 15 (by kernel_rfl)).is (u := .pointer (some ⟨g, 1, none⟩)) rfl)) (γ 11) (by kernel_rfl) T h2 h3 (by kernel_rfl) h1, WT.no rfl, hj, trivial⟩)
end Go.Proofs.Yteblmphohhbgcaa.Mt
