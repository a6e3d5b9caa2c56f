/- Joined texts. -/
import Derived.Test.YteblmphohhbgcaaQaMtQ
set_option linter.unusedVariables false
namespace Go.Proofs.Yteblmphohhbgcaa.Mt
open Go.RowKit Go.Proofs.Yteblmphohhbgcaa.Gn Go.Proofs.Yteblmphohhbgcaa.Fd Go.Proofs.Yteblmphohhbgcaa.Wr Go.Deep
abbrev bN(l:List Nat):Nd:=.mk 2 0 l []
theorem JP.low{d:Nat}{P:Tv→Prop}{w:World}{lo g:Nat}{wr:Bool}{K:Nat}{ks:List Tv}{T:Value}{L:Nat→Bool}{γ:Nat→Value}{W:World}(h:JP d P w lo g wr K ks T L γ W):Below lo w W:=PJ.low h
set_option maxRecDepth 100000 in
set_option maxHeartbeats 4000000 in
theorem bytes_x {w : World} {lo g : Nat} {wr : Bool} {K : Nat} {N : List Nd} (h : Px w lo g wr K N) {bb o : Nat} {t : TypeId} {cs : Array Value} (hb : Bl w bb t cs) {rA : Option Addr} {rn rc : Nat} {rl : List Nat} (ho : cs[o]? = some (.slice rA rn rc)) (hp : Pc w (rA, rn, rc, rl)) (hin : ∀ ad, rA = some ad → 0 < rl.length → ad.block < lo) (hr9 : rn ≤ 1000000) (t1 : t ≠ 94) (t2 : t ≠ 80) (hK : K ≤ 1000000) (x y : Int) :
    Calls Try.prog 52 #[.pointer (some ⟨g, 0, none⟩), .pointer (some ⟨bb, o, none⟩), .int .i64 x, .int .i64 y] w fun e w' => e = .returned (.tuple #[]) ∧ Px w' lo g (wr || !(decide (x ≤ (rn : Int)) && decide ((rn : Int) ≤ y))) (K + (1 + rn)) (N ++ [bN rl]) ∧ Fz lo g w w' := by
  obtain ⟨ks, T, hpw, hN⟩ := h
  have CR := Lib.hid (reads_no hpw.bl)
  have CM := Lib.hid (fun b => must_any hpw.bl b)
  have c0 : w.cell? ⟨bb, o, none⟩ = some (.slice rA rn rc) := hb.cell_ ho
  have HP := Lib.hid hpw
  have HN := Lib.hid hN
  have HB := Lib.hid hb
  have HO := Lib.hid ho
  have HPC := Lib.hid hp
  have HIN := Lib.hid hin
  have R9 := Lib.hid hr9
  have KL := Lib.hid (Nat.le_trans (len_sz hpw.sz) hK)
  have T1 := Lib.hid t1
  have T2 := Lib.hid t2
  obtain ⟨i0, hi, hz0, hz1, hz2⟩ := info_parts infoN
  clear hpw hN hb ho hK t1 t2 hp hin hr9
  by_cases hx : x ≤ (rn : Int)
  · rw [decide_eq_true hx, Bool.true_and]
    go_enter Try.func52, Try.ntmps52
    go_upto_region 3 with (first
      | (go_at_call 65; (refine CR.out.mono ?_); rintro e w1 ⟨rfl, rfl⟩)
      | (go_at_call 69; (refine (CM.out _).mono ?_); rintro e w1 ⟨rfl, hp, hg⟩; obtain ⟨wr', hw, q1, q2, q3⟩ := HP.out.flag' hp hg; have EW := Lib.hid hw; have P1 := Lib.hid q1; have F1 := Lib.hid q2; have D1 := Lib.hid q3; have B1 := Lib.hid (q2.bl HB.out (bl_ne HB.out HP.out.bl T1.out) (own_ne HP.out.own HB.out T2.out)); clear hp hg hw q1 q2 q3))
    clear CR CM c0
    have c2 : w1.cell? ⟨g, 2, none⟩ = some (.bool wr') := P1.out.bl.cell_ rfl
    have C1 := Lib.hid (pc_low HPC.out HIN.out D1.out)
    cases wr' with
    | true =>
      go_wp2_with fail
      first | go_end0 | refine bodyPost_ret (results_none rfl _ _ _) rfl ?_
      rw [← EW.out]
      exact ⟨rfl, ⟨ks, T, ⟨P1.out.bl, P1.out.own, P1.out.ok, P1.out.aw, P1.out.low, Nat.le_trans P1.out.sz (Nat.le_add_right _ _), P1.out.up⟩, (fun e => by cases e)⟩, .of HP.out F1.out D1.out⟩
    | false =>
      go_upto_region 4 with (fail)
      clear c2
      have hmx : Try.prog.follows .mixedOrders = true := by kernel_rfl
      refine wp_region_free (fun i v _ => WT [some (.pointer (some ⟨g, 0, none⟩)), some (.pointer (some ⟨g, 0, none⟩)), some (.pointer (some ⟨g, 1, none⟩)), some T, some (.pointer (some ⟨bb, o, none⟩)), some (.pointer (some ⟨bb, o, none⟩)), some (.slice rA rn rc), none, some (.int .i64 (ks.length : Int)), none, none, none, none, some (.pointer (some ⟨g, 0, none⟩)), some (.pointer (some ⟨g, 1, none⟩)), none] i v) (JP 0 (fun t => Wr.nd t = bN rl ∧ Wr.sz t ≤ 1 + rn) w1 lo g false K ks T) (fun _ _ => True) hmx (by kernel_rfl) (by kernel_rfl) (fun _ _ _ _ h _ => h) ?h0 ?each ?fin
      case h0 =>
        intro γ
        exact ⟨PJ.start P1.out (below_drewN (Below.refl _ w1) 1), PJ.start P1.out (Below.refl _ w1)⟩
      case fin =>
        intro L γ W hL hT hJ
        obtain ⟨t, ⟨ht1, ht2⟩, p2, f2, d2⟩ := hJ.whole' (hL 7 (by decide)) (hL 9 (by decide)) (hL 10 (by decide)) (hL 11 (by decide)) (hL 12 (by decide)) (hL 15 (by decide)) (J := 1 + rn) (fun t e => e.2)
        have P2 := Lib.hid p2
        have F2 := Lib.hid (F1.out.trans f2)
        have D2 := Lib.hid (D1.out.trans d2)
        have N2 := Lib.hid (show nds (ks ++ [t]) = N ++ [bN rl] from by rw [nds_snoc, HN.out (or_false EW.out.symm).1, ht1])
        clear hJ hT hL p2 f2 d2 ht1 ht2
        unfold fr
        simp only [List.map_cons, List.map_nil, Gn.fill, List.setIfInBounds_toArray, List.set_cons_zero, List.set_cons_succ]
        go_wp2_with fail
        first | go_end0 | refine bodyPost_ret (results_none rfl _ _ _) rfl ?_
        rw [← EW.out]
        exact ⟨rfl, ⟨_, _, P2.out, fun _ => N2.out⟩, .of HP.out F2.out D2.out⟩
      case each =>
        refine each_ox ?_
        refine Each.cons ?_ <| Each.cons ?_ <| Each.cons ?_ <| Each.cons ?_ <| Each.cons ?_ <| Each.cons ?_ <| Each.cons ?_ <| Each.cons ?_ <| Each.cons ?_ <| Each.cons ?_ <| Each.cons ?_ <| Each.cons ?_ <| Each.cons ?_ <| Each.cons ?_ <| Each.cons ?_ <| Each.cons ?_ <| Each.nil
        · exact OX.val (.pointer (some ⟨g, 0, none⟩)) rfl (fun L γ W1 hLi hcl hJ hd => by kernel_rfl) (fun _ => WT.has rfl) (fun L γ W1 hLi hJ => hJ.mark 0 _ (by omega)) (fun _ => trivial)
        · exact OX.val (.pointer (some ⟨g, 0, none⟩)) rfl (fun L γ W1 hLi hcl hJ hd => run_nil_op (.tmp 40) rfl ⟨g, 0, none⟩ (Eq.trans (b := γ 0) (by kernel_rfl) ((hd 0 (by kernel_rfl)).is (u := .pointer (some ⟨g, 0, none⟩)) rfl))) (fun _ => WT.has rfl) (fun L γ W1 hLi hJ => hJ.mark 1 _ (by omega)) (fun _ => trivial)
        · exact OX.val (.pointer (some ⟨g, 1, none⟩)) rfl (fun L γ W1 hLi hcl hJ hd => run_made_op (.tmp 41) rfl g (Eq.trans (b := γ 1) (by kernel_rfl) ((hd 1 (by kernel_rfl)).is (u := .pointer (some ⟨g, 0, none⟩)) rfl))) (fun _ => WT.has rfl) (fun L γ W1 hLi hJ => hJ.mark 2 _ (by omega)) (fun _ => trivial)
        · exact OX.val (T) rfl (fun L γ W1 hLi hcl hJ hd => run_cell_op 78 (.tmp 42) rfl ⟨g, 1, none⟩ (Eq.trans (b := γ 2) (by kernel_rfl) ((hd 2 (by kernel_rfl)).is (u := .pointer (some ⟨g, 1, none⟩)) rfl)) T (hJ.cell1 (off' fun e => by have h1 := hcl 15 _ rfl e 10 (by kernel_rfl); have h2 := hcl 10 _ rfl h1 3 (by kernel_rfl); rw [hLi] at h2; cases h2)).1 _ Try.underlying78 rfl) (fun _ => WT.has rfl) (fun L γ W1 hLi hJ => hJ.mark 3 _ (by omega)) (fun _ => trivial)
        · exact OX.val (.pointer (some ⟨bb, o, none⟩)) rfl (fun L γ W1 hLi hcl hJ hd => by kernel_rfl) (fun _ => WT.has rfl) (fun L γ W1 hLi hJ => hJ.mark 4 _ (by omega)) (fun _ => trivial)
        · exact OX.val (.pointer (some ⟨bb, o, none⟩)) rfl (fun L γ W1 hLi hcl hJ hd => run_nil_op (.tmp 44) rfl ⟨bb, o, none⟩ (Eq.trans (b := γ 4) (by kernel_rfl) ((hd 4 (by kernel_rfl)).is (u := .pointer (some ⟨bb, o, none⟩)) rfl))) (fun _ => WT.has rfl) (fun L γ W1 hLi hJ => hJ.mark 5 _ (by omega)) (fun _ => trivial)
        · exact OX.val (.slice rA rn rc) rfl (fun L γ W1 hLi hcl hJ hd => run_cell_op 25 (.tmp 45) rfl ⟨bb, o, none⟩ (Eq.trans (b := γ 5) (by kernel_rfl) ((hd 5 (by kernel_rfl)).is (u := .pointer (some ⟨bb, o, none⟩)) rfl)) _ ((hJ.box B1.out T1.out T2.out).cell_ HO.out) _ Try.underlying25 rfl) (fun _ => WT.has rfl) (fun L γ W1 hLi hJ => hJ.mark 6 _ (by omega)) (fun _ => trivial)
        · exact OX.callx rfl (fun L γ W1 hLi hdep hJ hd => ⟨37, #[γ 6], by kernel_rfl, by
            rw [(hd 6 (by kernel_rfl)).is (u := .slice rA rn rc) rfl]
            refine (Bytes_any (pc_low C1.out HIN.out hJ.low) R9.out).mono ?_
            rintro e w' ⟨A, c, ⟨he, hok, hbw⟩, ha⟩
            exact ⟨_, he, WT.no rfl, hJ.called hLi hbw ⟨by rw [Wr.nd, nds], by rw [Wr.sz]; simp [szs]⟩ hok (by rw [lies]; exact ⟨(fun ad e _ => Nat.le_of_lt (ha ad e)), (fun ad e => by cases e), by rw [liess]; trivial⟩), trivial⟩⟩)
        · exact OX.val (.int .i64 (ks.length : Int)) rfl (fun L γ W1 hLi hcl hJ hd => run_len_op (.tmp 43) 78 rfl T _ (Eq.trans (b := γ 3) (by kernel_rfl) ((hd 3 (by kernel_rfl)).is (u := T) rfl)) (by obtain ⟨A, c, e⟩ := hJ.made; rw [e]; exact len_run W1 A _ c _)) (fun _ => WT.has rfl) (fun L γ W1 hLi hJ => hJ.mark 8 _ (by omega)) (fun _ => trivial)
        · exact OX.new rfl (fun L γ W1 hLi hdep hJ hd => ⟨_, _, run_build_op 78 80 (.const (.agg nz.toArray)) rfl nz.toArray rfl nz.toArray i0 (.agg nz.toArray) Try.underlying78 hi hz0 (by rw [hz1]; decide) (by rw [hz1]; decide) (fill_nz _ hz1), WT.no rfl, hJ.built hLi, trivial⟩)
        · exact OX.new rfl (fun L γ W1 hLi hdep hJ hd => by
            obtain ⟨z, v', w', e9, hr, hj⟩ := hJ.appended hLi (hdep 9 (by kernel_rfl)) KL.out
            exact ⟨v', w', run_append_op (.tmp 43) (.tmp 49) 78 rfl T _ v' w' (Eq.trans (b := γ 3) (by kernel_rfl) ((hd 3 (by kernel_rfl)).is (u := T) rfl)) (Eq.trans (b := γ 9) (by kernel_rfl) e9) hr, WT.no rfl, hj, trivial⟩)
        · exact OX.new rfl (fun L γ W1 hLi hdep hJ hd => by
            obtain ⟨q, cap, e10, hj⟩ := hJ.indexed hLi (hdep 10 (by kernel_rfl))
            exact ⟨_, W1, run_ix_op 78 (.tmp 50) (.tmp 48) rfl _ (.int .i64 (ks.length : Int)) _ (Eq.trans (b := γ 10) (by kernel_rfl) e10) (Eq.trans (b := γ 8) (by kernel_rfl) ((hd 8 (by kernel_rfl)).is (u := .int .i64 (ks.length : Int)) rfl)) (ix_run W1 q _ cap _ (Nat.lt_succ_self _)), WT.no rfl, hj, trivial⟩)
        · exact OX.skip rfl (fun L γ W1 hLi hdep hJ hd => by
            obtain ⟨t, q, w', e7, e11, hr, hj⟩ := hJ.stored hLi (hdep 11 (by kernel_rfl)) (hdep 7 (by kernel_rfl)) undef
            exact ⟨w', run_store_row 80 (.tmp 51) (.tmp 47) rfl ⟨q, ks.length * 4, none⟩ (Eq.trans (b := γ 11) (by kernel_rfl) e11) t.row.toArray (Eq.trans (b := γ 7) (by kernel_rfl) (e7.trans (val_row t))) 4 (row_len t) size34 hr, WT.no rfl, hj, trivial⟩)
        · exact OX.val (.pointer (some ⟨g, 0, none⟩)) rfl (fun L γ W1 hLi hcl hJ hd => run_nil_op (.tmp 40) rfl ⟨g, 0, none⟩ (Eq.trans (b := γ 0) (by kernel_rfl) ((hd 0 (by kernel_rfl)).is (u := .pointer (some ⟨g, 0, none⟩)) rfl))) (fun _ => WT.has rfl) (fun L γ W1 hLi hJ => hJ.mark 13 _ (by omega)) (fun _ => trivial)
        · exact OX.val (.pointer (some ⟨g, 1, none⟩)) rfl (fun L γ W1 hLi hcl hJ hd => run_made_op (.tmp 52) rfl g (Eq.trans (b := γ 13) (by kernel_rfl) ((hd 13 (by kernel_rfl)).is (u := .pointer (some ⟨g, 0, none⟩)) rfl))) (fun _ => WT.has rfl) (fun L γ W1 hLi hJ => hJ.mark 14 _ (by omega)) (fun _ => trivial)
        · exact OX.skip rfl (fun L γ W1 hLi hdep hJ hd => by
            obtain ⟨h1, hj⟩ := hJ.field hLi (hdep 10 (by kernel_rfl)) undef
            obtain ⟨h2, h3⟩ := hJ.cell1 hLi
            exact ⟨_, run_store_at 78 (.tmp 53) (.tmp 50) rfl g 1 (Eq.trans (b := γ 14) (by kernel_rfl) ((hd 14 (by kernel_rfl)).is (u := .pointer (some ⟨g, 1, none⟩)) rfl)) (γ 10) (by kernel_rfl) T h2 h3 (by kernel_rfl) h1, WT.no rfl, hj, trivial⟩)
  · rw [decide_eq_false hx, Bool.false_and]
    go_enter Try.func52, Try.ntmps52
    go_upto_region 3 with (first
      | (go_at_call 65; (refine CR.out.mono ?_); rintro e w1 ⟨rfl, rfl⟩)
      | (go_at_call 69; (refine (CM.out _).mono ?_); rintro e w1 ⟨rfl, hp, hg⟩; obtain ⟨wr', hw, q1, q2, q3⟩ := HP.out.flag' hp hg; have EW := Lib.hid hw; have P1 := Lib.hid q1; have F1 := Lib.hid q2; have D1 := Lib.hid q3; have B1 := Lib.hid (q2.bl HB.out (bl_ne HB.out HP.out.bl T1.out) (own_ne HP.out.own HB.out T2.out)); clear hp hg hw q1 q2 q3))
    clear CR CM c0
    have c2 : w1.cell? ⟨g, 2, none⟩ = some (.bool wr') := P1.out.bl.cell_ rfl
    have C1 := Lib.hid (pc_low HPC.out HIN.out D1.out)
    cases wr' with
    | true =>
      go_wp2_with fail
      first | go_end0 | refine bodyPost_ret (results_none rfl _ _ _) rfl ?_
      rw [← EW.out]
      exact ⟨rfl, ⟨ks, T, ⟨P1.out.bl, P1.out.own, P1.out.ok, P1.out.aw, P1.out.low, Nat.le_trans P1.out.sz (Nat.le_add_right _ _), P1.out.up⟩, (fun e => by cases e)⟩, .of HP.out F1.out D1.out⟩
    | false =>
      go_upto_region 4 with (fail)
      clear c2
      have hmx : Try.prog.follows .mixedOrders = true := by kernel_rfl
      refine wp_region_free (fun i v _ => WT [some (.pointer (some ⟨g, 0, none⟩)), some (.pointer (some ⟨g, 0, none⟩)), some (.pointer (some ⟨g, 1, none⟩)), some T, some (.pointer (some ⟨bb, o, none⟩)), some (.pointer (some ⟨bb, o, none⟩)), some (.slice rA rn rc), none, some (.int .i64 (ks.length : Int)), none, none, none, none, some (.pointer (some ⟨g, 0, none⟩)), some (.pointer (some ⟨g, 1, none⟩)), none] i v) (JP 0 (fun t => Wr.nd t = bN rl ∧ Wr.sz t ≤ 1 + rn) w1 lo g false K ks T) (fun _ _ => True) hmx (by kernel_rfl) (by kernel_rfl) (fun _ _ _ _ h _ => h) ?h0 ?each ?fin
      case h0 =>
        intro γ
        exact ⟨PJ.start P1.out (below_drewN (Below.refl _ w1) 1), PJ.start P1.out (Below.refl _ w1)⟩
      case fin =>
        intro L γ W hL hT hJ
        obtain ⟨t, ⟨ht1, ht2⟩, p2, f2, d2⟩ := hJ.whole' (hL 7 (by decide)) (hL 9 (by decide)) (hL 10 (by decide)) (hL 11 (by decide)) (hL 12 (by decide)) (hL 15 (by decide)) (J := 1 + rn) (fun t e => e.2)
        have P2 := Lib.hid p2
        have F2 := Lib.hid (F1.out.trans f2)
        have D2 := Lib.hid (D1.out.trans d2)
        have N2 := Lib.hid (show nds (ks ++ [t]) = N ++ [bN rl] from by rw [nds_snoc, HN.out (or_false EW.out.symm).1, ht1])
        clear hJ hT hL p2 f2 d2 ht1 ht2
        unfold fr
        simp only [List.map_cons, List.map_nil, Gn.fill, List.setIfInBounds_toArray, List.set_cons_zero, List.set_cons_succ]
        go_wp2_with fail
        first | go_end0 | refine bodyPost_ret (results_none rfl _ _ _) rfl ?_
        rw [← EW.out]
        exact ⟨rfl, ⟨_, _, P2.out, fun _ => N2.out⟩, .of HP.out F2.out D2.out⟩
      case each =>
        refine each_ox ?_
        refine Each.cons ?_ <| Each.cons ?_ <| Each.cons ?_ <| Each.cons ?_ <| Each.cons ?_ <| Each.cons ?_ <| Each.cons ?_ <| Each.cons ?_ <| Each.cons ?_ <| Each.cons ?_ <| Each.cons ?_ <| Each.cons ?_ <| Each.cons ?_ <| Each.cons ?_ <| Each.cons ?_ <| Each.cons ?_ <| Each.nil
        · exact OX.val (.pointer (some ⟨g, 0, none⟩)) rfl (fun L γ W1 hLi hcl hJ hd => by kernel_rfl) (fun _ => WT.has rfl) (fun L γ W1 hLi hJ => hJ.mark 0 _ (by omega)) (fun _ => trivial)
        · exact OX.val (.pointer (some ⟨g, 0, none⟩)) rfl (fun L γ W1 hLi hcl hJ hd => run_nil_op (.tmp 40) rfl ⟨g, 0, none⟩ (Eq.trans (b := γ 0) (by kernel_rfl) ((hd 0 (by kernel_rfl)).is (u := .pointer (some ⟨g, 0, none⟩)) rfl))) (fun _ => WT.has rfl) (fun L γ W1 hLi hJ => hJ.mark 1 _ (by omega)) (fun _ => trivial)
        · exact OX.val (.pointer (some ⟨g, 1, none⟩)) rfl (fun L γ W1 hLi hcl hJ hd => run_made_op (.tmp 41) rfl g (Eq.trans (b := γ 1) (by kernel_rfl) ((hd 1 (by kernel_rfl)).is (u := .pointer (some ⟨g, 0, none⟩)) rfl))) (fun _ => WT.has rfl) (fun L γ W1 hLi hJ => hJ.mark 2 _ (by omega)) (fun _ => trivial)
        · exact OX.val (T) rfl (fun L γ W1 hLi hcl hJ hd => run_cell_op 78 (.tmp 42) rfl ⟨g, 1, none⟩ (Eq.trans (b := γ 2) (by kernel_rfl) ((hd 2 (by kernel_rfl)).is (u := .pointer (some ⟨g, 1, none⟩)) rfl)) T (hJ.cell1 (off' fun e => by have h1 := hcl 15 _ rfl e 10 (by kernel_rfl); have h2 := hcl 10 _ rfl h1 3 (by kernel_rfl); rw [hLi] at h2; cases h2)).1 _ Try.underlying78 rfl) (fun _ => WT.has rfl) (fun L γ W1 hLi hJ => hJ.mark 3 _ (by omega)) (fun _ => trivial)
        · exact OX.val (.pointer (some ⟨bb, o, none⟩)) rfl (fun L γ W1 hLi hcl hJ hd => by kernel_rfl) (fun _ => WT.has rfl) (fun L γ W1 hLi hJ => hJ.mark 4 _ (by omega)) (fun _ => trivial)
        · exact OX.val (.pointer (some ⟨bb, o, none⟩)) rfl (fun L γ W1 hLi hcl hJ hd => run_nil_op (.tmp 44) rfl ⟨bb, o, none⟩ (Eq.trans (b := γ 4) (by kernel_rfl) ((hd 4 (by kernel_rfl)).is (u := .pointer (some ⟨bb, o, none⟩)) rfl))) (fun _ => WT.has rfl) (fun L γ W1 hLi hJ => hJ.mark 5 _ (by omega)) (fun _ => trivial)
        · exact OX.val (.slice rA rn rc) rfl (fun L γ W1 hLi hcl hJ hd => run_cell_op 25 (.tmp 45) rfl ⟨bb, o, none⟩ (Eq.trans (b := γ 5) (by kernel_rfl) ((hd 5 (by kernel_rfl)).is (u := .pointer (some ⟨bb, o, none⟩)) rfl)) _ ((hJ.box B1.out T1.out T2.out).cell_ HO.out) _ Try.underlying25 rfl) (fun _ => WT.has rfl) (fun L γ W1 hLi hJ => hJ.mark 6 _ (by omega)) (fun _ => trivial)
        · exact OX.callx rfl (fun L γ W1 hLi hdep hJ hd => ⟨37, #[γ 6], by kernel_rfl, by
            rw [(hd 6 (by kernel_rfl)).is (u := .slice rA rn rc) rfl]
            refine (Bytes_any (pc_low C1.out HIN.out hJ.low) R9.out).mono ?_
            rintro e w' ⟨A, c, ⟨he, hok, hbw⟩, ha⟩
            exact ⟨_, he, WT.no rfl, hJ.called hLi hbw ⟨by rw [Wr.nd, nds], by rw [Wr.sz]; simp [szs]⟩ hok (by rw [lies]; exact ⟨(fun ad e _ => Nat.le_of_lt (ha ad e)), (fun ad e => by cases e), by rw [liess]; trivial⟩), trivial⟩⟩)
        · exact OX.val (.int .i64 (ks.length : Int)) rfl (fun L γ W1 hLi hcl hJ hd => run_len_op (.tmp 43) 78 rfl T _ (Eq.trans (b := γ 3) (by kernel_rfl) ((hd 3 (by kernel_rfl)).is (u := T) rfl)) (by obtain ⟨A, c, e⟩ := hJ.made; rw [e]; exact len_run W1 A _ c _)) (fun _ => WT.has rfl) (fun L γ W1 hLi hJ => hJ.mark 8 _ (by omega)) (fun _ => trivial)
        · exact OX.new rfl (fun L γ W1 hLi hdep hJ hd => ⟨_, _, run_build_op 78 80 (.const (.agg nz.toArray)) rfl nz.toArray rfl nz.toArray i0 (.agg nz.toArray) Try.underlying78 hi hz0 (by rw [hz1]; decide) (by rw [hz1]; decide) (fill_nz _ hz1), WT.no rfl, hJ.built hLi, trivial⟩)
        · exact OX.new rfl (fun L γ W1 hLi hdep hJ hd => by
            obtain ⟨z, v', w', e9, hr, hj⟩ := hJ.appended hLi (hdep 9 (by kernel_rfl)) KL.out
            exact ⟨v', w', run_append_op (.tmp 43) (.tmp 49) 78 rfl T _ v' w' (Eq.trans (b := γ 3) (by kernel_rfl) ((hd 3 (by kernel_rfl)).is (u := T) rfl)) (Eq.trans (b := γ 9) (by kernel_rfl) e9) hr, WT.no rfl, hj, trivial⟩)
        · exact OX.new rfl (fun L γ W1 hLi hdep hJ hd => by
            obtain ⟨q, cap, e10, hj⟩ := hJ.indexed hLi (hdep 10 (by kernel_rfl))
            exact ⟨_, W1, run_ix_op 78 (.tmp 50) (.tmp 48) rfl _ (.int .i64 (ks.length : Int)) _ (Eq.trans (b := γ 10) (by kernel_rfl) e10) (Eq.trans (b := γ 8) (by kernel_rfl) ((hd 8 (by kernel_rfl)).is (u := .int .i64 (ks.length : Int)) rfl)) (ix_run W1 q _ cap _ (Nat.lt_succ_self _)), WT.no rfl, hj, trivial⟩)
        · exact OX.skip rfl (fun L γ W1 hLi hdep hJ hd => by
            obtain ⟨t, q, w', e7, e11, hr, hj⟩ := hJ.stored hLi (hdep 11 (by kernel_rfl)) (hdep 7 (by kernel_rfl)) undef
            exact ⟨w', run_store_row 80 (.tmp 51) (.tmp 47) rfl ⟨q, ks.length * 4, none⟩ (Eq.trans (b := γ 11) (by kernel_rfl) e11) t.row.toArray (Eq.trans (b := γ 7) (by kernel_rfl) (e7.trans (val_row t))) 4 (row_len t) size34 hr, WT.no rfl, hj, trivial⟩)
        · exact OX.val (.pointer (some ⟨g, 0, none⟩)) rfl (fun L γ W1 hLi hcl hJ hd => run_nil_op (.tmp 40) rfl ⟨g, 0, none⟩ (Eq.trans (b := γ 0) (by kernel_rfl) ((hd 0 (by kernel_rfl)).is (u := .pointer (some ⟨g, 0, none⟩)) rfl))) (fun _ => WT.has rfl) (fun L γ W1 hLi hJ => hJ.mark 13 _ (by omega)) (fun _ => trivial)
        · exact OX.val (.pointer (some ⟨g, 1, none⟩)) rfl (fun L γ W1 hLi hcl hJ hd => run_made_op (.tmp 52) rfl g (Eq.trans (b := γ 13) (by kernel_rfl) ((hd 13 (by kernel_rfl)).is (u := .pointer (some ⟨g, 0, none⟩)) rfl))) (fun _ => WT.has rfl) (fun L γ W1 hLi hJ => hJ.mark 14 _ (by omega)) (fun _ => trivial)
        · exact OX.skip rfl (fun L γ W1 hLi hdep hJ hd => by
            obtain ⟨h1, hj⟩ := hJ.field hLi (hdep 10 (by kernel_rfl)) undef
            obtain ⟨h2, h3⟩ := hJ.cell1 hLi
            exact ⟨_, run_store_at 78 (.tmp 53) (.tmp 50) rfl g 1 (Eq.trans (b := γ 14) (by kernel_rfl) ((hd 14 (by kernel_rfl)).is (u := .pointer (some ⟨g, 1, none⟩)) rfl)) (γ 10) (by kernel_rfl) T h2 h3 (by kernel_rfl) h1, WT.no rfl, hj, trivial⟩)
end Go.Proofs.Yteblmphohhbgcaa.Mt
