/- Joined texts. -/
import Derived.Test.YteblmphohhbgcaaGreatQmGnStep
set_option linter.unusedVariables false
namespace Go.Proofs.YteblmphohhbgcaaGreat.Mt
open Go.RowKit Go.Proofs.YteblmphohhbgcaaGreat.Gn Go.Proofs.YteblmphohhbgcaaGreat.Fd Go.Proofs.YteblmphohhbgcaaGreat.Wr Go.Deep
theorem Pw.flag'{w:World}{lo g:Nat}{wr:Bool}{K:Nat}{ks:List Tv}{T:Value}(h:Pw w lo g wr K ks T){w':World}{b:Bool}(hb:Bl w' g 116 #[.pointer none,T,.bool (wr || !b)])(hg:w.grownBy w' (some g)):∃wr',wr'=(wr || !b)∧Pw w' lo g wr' K ks T∧Fr w w' g T T∧Below lo w w':=⟨_,rfl,h.flag hb hg⟩
theorem val_row(t:Tv):t.val=.agg t.row.toArray:=by cases t;rfl
def un(n:Int):Nat:=(IntKind.u64.wrap n).toNat
theorem un_wrap(n:Int):IntKind.u64.wrap n=(un n:Int):=by unfold un;rw[IntKind.wrap_u64];omega
theorem un_lt(n:Int):un n < 18446744073709551616:=by unfold un;rw[IntKind.wrap_u64];omega
abbrev nt(n:Int):Tv:=.mk 1 (un n) (none,0,0,[]) none 0 []
theorem lies_nt{Q:Nat→Prop}(n:Int):lies Q (nt n):=by rw[lies];exact⟨(fun ad e _=>by cases e),(fun ad e=>by cases e),by rw[liess];trivial⟩
set_option maxRecDepth 100000 in
set_option maxHeartbeats 4000000 in
theorem number_w {w : World} {lo g : Nat} {wr : Bool} {K : Nat} {ks : List Tv} {T : Value} (h : Pw w lo g wr K ks T) {bb o : Nat} {t : TypeId} {cs : Array Value} (hb : Bl w bb t cs) {n : Int} (ho : cs[o]? = some (.int .i64 n)) (t1 : t ≠ 116) (t2 : t ≠ 75) (hK : ks.length ≤ 1000000) (x y : Int) :
    Calls Tryz.prog 84 #[.pointer (some ⟨g, 0, none⟩), .pointer (some ⟨bb, o, none⟩), .int .i64 x, .int .i64 y] w fun e w' => e = .returned (.tuple #[]) ∧ ∃ T', Pw w' lo g (wr || !(decide (x ≤ n) && decide (n ≤ y))) (K + 1) (ks ++ [nt n]) T' ∧ Fr w w' g T T' ∧ Below lo w w' := by
  have CR := Lib.hid (reads_no h.bl)
  have CM := Lib.hid (fun b => must_any h.bl b)
  have c0 : w.cell? ⟨bb, o, none⟩ = some (.int .i64 n) := hb.cell_ ho
  have HP := Lib.hid h
  have HB := Lib.hid hb
  have HO := Lib.hid ho
  have KL := Lib.hid hK
  have T1 := Lib.hid t1
  have T2 := Lib.hid t2
  obtain ⟨i0, hi, hz0, hz1, hz2⟩ := info_parts infoN
  clear h hb ho hK t1 t2
  by_cases hx : x ≤ n
  · rw [decide_eq_true hx, Bool.true_and]
    go_enter Tryz.func84, Tryz.ntmps84
    go_upto_region 3 with (first
      | (go_at_call 91; (refine CR.out.mono ?_); rintro e w1 ⟨rfl, rfl⟩)
      | (go_at_call 100; (refine (CM.out _).mono ?_); rintro e w1 ⟨rfl, hp, hg⟩; obtain ⟨wr', hw, q1, q2, q3⟩ := HP.out.flag' hp hg; have EW := Lib.hid hw; have P1 := Lib.hid q1; have F1 := Lib.hid q2; have D1 := Lib.hid q3; have B1 := Lib.hid (q2.bl HB.out (bl_ne HB.out HP.out.bl T1.out) (own_ne HP.out.own HB.out T2.out)); clear hp hg hw q1 q2 q3))
    clear CR CM c0
    have hmx : Tryz.prog.follows .mixedOrders = true := by kernel_rfl
    refine wp_region_free (fun i v _ => WT [some (.pointer (some ⟨g, 0, none⟩)), some (.pointer (some ⟨g, 0, none⟩)), some (.pointer (some ⟨g, 1, none⟩)), some T, some (.pointer (some ⟨bb, o, none⟩)), some (.pointer (some ⟨bb, o, none⟩)), some (.int .i64 n), some (.int .u64 (un n : Int)), none, some (.int .i64 (ks.length : Int)), none, none, none, none, some (.pointer (some ⟨g, 0, none⟩)), some (.pointer (some ⟨g, 1, none⟩)), none] i v) (JP 1 (fun t => t = nt n) w1 lo g wr' K ks T) (fun _ _ => True) hmx (by kernel_rfl) (by kernel_rfl) (fun _ _ _ _ h _ => h) ?h0 ?each ?fin
    case h0 =>
      intro γ
      exact ⟨PJ.start P1.out (below_drewN (Below.refl _ w1) 1), PJ.start P1.out (Below.refl _ w1)⟩
    case fin =>
      intro L γ W hL hT hJ
      obtain ⟨t, rfl, p2, f2, d2⟩ := hJ.whole' (L := L) (hL 8 (by decide)) (hL 10 (by decide)) (hL 11 (by decide)) (hL 12 (by decide)) (hL 13 (by decide)) (hL 16 (by decide)) (J := 1) (fun t e => by rw [e, Wr.sz]; simp [szs])
      have P2 := Lib.hid p2
      have F2 := Lib.hid (F1.out.trans f2)
      have D2 := Lib.hid (D1.out.trans d2)
      clear hJ hT hL p2 f2 d2
      unfold fr
      simp only [List.map_cons, List.map_nil, Gn.fill, List.setIfInBounds_toArray, List.set_cons_zero, List.set_cons_succ]
      go_wp2_with fail
      first | go_end0 | refine bodyPost_ret (results_none rfl _ _ _) rfl ?_
      rw [← EW.out]
      exact ⟨rfl, _, P2.out, F2.out, D2.out⟩
    case each =>
      refine each_ox ?_
      refine Each.cons ?_ <| Each.cons ?_ <| Each.cons ?_ <| Each.cons ?_ <| Each.cons ?_ <| Each.cons ?_ <| Each.cons ?_ <| Each.cons ?_ <| Each.cons ?_ <| Each.cons ?_ <| Each.cons ?_ <| Each.cons ?_ <| Each.cons ?_ <| Each.cons ?_ <| Each.cons ?_ <| Each.cons ?_ <| Each.cons ?_ <| Each.nil
      · exact OX.val (.pointer (some ⟨g, 0, none⟩)) rfl (fun L γ W1 hLi hcl hJ hd => by kernel_rfl) (fun _ => WT.has rfl) (fun L γ W1 hLi hJ => hJ.mark 0 _ (by omega)) (fun _ => trivial)
      · exact OX.val (.pointer (some ⟨g, 0, none⟩)) rfl (fun L γ W1 hLi hcl hJ hd => run_nil_op (.tmp 33) rfl ⟨g, 0, none⟩ (Eq.trans (b := γ 0) (by kernel_rfl) ((hd 0 (by kernel_rfl)).is (u := .pointer (some ⟨g, 0, none⟩)) rfl))) (fun _ => WT.has rfl) (fun L γ W1 hLi hJ => hJ.mark 1 _ (by omega)) (fun _ => trivial)
      · exact OX.val (.pointer (some ⟨g, 1, none⟩)) rfl (fun L γ W1 hLi hcl hJ hd => run_made_op (.tmp 34) rfl g (Eq.trans (b := γ 1) (by kernel_rfl) ((hd 1 (by kernel_rfl)).is (u := .pointer (some ⟨g, 0, none⟩)) rfl))) (fun _ => WT.has rfl) (fun L γ W1 hLi hJ => hJ.mark 2 _ (by omega)) (fun _ => trivial)
      · exact OX.val (T) rfl (fun L γ W1 hLi hcl hJ hd => run_cell_op 72 (.tmp 35) rfl ⟨g, 1, none⟩ (Eq.trans (b := γ 2) (by kernel_rfl) ((hd 2 (by kernel_rfl)).is (u := .pointer (some ⟨g, 1, none⟩)) rfl)) T (hJ.cell1 (off' fun e => by have h1 := hcl 16 _ rfl e 11 (by kernel_rfl); have h2 := hcl 11 _ rfl h1 3 (by kernel_rfl); rw [hLi] at h2; cases h2)).1 _ Tryz.underlying72 rfl) (fun _ => WT.has rfl) (fun L γ W1 hLi hJ => hJ.mark 3 _ (by omega)) (fun _ => trivial)
      · exact OX.val (.pointer (some ⟨bb, o, none⟩)) rfl (fun L γ W1 hLi hcl hJ hd => by kernel_rfl) (fun _ => WT.has rfl) (fun L γ W1 hLi hJ => hJ.mark 4 _ (by omega)) (fun _ => trivial)
      · exact OX.val (.pointer (some ⟨bb, o, none⟩)) rfl (fun L γ W1 hLi hcl hJ hd => run_nil_op (.tmp 37) rfl ⟨bb, o, none⟩ (Eq.trans (b := γ 4) (by kernel_rfl) ((hd 4 (by kernel_rfl)).is (u := .pointer (some ⟨bb, o, none⟩)) rfl))) (fun _ => WT.has rfl) (fun L γ W1 hLi hJ => hJ.mark 5 _ (by omega)) (fun _ => trivial)
      · exact OX.val (.int .i64 n) rfl (fun L γ W1 hLi hcl hJ hd => run_cell_op 2 (.tmp 38) rfl ⟨bb, o, none⟩ (Eq.trans (b := γ 5) (by kernel_rfl) ((hd 5 (by kernel_rfl)).is (u := .pointer (some ⟨bb, o, none⟩)) rfl)) _ ((hJ.box B1.out T1.out T2.out).cell_ HO.out) _ Tryz.underlying2 rfl) (fun _ => WT.has rfl) (fun L γ W1 hLi hJ => hJ.mark 6 _ (by omega)) (fun _ => trivial)
      · exact OX.val (.int .u64 (un n : Int)) rfl (fun L γ W1 hLi hcl hJ hd => (run_u64_op (.tmp 39) rfl n (Eq.trans (b := γ 6) (by kernel_rfl) ((hd 6 (by kernel_rfl)).is (u := .int .i64 n) rfl))).trans (by rw [un_wrap])) (fun _ => WT.has rfl) (fun L γ W1 hLi hJ => hJ.mark 7 _ (by omega)) (fun _ => trivial)
      · exact OX.callx rfl (fun L γ W1 hLi hdep hJ hd => ⟨112, #[γ 7], by kernel_rfl, by rw [(hd 7 (by kernel_rfl)).is (u := .int .u64 (un n : Int)) rfl]; exact (Num_any (un n) (un_lt n) W1).mono fun e w' ⟨he, hok, hbw⟩ => ⟨_, he, WT.no rfl, hJ.called hLi hbw rfl hok (lies_nt n), trivial⟩⟩)
      · exact OX.val (.int .i64 (ks.length : Int)) rfl (fun L γ W1 hLi hcl hJ hd => run_len_op (.tmp 36) 72 rfl T _ (Eq.trans (b := γ 3) (by kernel_rfl) ((hd 3 (by kernel_rfl)).is (u := T) rfl)) (by obtain ⟨A, c, e⟩ := hJ.made; rw [e]; exact len_run W1 A _ c _)) (fun _ => WT.has rfl) (fun L γ W1 hLi hJ => hJ.mark 9 _ (by omega)) (fun _ => trivial)
      · exact OX.new rfl (fun L γ W1 hLi hdep hJ hd => ⟨_, _, run_build_op 72 75 (.const (.agg nz.toArray)) rfl nz.toArray rfl nz.toArray i0 (.agg nz.toArray) Tryz.underlying72 hi hz0 (by rw [hz1]; decide) (by rw [hz1]; decide) (fill_nz _ hz1), WT.no rfl, hJ.built hLi, trivial⟩)
      · exact OX.new rfl (fun L γ W1 hLi hdep hJ hd => by
          obtain ⟨z, v', w', e9, hr, hj⟩ := hJ.appended hLi (hdep 10 (by kernel_rfl)) KL.out
          exact ⟨v', w', run_append_op (.tmp 36) (.tmp 43) 72 rfl T _ v' w' (Eq.trans (b := γ 3) (by kernel_rfl) ((hd 3 (by kernel_rfl)).is (u := T) rfl)) (Eq.trans (b := γ 10) (by kernel_rfl) e9) hr, WT.no rfl, hj, trivial⟩)
      · exact OX.new rfl (fun L γ W1 hLi hdep hJ hd => by
          obtain ⟨q, cap, e10, hj⟩ := hJ.indexed hLi (hdep 11 (by kernel_rfl))
          exact ⟨_, W1, run_ix_op 72 (.tmp 44) (.tmp 42) rfl _ (.int .i64 (ks.length : Int)) _ (Eq.trans (b := γ 11) (by kernel_rfl) e10) (Eq.trans (b := γ 9) (by kernel_rfl) ((hd 9 (by kernel_rfl)).is (u := .int .i64 (ks.length : Int)) rfl)) (ix_run W1 q _ cap _ (Nat.lt_succ_self _)), WT.no rfl, hj, trivial⟩)
      · exact OX.skip rfl (fun L γ W1 hLi hdep hJ hd => by
          obtain ⟨t, q, w', e7, e11, hr, hj⟩ := hJ.stored hLi (hdep 12 (by kernel_rfl)) (hdep 8 (by kernel_rfl)) undef
          exact ⟨w', run_store_row 75 (.tmp 45) (.tmp 41) rfl ⟨q, ks.length * 4, none⟩ (Eq.trans (b := γ 12) (by kernel_rfl) e11) t.row.toArray (Eq.trans (b := γ 8) (by kernel_rfl) (e7.trans (val_row t))) 4 (row_len t) size34 hr, WT.no rfl, hj, trivial⟩)
      · exact OX.val (.pointer (some ⟨g, 0, none⟩)) rfl (fun L γ W1 hLi hcl hJ hd => run_nil_op (.tmp 33) rfl ⟨g, 0, none⟩ (Eq.trans (b := γ 0) (by kernel_rfl) ((hd 0 (by kernel_rfl)).is (u := .pointer (some ⟨g, 0, none⟩)) rfl))) (fun _ => WT.has rfl) (fun L γ W1 hLi hJ => hJ.mark 14 _ (by omega)) (fun _ => trivial)
      · exact OX.val (.pointer (some ⟨g, 1, none⟩)) rfl (fun L γ W1 hLi hcl hJ hd => run_made_op (.tmp 46) rfl g (Eq.trans (b := γ 14) (by kernel_rfl) ((hd 14 (by kernel_rfl)).is (u := .pointer (some ⟨g, 0, none⟩)) rfl))) (fun _ => WT.has rfl) (fun L γ W1 hLi hJ => hJ.mark 15 _ (by omega)) (fun _ => trivial)
      · exact OX.skip rfl (fun L γ W1 hLi hdep hJ hd => by
          obtain ⟨h1, hj⟩ := hJ.field hLi (hdep 11 (by kernel_rfl)) undef
          obtain ⟨h2, h3⟩ := hJ.cell1 hLi
          exact ⟨_, run_store_at 72 (.tmp 47) (.tmp 44) rfl g 1 (Eq.trans (b := γ 15) (by kernel_rfl) ((hd 15 (by kernel_rfl)).is (u := .pointer (some ⟨g, 1, none⟩)) rfl)) (γ 11) (by kernel_rfl) T h2 h3 (by kernel_rfl) h1, WT.no rfl, hj, trivial⟩)
  · rw [decide_eq_false hx, Bool.false_and]
    go_enter Tryz.func84, Tryz.ntmps84
    go_upto_region 3 with (first
      | (go_at_call 91; (refine CR.out.mono ?_); rintro e w1 ⟨rfl, rfl⟩)
      | (go_at_call 100; (refine (CM.out _).mono ?_); rintro e w1 ⟨rfl, hp, hg⟩; obtain ⟨wr', hw, q1, q2, q3⟩ := HP.out.flag' hp hg; have EW := Lib.hid hw; have P1 := Lib.hid q1; have F1 := Lib.hid q2; have D1 := Lib.hid q3; have B1 := Lib.hid (q2.bl HB.out (bl_ne HB.out HP.out.bl T1.out) (own_ne HP.out.own HB.out T2.out)); clear hp hg hw q1 q2 q3))
    clear CR CM c0
    have hmx : Tryz.prog.follows .mixedOrders = true := by kernel_rfl
    refine wp_region_free (fun i v _ => WT [some (.pointer (some ⟨g, 0, none⟩)), some (.pointer (some ⟨g, 0, none⟩)), some (.pointer (some ⟨g, 1, none⟩)), some T, some (.pointer (some ⟨bb, o, none⟩)), some (.pointer (some ⟨bb, o, none⟩)), some (.int .i64 n), some (.int .u64 (un n : Int)), none, some (.int .i64 (ks.length : Int)), none, none, none, none, some (.pointer (some ⟨g, 0, none⟩)), some (.pointer (some ⟨g, 1, none⟩)), none] i v) (JP 1 (fun t => t = nt n) w1 lo g wr' K ks T) (fun _ _ => True) hmx (by kernel_rfl) (by kernel_rfl) (fun _ _ _ _ h _ => h) ?h0 ?each ?fin
    case h0 =>
      intro γ
      exact ⟨PJ.start P1.out (below_drewN (Below.refl _ w1) 1), PJ.start P1.out (Below.refl _ w1)⟩
    case fin =>
      intro L γ W hL hT hJ
      obtain ⟨t, rfl, p2, f2, d2⟩ := hJ.whole' (L := L) (hL 8 (by decide)) (hL 10 (by decide)) (hL 11 (by decide)) (hL 12 (by decide)) (hL 13 (by decide)) (hL 16 (by decide)) (J := 1) (fun t e => by rw [e, Wr.sz]; simp [szs])
      have P2 := Lib.hid p2
      have F2 := Lib.hid (F1.out.trans f2)
      have D2 := Lib.hid (D1.out.trans d2)
      clear hJ hT hL p2 f2 d2
      unfold fr
      simp only [List.map_cons, List.map_nil, Gn.fill, List.setIfInBounds_toArray, List.set_cons_zero, List.set_cons_succ]
      go_wp2_with fail
      first | go_end0 | refine bodyPost_ret (results_none rfl _ _ _) rfl ?_
      rw [← EW.out]
      exact ⟨rfl, _, P2.out, F2.out, D2.out⟩
    case each =>
      refine each_ox ?_
      refine Each.cons ?_ <| Each.cons ?_ <| Each.cons ?_ <| Each.cons ?_ <| Each.cons ?_ <| Each.cons ?_ <| Each.cons ?_ <| Each.cons ?_ <| Each.cons ?_ <| Each.cons ?_ <| Each.cons ?_ <| Each.cons ?_ <| Each.cons ?_ <| Each.cons ?_ <| Each.cons ?_ <| Each.cons ?_ <| Each.cons ?_ <| Each.nil
      · exact OX.val (.pointer (some ⟨g, 0, none⟩)) rfl (fun L γ W1 hLi hcl hJ hd => by kernel_rfl) (fun _ => WT.has rfl) (fun L γ W1 hLi hJ => hJ.mark 0 _ (by omega)) (fun _ => trivial)
      · exact OX.val (.pointer (some ⟨g, 0, none⟩)) rfl (fun L γ W1 hLi hcl hJ hd => run_nil_op (.tmp 33) rfl ⟨g, 0, none⟩ (Eq.trans (b := γ 0) (by kernel_rfl) ((hd 0 (by kernel_rfl)).is (u := .pointer (some ⟨g, 0, none⟩)) rfl))) (fun _ => WT.has rfl) (fun L γ W1 hLi hJ => hJ.mark 1 _ (by omega)) (fun _ => trivial)
      · exact OX.val (.pointer (some ⟨g, 1, none⟩)) rfl (fun L γ W1 hLi hcl hJ hd => run_made_op (.tmp 34) rfl g (Eq.trans (b := γ 1) (by kernel_rfl) ((hd 1 (by kernel_rfl)).is (u := .pointer (some ⟨g, 0, none⟩)) rfl))) (fun _ => WT.has rfl) (fun L γ W1 hLi hJ => hJ.mark 2 _ (by omega)) (fun _ => trivial)
      · exact OX.val (T) rfl (fun L γ W1 hLi hcl hJ hd => run_cell_op 72 (.tmp 35) rfl ⟨g, 1, none⟩ (Eq.trans (b := γ 2) (by kernel_rfl) ((hd 2 (by kernel_rfl)).is (u := .pointer (some ⟨g, 1, none⟩)) rfl)) T (hJ.cell1 (off' fun e => by have h1 := hcl 16 _ rfl e 11 (by kernel_rfl); have h2 := hcl 11 _ rfl h1 3 (by kernel_rfl); rw [hLi] at h2; cases h2)).1 _ Tryz.underlying72 rfl) (fun _ => WT.has rfl) (fun L γ W1 hLi hJ => hJ.mark 3 _ (by omega)) (fun _ => trivial)
      · exact OX.val (.pointer (some ⟨bb, o, none⟩)) rfl (fun L γ W1 hLi hcl hJ hd => by kernel_rfl) (fun _ => WT.has rfl) (fun L γ W1 hLi hJ => hJ.mark 4 _ (by omega)) (fun _ => trivial)
      · exact OX.val (.pointer (some ⟨bb, o, none⟩)) rfl (fun L γ W1 hLi hcl hJ hd => run_nil_op (.tmp 37) rfl ⟨bb, o, none⟩ (Eq.trans (b := γ 4) (by kernel_rfl) ((hd 4 (by kernel_rfl)).is (u := .pointer (some ⟨bb, o, none⟩)) rfl))) (fun _ => WT.has rfl) (fun L γ W1 hLi hJ => hJ.mark 5 _ (by omega)) (fun _ => trivial)
      · exact OX.val (.int .i64 n) rfl (fun L γ W1 hLi hcl hJ hd => run_cell_op 2 (.tmp 38) rfl ⟨bb, o, none⟩ (Eq.trans (b := γ 5) (by kernel_rfl) ((hd 5 (by kernel_rfl)).is (u := .pointer (some ⟨bb, o, none⟩)) rfl)) _ ((hJ.box B1.out T1.out T2.out).cell_ HO.out) _ Tryz.underlying2 rfl) (fun _ => WT.has rfl) (fun L γ W1 hLi hJ => hJ.mark 6 _ (by omega)) (fun _ => trivial)
      · exact OX.val (.int .u64 (un n : Int)) rfl (fun L γ W1 hLi hcl hJ hd => (run_u64_op (.tmp 39) rfl n (Eq.trans (b := γ 6) (by kernel_rfl) ((hd 6 (by kernel_rfl)).is (u := .int .i64 n) rfl))).trans (by rw [un_wrap])) (fun _ => WT.has rfl) (fun L γ W1 hLi hJ => hJ.mark 7 _ (by omega)) (fun _ => trivial)
      · exact OX.callx rfl (fun L γ W1 hLi hdep hJ hd => ⟨112, #[γ 7], by kernel_rfl, by rw [(hd 7 (by kernel_rfl)).is (u := .int .u64 (un n : Int)) rfl]; exact (Num_any (un n) (un_lt n) W1).mono fun e w' ⟨he, hok, hbw⟩ => ⟨_, he, WT.no rfl, hJ.called hLi hbw rfl hok (lies_nt n), trivial⟩⟩)
      · exact OX.val (.int .i64 (ks.length : Int)) rfl (fun L γ W1 hLi hcl hJ hd => run_len_op (.tmp 36) 72 rfl T _ (Eq.trans (b := γ 3) (by kernel_rfl) ((hd 3 (by kernel_rfl)).is (u := T) rfl)) (by obtain ⟨A, c, e⟩ := hJ.made; rw [e]; exact len_run W1 A _ c _)) (fun _ => WT.has rfl) (fun L γ W1 hLi hJ => hJ.mark 9 _ (by omega)) (fun _ => trivial)
      · exact OX.new rfl (fun L γ W1 hLi hdep hJ hd => ⟨_, _, run_build_op 72 75 (.const (.agg nz.toArray)) rfl nz.toArray rfl nz.toArray i0 (.agg nz.toArray) Tryz.underlying72 hi hz0 (by rw [hz1]; decide) (by rw [hz1]; decide) (fill_nz _ hz1), WT.no rfl, hJ.built hLi, trivial⟩)
      · exact OX.new rfl (fun L γ W1 hLi hdep hJ hd => by
          obtain ⟨z, v', w', e9, hr, hj⟩ := hJ.appended hLi (hdep 10 (by kernel_rfl)) KL.out
          exact ⟨v', w', run_append_op (.tmp 36) (.tmp 43) 72 rfl T _ v' w' (Eq.trans (b := γ 3) (by kernel_rfl) ((hd 3 (by kernel_rfl)).is (u := T) rfl)) (Eq.trans (b := γ 10) (by kernel_rfl) e9) hr, WT.no rfl, hj, trivial⟩)
      · exact OX.new rfl (fun L γ W1 hLi hdep hJ hd => by
          obtain ⟨q, cap, e10, hj⟩ := hJ.indexed hLi (hdep 11 (by kernel_rfl))
          exact ⟨_, W1, run_ix_op 72 (.tmp 44) (.tmp 42) rfl _ (.int .i64 (ks.length : Int)) _ (Eq.trans (b := γ 11) (by kernel_rfl) e10) (Eq.trans (b := γ 9) (by kernel_rfl) ((hd 9 (by kernel_rfl)).is (u := .int .i64 (ks.length : Int)) rfl)) (ix_run W1 q _ cap _ (Nat.lt_succ_self _)), WT.no rfl, hj, trivial⟩)
      · exact OX.skip rfl (fun L γ W1 hLi hdep hJ hd => by
          obtain ⟨t, q, w', e7, e11, hr, hj⟩ := hJ.stored hLi (hdep 12 (by kernel_rfl)) (hdep 8 (by kernel_rfl)) undef
          exact ⟨w', run_store_row 75 (.tmp 45) (.tmp 41) rfl ⟨q, ks.length * 4, none⟩ (Eq.trans (b := γ 12) (by kernel_rfl) e11) t.row.toArray (Eq.trans (b := γ 8) (by kernel_rfl) (e7.trans (val_row t))) 4 (row_len t) size34 hr, WT.no rfl, hj, trivial⟩)
      · exact OX.val (.pointer (some ⟨g, 0, none⟩)) rfl (fun L γ W1 hLi hcl hJ hd => run_nil_op (.tmp 33) rfl ⟨g, 0, none⟩ (Eq.trans (b := γ 0) (by kernel_rfl) ((hd 0 (by kernel_rfl)).is (u := .pointer (some ⟨g, 0, none⟩)) rfl))) (fun _ => WT.has rfl) (fun L γ W1 hLi hJ => hJ.mark 14 _ (by omega)) (fun _ => trivial)
      · exact OX.val (.pointer (some ⟨g, 1, none⟩)) rfl (fun L γ W1 hLi hcl hJ hd => run_made_op (.tmp 46) rfl g (Eq.trans (b := γ 14) (by kernel_rfl) ((hd 14 (by kernel_rfl)).is (u := .pointer (some ⟨g, 0, none⟩)) rfl))) (fun _ => WT.has rfl) (fun L γ W1 hLi hJ => hJ.mark 15 _ (by omega)) (fun _ => trivial)
      · exact OX.skip rfl (fun L γ W1 hLi hdep hJ hd => by
          obtain ⟨h1, hj⟩ := hJ.field hLi (hdep 11 (by kernel_rfl)) undef
          obtain ⟨h2, h3⟩ := hJ.cell1 hLi
          exact ⟨_, run_store_at 72 (.tmp 47) (.tmp 44) rfl g 1 (Eq.trans (b := γ 15) (by kernel_rfl) ((hd 15 (by kernel_rfl)).is (u := .pointer (some ⟨g, 1, none⟩)) rfl)) (γ 11) (by kernel_rfl) T h2 h3 (by kernel_rfl) h1, WT.no rfl, hj, trivial⟩)
end Go.Proofs.YteblmphohhbgcaaGreat.Mt
namespace Go.Proofs.YteblmphohhbgcaaGreat.Mt
open Go.RowKit Go.Proofs.YteblmphohhbgcaaGreat.Gn Go.Proofs.YteblmphohhbgcaaGreat.Fd Go.Proofs.YteblmphohhbgcaaGreat.Wr Go.Deep
def Kn(w:World)(k:Nat):Prop:=∃cs,Bl w k 75 cs
structure Fz (lo g:Nat) (w w':World):Prop where
 os:w'.os=w.os
 tape:w'.tape=w.tape
 output:w'.output=w.output
 size:w.heap.size≤w'.heap.size
 block:∀k,k < w.heap.size→k≠g→¬(lo≤k∧Kn w k)→w'.heap[k]?=w.heap[k]?
theorem Kn.same{w w':World}{k:Nat}(h:Kn w' k)(e:w'.heap[k]?=w.heap[k]?):Kn w k:=by
 obtain⟨cs,hc⟩:=h;exact⟨cs,e.symm.trans hc⟩
theorem Fz.trans{lo g:Nat}{a b c:World}(h:Fz lo g a b)(k:Fz lo g b c):Fz lo g a c :=
 ⟨k.os.trans h.os,k.tape.trans h.tape,k.output.trans h.output,Nat.le_trans h.size k.size,fun i hi hn hd=>by
  have e:=h.block i hi hn hd
  exact(k.block i (Nat.lt_of_lt_of_le hi h.size) hn fun hx=>hd ⟨hx.1,hx.2.same e⟩).trans e⟩
theorem Fz.of_below{lo g:Nat}{w w':World}(h:Below w.heap.size w w'):Fz lo g w w':=⟨h.os,h.tape,h.output,h.size,fun k hk _ _=>h.block k hk⟩
theorem Fz.below{lo g:Nat}{w w':World}(h:Fz lo g w w')(hg:lo≤g){n:Nat}(hn:n≤lo)(hw:n≤w.heap.size):Below n w w' :=
 ⟨h.os,h.tape,h.output,h.size,fun k hk=>h.block k (by omega) (by omega) (fun e=>by omega)⟩
theorem Fz.bl{lo g:Nat}{w w':World}(h:Fz lo g w w'){b:Nat}{t:TypeId}{cs:Array Value}(hb:Bl w b t cs)(h1:t≠75)(h2:b≠g):Bl w' b t cs :=
 (h.block b hb.lt h2 (fun e=>by obtain⟨-, ds,hd⟩:=e;exact bl_ne hb hd h1 rfl)).trans hb
theorem Fz.of{lo g:Nat}{w w':World}{wr:Bool}{K:Nat}{ks:List Tv}{T T':Value}(h:Pw w lo g wr K ks T)(hf:Fr w w' g T T')(hb:Below lo w w'):Fz lo g w w' :=
 ⟨hb.os,hb.tape,hb.output,hf.size,fun k hk hn hd=>hf.keep k hk hn (fun e=>hd (by
  obtain⟨h1,⟨h2,-⟩|⟨q,cap,cur,h2,h3,h4,-⟩⟩:=h.own
  ·rw[h2] at e;cases e
  ·rw[h2] at e;cases e;exact⟨h3,cur,h4⟩))⟩
def Px(w:World)(lo g:Nat)(wr:Bool)(K:Nat)(N:List Nd):Prop:=∃ks T,Pw w lo g wr K ks T∧(wr=false→nds ks=N)
theorem Px.below{w w':World}{lo g:Nat}{wr:Bool}{K:Nat}{N:List Nd}(h:Px w lo g wr K N)(hb:Below w.heap.size w w'):Px w' lo g wr K N:=by
 obtain⟨ks,T,h1,h2⟩:=h
 exact⟨ks,T,h1.below hb,h2⟩
theorem Px.lt{w:World}{lo g:Nat}{wr:Bool}{K:Nat}{N:List Nd}(h:Px w lo g wr K N):lo≤g∧g < w.heap.size:=by
 obtain⟨ks,T,h1,h2⟩:=h
 exact⟨h1.low,h1.bl.lt⟩
theorem Px.ng{w:World}{lo g:Nat}{wr:Bool}{K:Nat}{N:List Nd}(h:Px w lo g wr K N){b:Nat}{t:TypeId}{cs:Array Value}(hb:Bl w b t cs)(h1:t≠116):b≠g:=by
 obtain⟨ks,T,h2,-⟩:=h
 exact bl_ne hb h2.bl h1
theorem nds_snoc(ks:List Tv)(t:Tv):nds (ks ++ [t])=nds ks ++ [Wr.nd t]:=by
 rw[nds_map,nds_map,List.map_append];rfl
theorem len_sz{ks:List Tv}{K:Nat}(h:szs ks≤K):ks.length≤K:=Nat.le_trans (szs_len ks) h
abbrev nN(n:Int):Nd:=.mk 1 (un n) [] []
theorem or_false{a b:Bool}(h:(a || b)=false):a=false∧b=false:=by cases a <;> cases b <;> first|exact⟨rfl,rfl⟩|cases h
theorem number_x{w:World}{lo g:Nat}{wr:Bool}{K:Nat}{N:List Nd}(h:Px w lo g wr K N){bb o:Nat}{t:TypeId}{cs:Array Value}(hb:Bl w bb t cs){n:Int}(ho:cs[o]?=some (.int .i64 n))(t1:t≠116)(t2:t≠75)(hK:K≤1000000)(x y:Int) :
  Calls Tryz.prog 84 #[.pointer (some ⟨g,0,none⟩),.pointer (some ⟨bb,o,none⟩),.int .i64 x,.int .i64 y] w fun e w'=>e=.returned (.tuple #[])∧Px w' lo g (wr || !(decide (x≤n) && decide (n≤y))) (K+1) (N ++ [nN n])∧Fz lo g w w':=by
 obtain⟨ks,T,h1,h2⟩:=h
 refine(number_w h1 hb ho t1 t2 (Nat.le_trans (len_sz h1.sz) hK) x y).mono ?_
 rintro e w' ⟨rfl,T',p,f,d⟩
 exact⟨rfl,⟨_,T',p,fun hw=>by rw[nds_snoc,h2 (or_false hw).1];rfl⟩,.of h1 f d⟩
theorem pc_low{lo:Nat}{w w':World}{r:Rw}(hr:Pc w r)(hin:∀ad,r.1=some ad→0 < r.2.2.2.length→ad.block < lo)(hb:Below lo w w'):Pc w' r :=
 ⟨hr.len,Sl.kept hr.row (fun ad e hn _=>hb.block _ (hin ad e hn)),hr.lt,hr.cap,hr.nil⟩
end Go.Proofs.YteblmphohhbgcaaGreat.Mt
