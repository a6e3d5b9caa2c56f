/- Joined texts. -/
import Derived.Test.YteblmphohhbgcaaQaGnStep
set_option linter.unusedVariables false
namespace Go.Proofs.Yteblmphohhbgcaa.Mt
open Go.RowKit Go.Proofs.Yteblmphohhbgcaa.Gn Go.Proofs.Yteblmphohhbgcaa.Fd Go.Proofs.Yteblmphohhbgcaa.Wr Go.Deep
theorem Pw.flag'{w:World}{lo g:Nat}{wr:Bool}{K:Nat}{ks:List Tv}{T:Value}(h:Pw w lo g wr K ks T){w':World}{b:Bool}(hb:Bl w' g 94 #[.pointer none,T,.bool (wr || !b)])(hg:w.grownBy w' (some g)):∃wr',wr'=(wr || !b)∧Pw w' lo g wr' K ks T∧Fr w w' g T T∧Below lo w w':=⟨_,rfl,h.flag hb hg⟩
theorem val_row(t:Tv):t.val=.agg t.row.toArray:=by cases t;rfl
def un(n:Int):Nat:=(IntKind.u64.wrap n).toNat
theorem un_wrap(n:Int):IntKind.u64.wrap n=(un n:Int):=by unfold un;rw[IntKind.wrap_u64];omega
theorem un_lt(n:Int):un n < 18446744073709551616:=by unfold un;rw[IntKind.wrap_u64];omega
theorem un_nat{n:Int}(h:0≤n)(h2:n < 18446744073709551616):un n=n.toNat:=by unfold un;rw[IntKind.wrap_u64];congr 1;omega
abbrev nt(n:Int):Tv:=.mk 1 (un n) (none,0,0,[]) none 0 []
theorem lies_nt{Q:Nat→Prop}(n:Int):lies Q (nt n):=by rw[lies];exact⟨(fun ad e _=>by cases e),(fun ad e=>by cases e),by rw[liess];trivial⟩
set_option maxRecDepth 100000 in
set_option maxHeartbeats 4000000 in
theorem number_w {w : World} {lo g : Nat} {wr : Bool} {K : Nat} {ks : List Tv} {T : Value} (h : Pw w lo g wr K ks T) {bb o : Nat} {t : TypeId} {cs : Array Value} (hb : Bl w bb t cs) {n : Int} (ho : cs[o]? = some (.int .i64 n)) (t1 : t ≠ 94) (t2 : t ≠ 80) (hK : ks.length ≤ 1000000) (x y : Int) :
    Calls Try.prog 51 #[.pointer (some ⟨g, 0, none⟩), .pointer (some ⟨bb, o, none⟩), .int .i64 x, .int .i64 y] w fun e w' => e = .returned (.tuple #[]) ∧ ∃ T', Pw w' lo g (wr || !(decide (x ≤ n) && decide (n ≤ y))) (K + 1) (ks ++ [nt n]) T' ∧ Fr w w' g T T' ∧ Below lo w w' := by
  have CR := Lib.hid (reads_no h.bl)
  have CM := Lib.hid (fun b => must_any h.bl b)
  have c0 : w.cell? ⟨bb, o, none⟩ = some (.int .i64 n) := hb.cell_ ho
  have HP := Lib.hid h
  have HB := Lib.hid hb
  have HO := Lib.hid ho
  have KL := Lib.hid hK
  have T1 := Lib.hid t1
  have T2 := Lib.hid t2
  obtain ⟨i0, hi, hz0, hz1, hz2⟩ := info_parts infoN
  clear h hb ho hK t1 t2
  by_cases hx : x ≤ n
  · rw [decide_eq_true hx, Bool.true_and]
    go_enter Try.func51, Try.ntmps51
    go_upto_region 3 with (first
      | (go_at_call 65; (refine CR.out.mono ?_); rintro e w1 ⟨rfl, rfl⟩)
      | (go_at_call 69; (refine (CM.out _).mono ?_); rintro e w1 ⟨rfl, hp, hg⟩; obtain ⟨wr', hw, q1, q2, q3⟩ := HP.out.flag' hp hg; have EW := Lib.hid hw; have P1 := Lib.hid q1; have F1 := Lib.hid q2; have D1 := Lib.hid q3; have B1 := Lib.hid (q2.bl HB.out (bl_ne HB.out HP.out.bl T1.out) (own_ne HP.out.own HB.out T2.out)); clear hp hg hw q1 q2 q3))
    clear CR CM c0
    have hmx : Try.prog.follows .mixedOrders = true := by kernel_rfl
    refine wp_region_free (fun i v _ => WT [some (.pointer (some ⟨g, 0, none⟩)), some (.pointer (some ⟨g, 0, none⟩)), some (.pointer (some ⟨g, 1, none⟩)), some T, some (.pointer (some ⟨bb, o, none⟩)), some (.pointer (some ⟨bb, o, none⟩)), some (.int .i64 n), some (.int .u64 (un n : Int)), none, some (.int .i64 (ks.length : Int)), none, none, none, none, some (.pointer (some ⟨g, 0, none⟩)), some (.pointer (some ⟨g, 1, none⟩)), none] i v) (JP 1 (fun t => t = nt n) w1 lo g wr' K ks T) (fun _ _ => True) hmx (by kernel_rfl) (by kernel_rfl) (fun _ _ _ _ h _ => h) ?h0 ?each ?fin
    case h0 =>
      intro γ
      exact ⟨PJ.start P1.out (below_drewN (Below.refl _ w1) 1), PJ.start P1.out (Below.refl _ w1)⟩
    case fin =>
      intro L γ W hL hT hJ
      obtain ⟨t, rfl, p2, f2, d2⟩ := hJ.whole' (L := L) (hL 8 (by decide)) (hL 10 (by decide)) (hL 11 (by decide)) (hL 12 (by decide)) (hL 13 (by decide)) (hL 16 (by decide)) (J := 1) (fun t e => by rw [e, Wr.sz]; simp [szs])
      have P2 := Lib.hid p2
      have F2 := Lib.hid (F1.out.trans f2)
      have D2 := Lib.hid (D1.out.trans d2)
      clear hJ hT hL p2 f2 d2
      unfold fr
      simp only [List.map_cons, List.map_nil, Gn.fill, List.setIfInBounds_toArray, List.set_cons_zero, List.set_cons_succ]
      go_wp2_with fail
      first | go_end0 | refine bodyPost_ret (results_none rfl _ _ _) rfl ?_
      rw [← EW.out]
      exact ⟨rfl, _, P2.out, F2.out, D2.out⟩
    case each =>
      refine each_ox ?_
      refine Each.cons ?_ <| Each.cons ?_ <| Each.cons ?_ <| Each.cons ?_ <| Each.cons ?_ <| Each.cons ?_ <| Each.cons ?_ <| Each.cons ?_ <| Each.cons ?_ <| Each.cons ?_ <| Each.cons ?_ <| Each.cons ?_ <| Each.cons ?_ <| Each.cons ?_ <| Each.cons ?_ <| Each.cons ?_ <| Each.cons ?_ <| Each.nil
      · exact OX.val (.pointer (some ⟨g, 0, none⟩)) rfl (fun L γ W1 hLi hcl hJ hd => by kernel_rfl) (fun _ => WT.has rfl) (fun L γ W1 hLi hJ => hJ.mark 0 _ (by omega)) (fun _ => trivial)
      · exact OX.val (.pointer (some ⟨g, 0, none⟩)) rfl (fun L γ W1 hLi hcl hJ hd => run_nil_op (.tmp 33) rfl ⟨g, 0, none⟩ (Eq.trans (b := γ 0) (by kernel_rfl) ((hd 0 (by kernel_rfl)).is (u := .pointer (some ⟨g, 0, none⟩)) rfl))) (fun _ => WT.has rfl) (fun L γ W1 hLi hJ => hJ.mark 1 _ (by omega)) (fun _ => trivial)
      · exact OX.val (.pointer (some ⟨g, 1, none⟩)) rfl (fun L γ W1 hLi hcl hJ hd => run_made_op (.tmp 34) rfl g (Eq.trans (b := γ 1) (by kernel_rfl) ((hd 1 (by kernel_rfl)).is (u := .pointer (some ⟨g, 0, none⟩)) rfl))) (fun _ => WT.has rfl) (fun L γ W1 hLi hJ => hJ.mark 2 _ (by omega)) (fun _ => trivial)
      · exact OX.val (T) rfl (fun L γ W1 hLi hcl hJ hd => run_cell_op 78 (.tmp 35) rfl ⟨g, 1, none⟩ (Eq.trans (b := γ 2) (by kernel_rfl) ((hd 2 (by kernel_rfl)).is (u := .pointer (some ⟨g, 1, none⟩)) rfl)) T (hJ.cell1 (off' fun e => by have h1 := hcl 16 _ rfl e 11 (by kernel_rfl); have h2 := hcl 11 _ rfl h1 3 (by kernel_rfl); rw [hLi] at h2; cases h2)).1 _ Try.underlying78 rfl) (fun _ => WT.has rfl) (fun L γ W1 hLi hJ => hJ.mark 3 _ (by omega)) (fun _ => trivial)
      · exact OX.val (.pointer (some ⟨bb, o, none⟩)) rfl (fun L γ W1 hLi hcl hJ hd => by kernel_rfl) (fun _ => WT.has rfl) (fun L γ W1 hLi hJ => hJ.mark 4 _ (by omega)) (fun _ => trivial)
      · exact OX.val (.pointer (some ⟨bb, o, none⟩)) rfl (fun L γ W1 hLi hcl hJ hd => run_nil_op (.tmp 37) rfl ⟨bb, o, none⟩ (Eq.trans (b := γ 4) (by kernel_rfl) ((hd 4 (by kernel_rfl)).is (u := .pointer (some ⟨bb, o, none⟩)) rfl))) (fun _ => WT.has rfl) (fun L γ W1 hLi hJ => hJ.mark 5 _ (by omega)) (fun _ => trivial)
      · exact OX.val (.int .i64 n) rfl (fun L γ W1 hLi hcl hJ hd => run_cell_op 2 (.tmp 38) rfl ⟨bb, o, none⟩ (Eq.trans (b := γ 5) (by kernel_rfl) ((hd 5 (by kernel_rfl)).is (u := .pointer (some ⟨bb, o, none⟩)) rfl)) _ ((hJ.box B1.out T1.out T2.out).cell_ HO.out) _ Try.underlying2 rfl) (fun _ => WT.has rfl) (fun L γ W1 hLi hJ => hJ.mark 6 _ (by omega)) (fun _ => trivial)
      · exact OX.val (.int .u64 (un n : Int)) rfl (fun L γ W1 hLi hcl hJ hd => (run_u64_op (.tmp 39) rfl n (Eq.trans (b := γ 6) (by kernel_rfl) ((hd 6 (by kernel_rfl)).is (u := .int .i64 n) rfl))).trans (by rw [un_wrap])) (fun _ => WT.has rfl) (fun L γ W1 hLi hJ => hJ.mark 7 _ (by omega)) (fun _ => trivial)
      · exact OX.callx rfl (fun L γ W1 hLi hdep hJ hd => ⟨36, #[γ 7], by kernel_rfl, by rw [(hd 7 (by kernel_rfl)).is (u := .int .u64 (un n : Int)) rfl]; exact (Num_any (un n) (un_lt n) W1).mono fun e w' ⟨he, hok, hbw⟩ => ⟨_, he, WT.no rfl, hJ.called hLi hbw rfl hok (lies_nt n), trivial⟩⟩)
      · exact OX.val (.int .i64 (ks.length : Int)) rfl (fun L γ W1 hLi hcl hJ hd => run_len_op (.tmp 36) 78 rfl T _ (Eq.trans (b := γ 3) (by kernel_rfl) ((hd 3 (by kernel_rfl)).is (u := T) rfl)) (by obtain ⟨A, c, e⟩ := hJ.made; rw [e]; exact len_run W1 A _ c _)) (fun _ => WT.has rfl) (fun L γ W1 hLi hJ => hJ.mark 9 _ (by omega)) (fun _ => trivial)
      · exact OX.new rfl (fun L γ W1 hLi hdep hJ hd => ⟨_, _, run_build_op 78 80 (.const (.agg nz.toArray)) rfl nz.toArray rfl nz.toArray i0 (.agg nz.toArray) Try.underlying78 hi hz0 (by rw [hz1]; decide) (by rw [hz1]; decide) (fill_nz _ hz1), WT.no rfl, hJ.built hLi, trivial⟩)
      · exact OX.new rfl (fun L γ W1 hLi hdep hJ hd => by
          obtain ⟨z, v', w', e9, hr, hj⟩ := hJ.appended hLi (hdep 10 (by kernel_rfl)) KL.out
          exact ⟨v', w', run_append_op (.tmp 36) (.tmp 43) 78 rfl T _ v' w' (Eq.trans (b := γ 3) (by kernel_rfl) ((hd 3 (by kernel_rfl)).is (u := T) rfl)) (Eq.trans (b := γ 10) (by kernel_rfl) e9) hr, WT.no rfl, hj, trivial⟩)
      · exact OX.new rfl (fun L γ W1 hLi hdep hJ hd => by
          obtain ⟨q, cap, e10, hj⟩ := hJ.indexed hLi (hdep 11 (by kernel_rfl))
          exact ⟨_, W1, run_ix_op 78 (.tmp 44) (.tmp 42) rfl _ (.int .i64 (ks.length : Int)) _ (Eq.trans (b := γ 11) (by kernel_rfl) e10) (Eq.trans (b := γ 9) (by kernel_rfl) ((hd 9 (by kernel_rfl)).is (u := .int .i64 (ks.length : Int)) rfl)) (ix_run W1 q _ cap _ (Nat.lt_succ_self _)), WT.no rfl, hj, trivial⟩)
      · exact OX.skip rfl (fun L γ W1 hLi hdep hJ hd => by
          obtain ⟨t, q, w', e7, e11, hr, hj⟩ := hJ.stored hLi (hdep 12 (by kernel_rfl)) (hdep 8 (by kernel_rfl)) undef
          exact ⟨w', run_store_row 80 (.tmp 45) (.tmp 41) rfl ⟨q, ks.length * 4, none⟩ (Eq.trans (b := γ 12) (by kernel_rfl) e11) t.row.toArray (Eq.trans (b := γ 8) (by kernel_rfl) (e7.trans (val_row t))) 4 (row_len t) size34 hr, WT.no rfl, hj, trivial⟩)
      · exact OX.val (.pointer (some ⟨g, 0, none⟩)) rfl (fun L γ W1 hLi hcl hJ hd => run_nil_op (.tmp 33) rfl ⟨g, 0, none⟩ (Eq.trans (b := γ 0) (by kernel_rfl) ((hd 0 (by kernel_rfl)).is (u := .pointer (some ⟨g, 0, none⟩)) rfl))) (fun _ => WT.has rfl) (fun L γ W1 hLi hJ => hJ.mark 14 _ (by omega)) (fun _ => trivial)
      · exact OX.val (.pointer (some ⟨g, 1, none⟩)) rfl (fun L γ W1 hLi hcl hJ hd => run_made_op (.tmp 46) rfl g (Eq.trans (b := γ 14) (by kernel_rfl) ((hd 14 (by kernel_rfl)).is (u := .pointer (some ⟨g, 0, none⟩)) rfl))) (fun _ => WT.has rfl) (fun L γ W1 hLi hJ => hJ.mark 15 _ (by omega)) (fun _ => trivial)
      · exact OX.skip rfl (fun L γ W1 hLi hdep hJ hd => by
          obtain ⟨h1, hj⟩ := hJ.field hLi (hdep 11 (by kernel_rfl)) undef
          obtain ⟨h2, h3⟩ := hJ.cell1 hLi
          exact ⟨_, run_store_at 78 (.tmp 47) (.tmp 44) rfl g 1 (Eq.trans (b := γ 15) (by kernel_rfl) ((hd 15 (by kernel_rfl)).is (u := .pointer (some ⟨g, 1, none⟩)) rfl)) (γ 11) (by kernel_rfl) T h2 h3 (by kernel_rfl) h1, WT.no rfl, hj, trivial⟩)
  · rw [decide_eq_false hx, Bool.false_and]
    go_enter Try.func51, Try.ntmps51
    go_upto_region 3 with (first
      | (go_at_call 65; (refine CR.out.mono ?_); rintro e w1 ⟨rfl, rfl⟩)
      | (go_at_call 69; (refine (CM.out _).mono ?_); rintro e w1 ⟨rfl, hp, hg⟩; obtain ⟨wr', hw, q1, q2, q3⟩ := HP.out.flag' hp hg; have EW := Lib.hid hw; have P1 := Lib.hid q1; have F1 := Lib.hid q2; have D1 := Lib.hid q3; have B1 := Lib.hid (q2.bl HB.out (bl_ne HB.out HP.out.bl T1.out) (own_ne HP.out.own HB.out T2.out)); clear hp hg hw q1 q2 q3))
    clear CR CM c0
    have hmx : Try.prog.follows .mixedOrders = true := by kernel_rfl
    refine wp_region_free (fun i v _ => WT [some (.pointer (some ⟨g, 0, none⟩)), some (.pointer (some ⟨g, 0, none⟩)), some (.pointer (some ⟨g, 1, none⟩)), some T, some (.pointer (some ⟨bb, o, none⟩)), some (.pointer (some ⟨bb, o, none⟩)), some (.int .i64 n), some (.int .u64 (un n : Int)), none, some (.int .i64 (ks.length : Int)), none, none, none, none, some (.pointer (some ⟨g, 0, none⟩)), some (.pointer (some ⟨g, 1, none⟩)), none] i v) (JP 1 (fun t => t = nt n) w1 lo g wr' K ks T) (fun _ _ => True) hmx (by kernel_rfl) (by kernel_rfl) (fun _ _ _ _ h _ => h) ?h0 ?each ?fin
    case h0 =>
      intro γ
      exact ⟨PJ.start P1.out (below_drewN (Below.refl _ w1) 1), PJ.start P1.out (Below.refl _ w1)⟩
    case fin =>
      intro L γ W hL hT hJ
      obtain ⟨t, rfl, p2, f2, d2⟩ := hJ.whole' (L := L) (hL 8 (by decide)) (hL 10 (by decide)) (hL 11 (by decide)) (hL 12 (by decide)) (hL 13 (by decide)) (hL 16 (by decide)) (J := 1) (fun t e => by rw [e, Wr.sz]; simp [szs])
      have P2 := Lib.hid p2
      have F2 := Lib.hid (F1.out.trans f2)
      have D2 := Lib.hid (D1.out.trans d2)
      clear hJ hT hL p2 f2 d2
      unfold fr
      simp only [List.map_cons, List.map_nil, Gn.fill, List.setIfInBounds_toArray, List.set_cons_zero, List.set_cons_succ]
      go_wp2_with fail
      first | go_end0 | refine bodyPost_ret (results_none rfl _ _ _) rfl ?_
      rw [← EW.out]
      exact ⟨rfl, _, P2.out, F2.out, D2.out⟩
    case each =>
      refine each_ox ?_
      refine Each.cons ?_ <| Each.cons ?_ <| Each.cons ?_ <| Each.cons ?_ <| Each.cons ?_ <| Each.cons ?_ <| Each.cons ?_ <| Each.cons ?_ <| Each.cons ?_ <| Each.cons ?_ <| Each.cons ?_ <| Each.cons ?_ <| Each.cons ?_ <| Each.cons ?_ <| Each.cons ?_ <| Each.cons ?_ <| Each.cons ?_ <| Each.nil
      · exact OX.val (.pointer (some ⟨g, 0, none⟩)) rfl (fun L γ W1 hLi hcl hJ hd => by kernel_rfl) (fun _ => WT.has rfl) (fun L γ W1 hLi hJ => hJ.mark 0 _ (by omega)) (fun _ => trivial)
      · exact OX.val (.pointer (some ⟨g, 0, none⟩)) rfl (fun L γ W1 hLi hcl hJ hd => run_nil_op (.tmp 33) rfl ⟨g, 0, none⟩ (Eq.trans (b := γ 0) (by kernel_rfl) ((hd 0 (by kernel_rfl)).is (u := .pointer (some ⟨g, 0, none⟩)) rfl))) (fun _ => WT.has rfl) (fun L γ W1 hLi hJ => hJ.mark 1 _ (by omega)) (fun _ => trivial)
      · exact OX.val (.pointer (some ⟨g, 1, none⟩)) rfl (fun L γ W1 hLi hcl hJ hd => run_made_op (.tmp 34) rfl g (Eq.trans (b := γ 1) (by kernel_rfl) ((hd 1 (by kernel_rfl)).is (u := .pointer (some ⟨g, 0, none⟩)) rfl))) (fun _ => WT.has rfl) (fun L γ W1 hLi hJ => hJ.mark 2 _ (by omega)) (fun _ => trivial)
      · exact OX.val (T) rfl (fun L γ W1 hLi hcl hJ hd => run_cell_op 78 (.tmp 35) rfl ⟨g, 1, none⟩ (Eq.trans (b := γ 2) (by kernel_rfl) ((hd 2 (by kernel_rfl)).is (u := .pointer (some ⟨g, 1, none⟩)) rfl)) T (hJ.cell1 (off' fun e => by have h1 := hcl 16 _ rfl e 11 (by kernel_rfl); have h2 := hcl 11 _ rfl h1 3 (by kernel_rfl); rw [hLi] at h2; cases h2)).1 _ Try.underlying78 rfl) (fun _ => WT.has rfl) (fun L γ W1 hLi hJ => hJ.mark 3 _ (by omega)) (fun _ => trivial)
      · exact OX.val (.pointer (some ⟨bb, o, none⟩)) rfl (fun L γ W1 hLi hcl hJ hd => by kernel_rfl) (fun _ => WT.has rfl) (fun L γ W1 hLi hJ => hJ.mark 4 _ (by omega)) (fun _ => trivial)
      · exact OX.val (.pointer (some ⟨bb, o, none⟩)) rfl (fun L γ W1 hLi hcl hJ hd => run_nil_op (.tmp 37) rfl ⟨bb, o, none⟩ (Eq.trans (b := γ 4) (by kernel_rfl) ((hd 4 (by kernel_rfl)).is (u := .pointer (some ⟨bb, o, none⟩)) rfl))) (fun _ => WT.has rfl) (fun L γ W1 hLi hJ => hJ.mark 5 _ (by omega)) (fun _ => trivial)
      · exact OX.val (.int .i64 n) rfl (fun L γ W1 hLi hcl hJ hd => run_cell_op 2 (.tmp 38) rfl ⟨bb, o, none⟩ (Eq.trans (b := γ 5) (by kernel_rfl) ((hd 5 (by kernel_rfl)).is (u := .pointer (some ⟨bb, o, none⟩)) rfl)) _ ((hJ.box B1.out T1.out T2.out).cell_ HO.out) _ Try.underlying2 rfl) (fun _ => WT.has rfl) (fun L γ W1 hLi hJ => hJ.mark 6 _ (by omega)) (fun _ => trivial)
      · exact OX.val (.int .u64 (un n : Int)) rfl (fun L γ W1 hLi hcl hJ hd => (run_u64_op (.tmp 39) rfl n (Eq.trans (b := γ 6) (by kernel_rfl) ((hd 6 (by kernel_rfl)).is (u := .int .i64 n) rfl))).trans (by rw [un_wrap])) (fun _ => WT.has rfl) (fun L γ W1 hLi hJ => hJ.mark 7 _ (by omega)) (fun _ => trivial)
      · exact OX.callx rfl (fun L γ W1 hLi hdep hJ hd => ⟨36, #[γ 7], by kernel_rfl, by rw [(hd 7 (by kernel_rfl)).is (u := .int .u64 (un n : Int)) rfl]; exact (Num_any (un n) (un_lt n) W1).mono fun e w' ⟨he, hok, hbw⟩ => ⟨_, he, WT.no rfl, hJ.called hLi hbw rfl hok (lies_nt n), trivial⟩⟩)
      · exact OX.val (.int .i64 (ks.length : Int)) rfl (fun L γ W1 hLi hcl hJ hd => run_len_op (.tmp 36) 78 rfl T _ (Eq.trans (b := γ 3) (by kernel_rfl) ((hd 3 (by kernel_rfl)).is (u := T) rfl)) (by obtain ⟨A, c, e⟩ := hJ.made; rw [e]; exact len_run W1 A _ c _)) (fun _ => WT.has rfl) (fun L γ W1 hLi hJ => hJ.mark 9 _ (by omega)) (fun _ => trivial)
      · exact OX.new rfl (fun L γ W1 hLi hdep hJ hd => ⟨_, _, run_build_op 78 80 (.const (.agg nz.toArray)) rfl nz.toArray rfl nz.toArray i0 (.agg nz.toArray) Try.underlying78 hi hz0 (by rw [hz1]; decide) (by rw [hz1]; decide) (fill_nz _ hz1), WT.no rfl, hJ.built hLi, trivial⟩)
      · exact OX.new rfl (fun L γ W1 hLi hdep hJ hd => by
          obtain ⟨z, v', w', e9, hr, hj⟩ := hJ.appended hLi (hdep 10 (by kernel_rfl)) KL.out
          exact ⟨v', w', run_append_op (.tmp 36) (.tmp 43) 78 rfl T _ v' w' (Eq.trans (b := γ 3) (by kernel_rfl) ((hd 3 (by kernel_rfl)).is (u := T) rfl)) (Eq.trans (b := γ 10) (by kernel_rfl) e9) hr, WT.no rfl, hj, trivial⟩)
      · exact OX.new rfl (fun L γ W1 hLi hdep hJ hd => by
          obtain ⟨q, cap, e10, hj⟩ := hJ.indexed hLi (hdep 11 (by kernel_rfl))
          exact ⟨_, W1, run_ix_op 78 (.tmp 44) (.tmp 42) rfl _ (.int .i64 (ks.length : Int)) _ (Eq.trans (b := γ 11) (by kernel_rfl) e10) (Eq.trans (b := γ 9) (by kernel_rfl) ((hd 9 (by kernel_rfl)).is (u := .int .i64 (ks.length : Int)) rfl)) (ix_run W1 q _ cap _ (Nat.lt_succ_self _)), WT.no rfl, hj, trivial⟩)
      · exact OX.skip rfl (fun L γ W1 hLi hdep hJ hd => by
          obtain ⟨t, q, w', e7, e11, hr, hj⟩ := hJ.stored hLi (hdep 12 (by kernel_rfl)) (hdep 8 (by kernel_rfl)) undef
          exact ⟨w', run_store_row 80 (.tmp 45) (.tmp 41) rfl ⟨q, ks.length * 4, none⟩ (Eq.trans (b := γ 12) (by kernel_rfl) e11) t.row.toArray (Eq.trans (b := γ 8) (by kernel_rfl) (e7.trans (val_row t))) 4 (row_len t) size34 hr, WT.no rfl, hj, trivial⟩)
      · exact OX.val (.pointer (some ⟨g, 0, none⟩)) rfl (fun L γ W1 hLi hcl hJ hd => run_nil_op (.tmp 33) rfl ⟨g, 0, none⟩ (Eq.trans (b := γ 0) (by kernel_rfl) ((hd 0 (by kernel_rfl)).is (u := .pointer (some ⟨g, 0, none⟩)) rfl))) (fun _ => WT.has rfl) (fun L γ W1 hLi hJ => hJ.mark 14 _ (by omega)) (fun _ => trivial)
      · exact OX.val (.pointer (some ⟨g, 1, none⟩)) rfl (fun L γ W1 hLi hcl hJ hd => run_made_op (.tmp 46) rfl g (Eq.trans (b := γ 14) (by kernel_rfl) ((hd 14 (by kernel_rfl)).is (u := .pointer (some ⟨g, 0, none⟩)) rfl))) (fun _ => WT.has rfl) (fun L γ W1 hLi hJ => hJ.mark 15 _ (by omega)) (fun _ => trivial)
      · exact OX.skip rfl (fun L γ W1 hLi hdep hJ hd => by
          obtain ⟨h1, hj⟩ := hJ.field hLi (hdep 11 (by kernel_rfl)) undef
          obtain ⟨h2, h3⟩ := hJ.cell1 hLi
          exact ⟨_, run_store_at 78 (.tmp 47) (.tmp 44) rfl g 1 (Eq.trans (b := γ 15) (by kernel_rfl) ((hd 15 (by kernel_rfl)).is (u := .pointer (some ⟨g, 1, none⟩)) rfl)) (γ 11) (by kernel_rfl) T h2 h3 (by kernel_rfl) h1, WT.no rfl, hj, trivial⟩)
end Go.Proofs.Yteblmphohhbgcaa.Mt
