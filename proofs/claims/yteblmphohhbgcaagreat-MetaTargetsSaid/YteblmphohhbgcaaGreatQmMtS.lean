/- Joined texts. -/
import Derived.Test.YteblmphohhbgcaaGreatQmMtR
set_option linter.unusedVariables false
namespace Go.Proofs.YteblmphohhbgcaaGreat.Mt
open Go.RowKit Go.Proofs.YteblmphohhbgcaaGreat.Gn Go.Proofs.YteblmphohhbgcaaGreat.Fd Go.Proofs.YteblmphohhbgcaaGreat.Wr Go.Deep
theorem JP.fr'{d:Nat}{P:Tv→Prop}{w:World}{lo g:Nat}{wr:Bool}{K:Nat}{ks:List Tv}{T:Value}{L:Nat→Bool}{γ:Nat→Value}{W:World}(h:JP d P w lo g wr K ks T L γ W):Fr w W g T (if L (10+d)=true then γ (10+d) else T):=PJ.fr h
set_option maxHeartbeats 4000000 in
theorem right_w{w:World}{g:Nat}{wr:Bool}{T:Value}(h:Bl w g 116 #[.pointer none,T,.bool wr]):Calls Tryz.prog 65 #[.pointer (some ⟨g,0,none⟩)] w fun e w'=>e=.returned (.bool (!wr))∧w=w':=by
 have CR:=Lib.hid (reads_no h)
 have r2:w.cell? ⟨g,2,none⟩=some (.bool wr):=h.cell_ rfl
 clear h
 cases wr <;>
 ·go_enter Tryz.func65,Tryz.ntmps65
  go_wp2_with (go_at_call 91;(refine CR.out.mono ?_);rintro e w1 ⟨rfl,rfl⟩)
  go_ret
  exact⟨rfl,rfl⟩
theorem new_px(w:World):Px (w.alloc (.cells #[.pointer none,.slice none 0 0,.bool false] 116)) w.heap.size w.heap.size false 0 [] :=
 ⟨[],.slice none 0 0,⟨Bl.new_ w _ _,World.ownsRow_nil _ _ _ _,fun t ht=>(List.not_mem_nil ht).elim,by rw[liess];trivial,Nat.le_refl _,by rw[szs];exact Nat.le_refl _,by rw[liess];trivial⟩,fun _=>by rw[nds]⟩
set_option maxHeartbeats 4000000 in
theorem open_w{w:World}{g:Nat}{wr:Bool}{T:Value}(h:Bl w g 116 #[.pointer none,T,.bool wr]):Calls Tryz.prog 99 #[.pointer (some ⟨g,0,none⟩)] w fun e w'=>e=.returned (.tuple #[.pointer (some ⟨w.heap.size,0,none⟩),.int .i64 0])∧Px w' w.heap.size w.heap.size false 0 []∧Below w.heap.size w w':=by
 have CR:=Lib.hid (reads_no h)
 have X:=Lib.hid (new_px w)
 have B:=Lib.hid (below_one w (.cells #[.pointer none,.slice none 0 0,.bool false] 116))
 clear h
 go_enter Tryz.func99,Tryz.ntmps99
 go_wp2_with (go_at_call 91;(refine CR.out.mono ?_);rintro e w1 ⟨rfl,rfl⟩)
 go_ret2
 exact⟨rfl,X.out,B.out⟩
abbrev lN(us:List Nd):Nd:=.mk 3 0 [] us
set_option maxRecDepth 100000 in
set_option maxHeartbeats 4000000 in
theorem end_w {w : World} {lo g : Nat} {wr : Bool} {K : Nat} {ks : List Tv} {T : Value} (h : Pw w lo g wr K ks T) {lo2 g2 : Nat} {wr2 : Bool} {K2 : Nat} {us : List Tv} {A2 : Option Addr} {m2 c2 : Nat} (h2 : Pw w lo2 g2 wr2 K2 us (.slice A2 m2 c2)) (hg : g < lo2) (hT : ∀ k, T.ownBlock = some k → k < lo2) (hK : K ≤ 1000000) (hK2 : K2 ≤ 900000) :
    Calls Tryz.prog 101 #[.pointer (some ⟨g, 0, none⟩), .pointer (some ⟨g2, 0, none⟩)] w fun e w' => e = .returned (.tuple #[]) ∧ ∃ t T', Pw w' lo g (wr || !!wr2) (K + (1 + K2)) (ks ++ [t]) T' ∧ Wr.nd t = lN (nds us) ∧ Fr w w' g T T' ∧ Below lo w w' := by
  have CR := Lib.hid (right_w h2.bl)
  have CM := Lib.hid (must_any h.bl (!wr2))
  have hne := Lib.hid (show g2 ≠ g from by have := h2.low; omega)
  have HP := Lib.hid h
  have H2 := Lib.hid h2
  have HG := Lib.hid hg
  have HT := Lib.hid hT
  have KL := Lib.hid (Nat.le_trans (len_sz h.sz) hK)
  have K9 := Lib.hid hK2
  obtain ⟨i0, hi, hz0, hz1, hz2⟩ := info_parts infoN
  clear h h2 hg hT hK hK2
  go_enter Tryz.func101, Tryz.ntmps101
  go_upto_region 2 with (first
    | (go_at_call 65; (refine CR.out.mono ?_); rintro e w1 ⟨rfl, rfl⟩)
    | (go_at_call 100; (refine CM.out.mono ?_); rintro e w1 ⟨rfl, hp, hg⟩; obtain ⟨wr', hw, q1, q2, q3⟩ := HP.out.flag' hp hg; have EW := Lib.hid hw; have P1 := Lib.hid q1; have F1 := Lib.hid q2; have D1 := Lib.hid q3; have B1 := Lib.hid (q2.bl H2.out.bl hne.out (own_ne HP.out.own H2.out.bl (by decide))); have CS := Lib.hid (reads_no q1.bl); clear hp hg hw q1 q2 q3)
    | (go_at_call 91; (refine CS.out.mono ?_); rintro e w2 ⟨rfl, rfl⟩))
  clear CR CM CS
  have hmx : Tryz.prog.follows .mixedOrders = true := by kernel_rfl
  refine wp_region_free (fun i v _ => WT [some (.pointer (some ⟨g, 0, none⟩)), some (.pointer (some ⟨g, 0, none⟩)), some (.pointer (some ⟨g, 1, none⟩)), some T, some (.pointer (some ⟨g2, 0, none⟩)), some (.pointer (some ⟨g2, 0, none⟩)), some (.pointer (some ⟨g2, 1, none⟩)), some (.slice A2 m2 c2), none, some (.int .i64 (ks.length : Int)), none, none, none, none, some (.pointer (some ⟨g, 0, none⟩)), some (.pointer (some ⟨g, 1, none⟩)), none] i v) (JP 1 (fun t => Wr.nd t = lN (nds us) ∧ Wr.sz t ≤ 1 + K2) w1 lo g wr' K ks T) (fun _ _ => True) hmx (by kernel_rfl) (by kernel_rfl) (fun _ _ _ _ h _ => h) ?h0 ?each ?fin
  case h0 =>
    intro γ
    exact ⟨PJ.start P1.out (below_drewN (Below.refl _ w1) 1), PJ.start P1.out (Below.refl _ w1)⟩
  case fin =>
    intro L γ W hL hT hJ
    obtain ⟨t, ⟨ht1, ht2⟩, p2, f2, d2⟩ := hJ.whole' (hL 8 (by decide)) (hL 10 (by decide)) (hL 11 (by decide)) (hL 12 (by decide)) (hL 13 (by decide)) (hL 16 (by decide)) (J := 1 + K2) (fun t e => e.2)
    have P2 := Lib.hid p2
    have F2 := Lib.hid (F1.out.trans f2)
    have D2 := Lib.hid (D1.out.trans d2)
    have N2 := Lib.hid ht1
    clear hJ hT hL p2 f2 d2 ht1 ht2
    unfold fr
    simp only [List.map_cons, List.map_nil, Gn.fill, List.setIfInBounds_toArray, List.set_cons_zero, List.set_cons_succ]
    go_wp2_with fail
    first | go_end0 | refine bodyPost_ret (results_none rfl _ _ _) rfl ?_
    rw [← EW.out]
    exact ⟨rfl, t, _, P2.out, N2.out, F2.out, D2.out⟩
  case each =>
    refine each_ox ?_
    refine Each.cons ?_ <| Each.cons ?_ <| Each.cons ?_ <| Each.cons ?_ <| Each.cons ?_ <| Each.cons ?_ <| Each.cons ?_ <| Each.cons ?_ <| Each.cons ?_ <| Each.cons ?_ <| Each.cons ?_ <| Each.cons ?_ <| Each.cons ?_ <| Each.cons ?_ <| Each.cons ?_ <| Each.cons ?_ <| Each.cons ?_ <| Each.nil
    · exact OX.val (.pointer (some ⟨g, 0, none⟩)) rfl (fun L γ W1 hLi hcl hJ hd => by kernel_rfl) (fun _ => WT.has rfl) (fun L γ W1 hLi hJ => hJ.mark 0 _ (by omega)) (fun _ => trivial)
    · exact OX.val (.pointer (some ⟨g, 0, none⟩)) rfl (fun L γ W1 hLi hcl hJ hd => run_nil_op (.tmp 11) rfl ⟨g, 0, none⟩ (Eq.trans (b := γ 0) (by kernel_rfl) ((hd 0 (by kernel_rfl)).is (u := .pointer (some ⟨g, 0, none⟩)) rfl))) (fun _ => WT.has rfl) (fun L γ W1 hLi hJ => hJ.mark 1 _ (by omega)) (fun _ => trivial)
    · exact OX.val (.pointer (some ⟨g, 1, none⟩)) rfl (fun L γ W1 hLi hcl hJ hd => run_made_op (.tmp 12) rfl g (Eq.trans (b := γ 1) (by kernel_rfl) ((hd 1 (by kernel_rfl)).is (u := .pointer (some ⟨g, 0, none⟩)) rfl))) (fun _ => WT.has rfl) (fun L γ W1 hLi hJ => hJ.mark 2 _ (by omega)) (fun _ => trivial)
    · exact OX.val (T) rfl (fun L γ W1 hLi hcl hJ hd => run_cell_op 72 (.tmp 13) rfl ⟨g, 1, none⟩ (Eq.trans (b := γ 2) (by kernel_rfl) ((hd 2 (by kernel_rfl)).is (u := .pointer (some ⟨g, 1, none⟩)) rfl)) T (hJ.cell1 (off' fun e => by have h1 := hcl 16 _ rfl e 11 (by kernel_rfl); have h2 := hcl 11 _ rfl h1 3 (by kernel_rfl); rw [hLi] at h2; cases h2)).1 _ Tryz.underlying72 rfl) (fun _ => WT.has rfl) (fun L γ W1 hLi hJ => hJ.mark 3 _ (by omega)) (fun _ => trivial)
    · exact OX.val (.pointer (some ⟨g2, 0, none⟩)) rfl (fun L γ W1 hLi hcl hJ hd => by kernel_rfl) (fun _ => WT.has rfl) (fun L γ W1 hLi hJ => hJ.mark 4 _ (by omega)) (fun _ => trivial)
    · exact OX.val (.pointer (some ⟨g2, 0, none⟩)) rfl (fun L γ W1 hLi hcl hJ hd => run_nil_op (.tmp 15) rfl ⟨g2, 0, none⟩ (Eq.trans (b := γ 4) (by kernel_rfl) ((hd 4 (by kernel_rfl)).is (u := .pointer (some ⟨g2, 0, none⟩)) rfl))) (fun _ => WT.has rfl) (fun L γ W1 hLi hJ => hJ.mark 5 _ (by omega)) (fun _ => trivial)
    · exact OX.val (.pointer (some ⟨g2, 1, none⟩)) rfl (fun L γ W1 hLi hcl hJ hd => run_made_op (.tmp 16) rfl g2 (Eq.trans (b := γ 5) (by kernel_rfl) ((hd 5 (by kernel_rfl)).is (u := .pointer (some ⟨g2, 0, none⟩)) rfl))) (fun _ => WT.has rfl) (fun L γ W1 hLi hJ => hJ.mark 6 _ (by omega)) (fun _ => trivial)
    · exact OX.val (.slice A2 m2 c2) rfl (fun L γ W1 hLi hcl hJ hd => run_cell_op 72 (.tmp 17) rfl ⟨g2, 1, none⟩ (Eq.trans (b := γ 6) (by kernel_rfl) ((hd 6 (by kernel_rfl)).is (u := .pointer (some ⟨g2, 1, none⟩)) rfl)) _ ((hJ.fr'.bl B1.out hne.out (own_ne P1.out.own B1.out (by decide))).cell_ rfl) _ Tryz.underlying72 rfl) (fun _ => WT.has rfl) (fun L γ W1 hLi hJ => hJ.mark 7 _ (by omega)) (fun _ => trivial)
    · exact OX.callx rfl (fun L γ W1 hLi hdep hJ hd => ⟨67, #[γ 7], by kernel_rfl, by
        rw [(hd 7 (by kernel_rfl)).is (u := .slice A2 m2 c2) rfl]
        have FF := F1.out.trans hJ.fr'
        have keep : ∀ k, lo2 ≤ k → k < w.heap.size → W1.heap[k]? = w.heap[k]? := fun k hk hlt => FF.keep k hlt (by have := HG.out; omega) (fun e => by have := HT.out k e; omega)
        obtain ⟨A', c', e', s1, s2, s3, s4⟩ := own_form H2.out.own
        cases e'
        have hs : Sl W1 A2 (4 * us.length) (flat us) := by
          rw [Nat.mul_comm]
          exact Sl.kept s1 (fun ad e _ hlt => keep _ (s4 ad e).1 hlt)
        refine (List_any hs s3 s2 (fun t ht => (H2.out.ok t ht).kept (liess_mem.1 H2.out.up t ht) keep) (Nat.le_trans H2.out.sz K9.out) W1 (Below.refl _ _)).mono ?_
        rintro e w' ⟨vs, A3, c3, ⟨he, hok, hbw⟩, hn, hli⟩
        have hvs : szs vs = szs us := by
          have h1 := (nds_all vs (kids_ok hok)).2.2.2
          have h2 := (nds_all us H2.out.ok).2.2.2
          rw [h1, h2]; exact congrArg szns hn
        exact ⟨_, he, WT.no rfl, hJ.called hLi hbw ⟨by rw [Wr.nd, hn], by rw [Wr.sz, hvs]; have := H2.out.sz; show 1 + 0 + szs us ≤ 1 + K2; omega⟩ hok hli, trivial⟩⟩)
    · exact OX.val (.int .i64 (ks.length : Int)) rfl (fun L γ W1 hLi hcl hJ hd => run_len_op (.tmp 14) 72 rfl T _ (Eq.trans (b := γ 3) (by kernel_rfl) ((hd 3 (by kernel_rfl)).is (u := T) rfl)) (by obtain ⟨A, c, e⟩ := hJ.made; rw [e]; exact len_run W1 A _ c _)) (fun _ => WT.has rfl) (fun L γ W1 hLi hJ => hJ.mark 9 _ (by omega)) (fun _ => trivial)
    · exact OX.new rfl (fun L γ W1 hLi hdep hJ hd => ⟨_, _, run_build_op 72 75 (.const (.agg nz.toArray)) rfl nz.toArray rfl nz.toArray i0 (.agg nz.toArray) Tryz.underlying72 hi hz0 (by rw [hz1]; decide) (by rw [hz1]; decide) (fill_nz _ hz1), WT.no rfl, hJ.built hLi, trivial⟩)
    · exact OX.new rfl (fun L γ W1 hLi hdep hJ hd => by
        obtain ⟨z, v', w', e9, hr, hj⟩ := hJ.appended hLi (hdep 10 (by kernel_rfl)) KL.out
        exact ⟨v', w', run_append_op (.tmp 14) (.tmp 21) 72 rfl T _ v' w' (Eq.trans (b := γ 3) (by kernel_rfl) ((hd 3 (by kernel_rfl)).is (u := T) rfl)) (Eq.trans (b := γ 10) (by kernel_rfl) e9) hr, WT.no rfl, hj, trivial⟩)
    · exact OX.new rfl (fun L γ W1 hLi hdep hJ hd => by
        obtain ⟨q, cap, e10, hj⟩ := hJ.indexed hLi (hdep 11 (by kernel_rfl))
        exact ⟨_, W1, run_ix_op 72 (.tmp 22) (.tmp 20) rfl _ (.int .i64 (ks.length : Int)) _ (Eq.trans (b := γ 11) (by kernel_rfl) e10) (Eq.trans (b := γ 9) (by kernel_rfl) ((hd 9 (by kernel_rfl)).is (u := .int .i64 (ks.length : Int)) rfl)) (ix_run W1 q _ cap _ (Nat.lt_succ_self _)), WT.no rfl, hj, trivial⟩)
    · exact OX.skip rfl (fun L γ W1 hLi hdep hJ hd => by
        obtain ⟨t, q, w', e7, e11, hr, hj⟩ := hJ.stored hLi (hdep 12 (by kernel_rfl)) (hdep 8 (by kernel_rfl)) undef
        exact ⟨w', run_store_row 75 (.tmp 23) (.tmp 19) rfl ⟨q, ks.length * 4, none⟩ (Eq.trans (b := γ 12) (by kernel_rfl) e11) t.row.toArray (Eq.trans (b := γ 8) (by kernel_rfl) (e7.trans (val_row t))) 4 (row_len t) size34 hr, WT.no rfl, hj, trivial⟩)
    · exact OX.val (.pointer (some ⟨g, 0, none⟩)) rfl (fun L γ W1 hLi hcl hJ hd => run_nil_op (.tmp 11) rfl ⟨g, 0, none⟩ (Eq.trans (b := γ 0) (by kernel_rfl) ((hd 0 (by kernel_rfl)).is (u := .pointer (some ⟨g, 0, none⟩)) rfl))) (fun _ => WT.has rfl) (fun L γ W1 hLi hJ => hJ.mark 14 _ (by omega)) (fun _ => trivial)
    · exact OX.val (.pointer (some ⟨g, 1, none⟩)) rfl (fun L γ W1 hLi hcl hJ hd => run_made_op (.tmp 24) rfl g (Eq.trans (b := γ 14) (by kernel_rfl) ((hd 14 (by kernel_rfl)).is (u := .pointer (some ⟨g, 0, none⟩)) rfl))) (fun _ => WT.has rfl) (fun L γ W1 hLi hJ => hJ.mark 15 _ (by omega)) (fun _ => trivial)
    · exact OX.skip rfl (fun L γ W1 hLi hdep hJ hd => by
        obtain ⟨h1, hj⟩ := hJ.field hLi (hdep 11 (by kernel_rfl)) undef
        obtain ⟨h2, h3⟩ := hJ.cell1 hLi
        exact ⟨_, run_store_at 72 (.tmp 25) (.tmp 22) rfl g 1 (Eq.trans (b := γ 15) (by kernel_rfl) ((hd 15 (by kernel_rfl)).is (u := .pointer (some ⟨g, 1, none⟩)) rfl)) (γ 11) (by kernel_rfl) T h2 h3 (by kernel_rfl) h1, WT.no rfl, hj, trivial⟩)
end Go.Proofs.YteblmphohhbgcaaGreat.Mt
namespace Go.Proofs.YteblmphohhbgcaaGreat.Mt
open Go.RowKit Go.Proofs.YteblmphohhbgcaaGreat.Gn Go.Proofs.YteblmphohhbgcaaGreat.Fd Go.Proofs.YteblmphohhbgcaaGreat.Wr Go.Deep
def bd(a b n:Int):Bool:=decide (a≤n) && decide (n≤b)
structure Bo (w:World) (bb:Nat) (t:TypeId) (cs:Array Value):Prop where
 bl:Bl w bb t cs
 t1:t≠116
 t2:t≠75
theorem Bo.fz{w w':World}{lo g bb:Nat}{t:TypeId}{cs:Array Value}(h:Bo w bb t cs)(hf:Fz lo g w w'){wr:Bool}{K:Nat}{N:List Nd}(hp:Px w lo g wr K N):Bo w' bb t cs:=⟨hf.bl h.bl h.t2 (hp.ng h.bl h.t1),h.t1,h.t2⟩
theorem Bo.below{w w':World}{bb:Nat}{t:TypeId}{cs:Array Value}(h:Bo w bb t cs)(hb:Below w.heap.size w w'):Bo w' bb t cs:=⟨h.bl.below' hb,h.t1,h.t2⟩
theorem drewB(w:World)(n:Nat):Below w.heap.size w (w.drewN n):=below_drewN (Below.refl _ w) n
set_option maxHeartbeats 4000000 in
theorem version_x{w:World}{lo g:Nat}{wr:Bool}{K:Nat}{N:List Nd}(h:Px w lo g wr K N){bb o:Nat}{t:TypeId}{cs:Array Value}(hb:Bo w bb t cs){n:Int}(ho:cs[o]?=some (.int .i64 n))(hK:K≤1000000) :
  Calls Tryz.prog 98 #[.pointer (some ⟨g,0,none⟩),.pointer (some ⟨bb,o,none⟩)] w fun e w'=>e=.returned (.tuple #[])∧Px w' lo g (wr || !bd 1 4611686018427387904 n) (K+1) (N ++ [nN n])∧Fz lo g w w':=by
 have CN:=Lib.hid (number_x h hb.bl ho hb.t1 hb.t2 hK 1 4611686018427387904)
 rw[show(decide ((1:Int)≤n) && decide (n≤4611686018427387904))=bd 1 4611686018427387904 n from rfl] at CN
 clear h hb ho hK
 go_enter Tryz.func98,Tryz.ntmps98
 go_wp2_with (go_at_call 84;(refine CN.out.mono ?_);rintro e w1 ⟨rfl,h1,h2⟩;have P1:=Lib.hid h1;have F1:=Lib.hid h2;clear h1 h2)
 first|go_end0|refine bodyPost_ret (results_none rfl _ _ _) rfl ?_
 exact⟨rfl,P1.out,F1.out⟩
def hdB(v e:Int):Bool:=bd 1 4611686018427387904 v && bd 0 4611686018427387904 e
theorem or_and(wr a b:Bool):((wr || !a) || !b)=(wr || !(a && b)):=by cases wr <;> cases a <;> cases b <;> rfl
set_option maxHeartbeats 4000000 in
theorem head_x{w:World}{lo g:Nat}{wr:Bool}{K:Nat}{N:List Nd}(h:Px w lo g wr K N){bb o p:Nat}{t:TypeId}{cs:Array Value}(hb:Bo w bb t cs){n m:Int}(ho:cs[o]?=some (.int .i64 n))(hp:cs[p]?=some (.int .i64 m))(hK:K≤999999) :
  Calls Tryz.prog 69 #[.pointer (some ⟨g,0,none⟩),.pointer (some ⟨bb,o,none⟩),.pointer (some ⟨bb,p,none⟩)] w fun e w'=>e=.returned (.tuple #[])∧Px w' lo g (wr || !hdB n m) (K+2) (N ++ [nN n,nN m])∧Fz lo g w w':=by
 have CV:=Lib.hid (version_x h hb ho (by omega))
 have HP:=Lib.hid h
 have HB:=Lib.hid hb
 have HO:=Lib.hid hp
 have HK:=Lib.hid hK
 clear h hb ho hp hK
 go_enter Tryz.func69,Tryz.ntmps69
 go_wp2_with (first
  |(go_at_call 98;(refine CV.out.mono ?_);rintro e w1 ⟨rfl,h1,h2⟩;have F1:=Lib.hid h2;have B1:=HB.out.fz h2 HP.out;have CN:=Lib.hid (number_x h1 B1.bl HO.out B1.t1 B1.t2 (by have:=HK.out;omega) 0 4611686018427387904);rw[show(decide ((0:Int)≤m) && decide (m≤4611686018427387904))=bd 0 4611686018427387904 m from rfl] at CN;clear h1 h2 B1)
  |(go_at_call 84;(refine CN.out.mono ?_);rintro e w2 ⟨rfl,h1,h2⟩;have P2:=Lib.hid h1;have F2:=Lib.hid h2;clear h1 h2))
 first|go_end0|refine bodyPost_ret (results_none rfl _ _ _) rfl ?_
 refine⟨rfl,?_,F1.out.trans F2.out⟩
 have:=P2.out
 rwa [or_and,List.append_assoc] at this
def rfB(v s:Int)(n:Nat):Bool:=bd 1 4611686018427387904 v && (bd 0 4611686018427387904 s && bd 32 32 n)
abbrev rfN(v s:Int)(l:List Nat):List Nd:=[nN v,nN s,bN l]
set_option maxHeartbeats 4000000 in
theorem ref_x{w:World}{lo g:Nat}{wr:Bool}{K:Nat}{N:List Nd}(h:Px w lo g wr K N){bb:Nat}{t:TypeId}{cs:Array Value}(hb:Bo w bb t cs){n m:Int}{rA:Option Addr}{rn rc:Nat}{rl:List Nat}(ho:cs[2]?=some (.int .i64 n))(hm:cs[3]?=some (.int .i64 m))(hr:cs[4]?=some (.slice rA rn rc))(hp:Pc w (rA,rn,rc,rl))(hin:∀ad,rA=some ad→0 < rl.length→ad.block < lo)(hr9:rn≤1000000)(hK:K≤999998) :
  Calls Tryz.prog 82 #[.pointer (some ⟨g,0,none⟩),.pointer (some ⟨bb,2,none⟩)] w fun e w'=>e=.returned (.tuple #[])∧Px w' lo g (wr || !rfB n m rn) (K+(3+rn)) (N ++ rfN n m rl)∧Fz lo g w w':=by
 have CV:=Lib.hid (version_x h hb ho (by omega))
 have HP:=Lib.hid h
 have HB:=Lib.hid hb
 have HM:=Lib.hid hm
 have HR:=Lib.hid hr
 have HC:=Lib.hid hp
 have HI:=Lib.hid hin
 have R9:=Lib.hid hr9
 have HK:=Lib.hid hK
 have HL:=Lib.hid h.lt
 clear h hb ho hm hr hp hin hr9 hK
 go_enter Tryz.func82,Tryz.ntmps82
 go_wp2_with (first
  |(go_at_call 98;(refine CV.out.mono ?_);rintro e w1 ⟨rfl,h1,h2⟩;have F1:=Lib.hid h2;have B1:=Lib.hid (HB.out.fz h2 HP.out);have P1:=Lib.hid h1;have CN:=Lib.hid (number_x h1 B1.out.bl HM.out B1.out.t1 B1.out.t2 (by have:=HK.out;omega) 0 4611686018427387904);rw[show(decide ((0:Int)≤m) && decide (m≤4611686018427387904))=bd 0 4611686018427387904 m from rfl] at CN;clear h1 h2)
  |(go_at_call 84;(refine CN.out.mono ?_);rintro e w2 ⟨rfl,h1,h2⟩;have F2:=Lib.hid (F1.out.trans h2);have B2:=Lib.hid (B1.out.fz h2 P1.out);have CB:=Lib.hid (bytes_x h1 B2.out.bl HR.out (pc_low HC.out HI.out (F2.out.below HL.out.1 (Nat.le_refl _) (by have:=HL.out;omega))) HI.out R9.out B2.out.t1 B2.out.t2 (by have:=HK.out;omega) 32 32);rw[show(decide ((32:Int)≤(rn:Int)) && decide ((rn:Int)≤32))=bd 32 32 rn from rfl] at CB;clear h1 h2)
  |(go_at_call 85;(refine CB.out.mono ?_);rintro e w3 ⟨rfl,h1,h2⟩;have P3:=Lib.hid h1;have F3:=Lib.hid h2;clear h1 h2))
 first|go_end0|refine bodyPost_ret (results_none rfl _ _ _) rfl ?_
 refine⟨rfl,?_,F2.out.trans F3.out⟩
 have:=P3.out
 rw[or_and,or_and,List.append_assoc,List.append_assoc] at this
 rw[show K+(3+rn)=K+1+1+(1+rn) by omega]
 exact this
set_option maxHeartbeats 4000000 in
theorem inner_x{w:World}{lo g:Nat}{wr:Bool}{K:Nat}{N:List Nd}(h:Px w lo g wr K N){bb:Nat}{t:TypeId}{cs:Array Value}(hb:Bo w bb t cs){n m:Int}{rA:Option Addr}{rn rc:Nat}{rl:List Nat}(ho:cs[2]?=some (.int .i64 n))(hm:cs[3]?=some (.int .i64 m))(hr:cs[4]?=some (.slice rA rn rc))(hp:Pc w (rA,rn,rc,rl))(hr9:rn≤800000)(hK:K≤100000) :
  Calls Tryz.prog 81 #[.pointer (some ⟨g,0,none⟩),.pointer (some ⟨bb,2,none⟩),.func (.func 82) #[] #[]] w fun e w'=>e=.returned (.tuple #[])∧Px w' lo g (wr || !rfB n m rn) (K+(4+rn)) (N ++ [lN (rfN n m rl)])∧Fz lo g w w':=by
 obtain⟨ks,T,hpw,hN⟩:=h
 have CO:=Lib.hid (open_w hpw.bl)
 have HP:=Lib.hid hpw
 have HN:=Lib.hid hN
 have HB:=Lib.hid hb
 have HO:=Lib.hid ho
 have HM:=Lib.hid hm
 have HR:=Lib.hid hr
 have HC:=Lib.hid hp
 have R9:=Lib.hid hr9
 have HK:=Lib.hid hK
 clear hpw hN hb ho hm hr hp hr9 hK
 go_enter Tryz.func81,Tryz.ntmps81
 go_wp2_with (first
  |(go_at_call 99;(refine CO.out.mono ?_);rintro e w1 ⟨rfl,h1,h2⟩;have B1:=Lib.hid h2;have CF:=Lib.hid (ref_x h1 (HB.out.below h2) HO.out HM.out HR.out (HC.out.below h2) (pc_lt HC.out) (by have:=R9.out;omega) (by decide));have L1:=Lib.hid h1.lt;clear h1 h2)
  |(go_at_call 82;(refine CF.out.mono ?_);rintro e w2 ⟨rfl,h1,h2⟩;have B2:=Lib.hid (B1.out.trans (h2.below (Nat.le_refl _) (Nat.le_refl _) (Nat.le_of_lt L1.out.2)));obtain⟨us,T2,p2,n2⟩:=h1;obtain⟨A2,c2,rfl,-⟩:=own_form p2.own;have N2:=Lib.hid n2;have CE:=Lib.hid (end_w (HP.out.below B2.out) p2 HP.out.bl.lt (fun k e=>(own_ltg HP.out.own k e).2) (by have:=HK.out;omega) (by have:=R9.out;omega));clear h2 p2 n2)
  |(go_at_call 101;(refine CE.out.mono ?_);rintro e w3 ⟨rfl,t3,T3,h1,h2,h3,h4⟩;have P3:=Lib.hid h1;have N3:=Lib.hid h2;have F3:=Lib.hid h3;have D3:=Lib.hid h4;clear h1 h2 h3 h4))
 first|go_end0|refine bodyPost_ret (results_none rfl _ _ _) rfl ?_
 have e1:(wr || !!(false || !rfB n m rn))=(wr || !rfB n m rn):=by cases wr <;> cases rfB n m rn <;> rfl
 rw[e1] at P3
 refine⟨rfl,⟨_,T3,⟨P3.out.bl,P3.out.own,P3.out.ok,P3.out.aw,P3.out.low,Nat.le_trans P3.out.sz (by omega),P3.out.up⟩,fun hw=>?_⟩,(Fz.of_below B2.out).trans (.of (HP.out.below B2.out) F3.out D3.out)⟩
 obtain⟨w1',w2'⟩:=or_false hw
 have e2:(false || !rfB n m rn)=false:=by rw[Bool.false_or];exact w2'
 rw[nds_snoc,HN.out w1',N3.out,N2.out e2]
 rfl
end Go.Proofs.YteblmphohhbgcaaGreat.Mt
namespace Go.Proofs.YteblmphohhbgcaaGreat.Mt
open Go.RowKit Go.Proofs.YteblmphohhbgcaaGreat.Gn Go.Proofs.YteblmphohhbgcaaGreat.Fd Go.Proofs.YteblmphohhbgcaaGreat.Wr Go.Deep
def tmB(v e rv rs:Int)(n:Nat):Bool:=hdB v e && rfB rv rs n
abbrev tmN(v e rv rs:Int)(l:List Nat):List Nd:=[nN v,nN e,lN (rfN rv rs l)]
def tgB(v e s c:Int)(n:Nat):Bool:=hdB v e && (bd 1 131072 s && (bd 64 1024 c && bd 32 32 n))
abbrev tgN(v e s c:Int)(l:List Nat):List Nd:=[nN v,nN e,nN s,nN c,bN l]
set_option maxHeartbeats 4000000 in
theorem timestamp_x{w:World}{lo g:Nat}{wr:Bool}{K:Nat}{N:List Nd}(h:Px w lo g wr K N){bb:Nat}{t:TypeId}{v e rv rs:Int}{rA:Option Addr}{rn rc:Nat}{rl:List Nat}(hb:Bo w bb t #[.int .i64 v,.int .i64 e,.int .i64 rv,.int .i64 rs,.slice rA rn rc])(hp:Pc w (rA,rn,rc,rl))(hin:∀ad,rA=some ad→0 < rl.length→ad.block < lo)(hr9:rn≤800000)(hK:K≤90000) :
  Calls Tryz.prog 46 #[.pointer (some ⟨g,0,none⟩),.pointer (some ⟨bb,0,none⟩)] w fun e' w'=>e'=.returned (.tuple #[])∧Px w' lo g (wr || !tmB v e rv rs rn) (K+(6+rn)) (N ++ tmN v e rv rs rl)∧Fz lo g w w':=by
 have CH:=Lib.hid (fun n=>head_x (h.below (drewB w n)) (hb.below (drewB w n)) (o:=0) (p:=1) rfl rfl (by omega))
 have HP:=Lib.hid h
 have HB:=Lib.hid hb
 have HC:=Lib.hid hp
 have HI:=Lib.hid hin
 have R9:=Lib.hid hr9
 have HK:=Lib.hid hK
 clear h hb hp hin hr9 hK
 go_enter Tryz.func46,Tryz.ntmps46
 go_wp2_with fail
 go_region_with (go_at_call 69;(refine(CH.out _).mono ?_);rintro e1 w1 ⟨rfl,h1,h2⟩;have F1:=Lib.hid ((Fz.of_below (drewB w _)).trans h2);have D1:=F1.out.below HP.out.lt.1 (Nat.le_refl _) (by have:=HP.out.lt;omega);have CI:=Lib.hid (inner_x h1 ((HB.out.below (drewB w _)).fz h2 (HP.out.below (drewB w _))) rfl rfl rfl (pc_low HC.out HI.out D1) R9.out (by have:=HK.out;omega));clear h1 h2 D1)
 all_goals go_wp2_with (go_at_call 81;(refine CI.out.mono ?_);rintro e2 w2 ⟨rfl,h1,h2⟩;have P2:=Lib.hid h1;have F2:=Lib.hid h2;clear h1 h2)
 all_goals(
  first|go_end0|refine bodyPost_ret (results_none rfl _ _ _) rfl ?_
  refine⟨rfl,?_,F1.out.trans F2.out⟩
  have:=P2.out
  rw[or_and,List.append_assoc] at this
  rw[show K+(6+rn)=K+2+(4+rn) by omega]
  exact this)
set_option maxHeartbeats 4000000 in
theorem snapshot_x{w:World}{lo g:Nat}{wr:Bool}{K:Nat}{N:List Nd}(h:Px w lo g wr K N){bb:Nat}{t:TypeId}{v e rv rs:Int}{rA:Option Addr}{rn rc:Nat}{rl:List Nat}(hb:Bo w bb t #[.int .i64 v,.int .i64 e,.int .i64 rv,.int .i64 rs,.slice rA rn rc])(hp:Pc w (rA,rn,rc,rl))(hin:∀ad,rA=some ad→0 < rl.length→ad.block < lo)(hr9:rn≤800000)(hK:K≤90000) :
  Calls Tryz.prog 48 #[.pointer (some ⟨g,0,none⟩),.pointer (some ⟨bb,0,none⟩)] w fun e' w'=>e'=.returned (.tuple #[])∧Px w' lo g (wr || !tmB v e rv rs rn) (K+(6+rn)) (N ++ tmN v e rv rs rl)∧Fz lo g w w':=by
 have CH:=Lib.hid (fun n=>head_x (h.below (drewB w n)) (hb.below (drewB w n)) (o:=0) (p:=1) rfl rfl (by omega))
 have HP:=Lib.hid h
 have HB:=Lib.hid hb
 have HC:=Lib.hid hp
 have HI:=Lib.hid hin
 have R9:=Lib.hid hr9
 have HK:=Lib.hid hK
 clear h hb hp hin hr9 hK
 go_enter Tryz.func48,Tryz.ntmps48
 go_wp2_with fail
 go_region_with (go_at_call 69;(refine(CH.out _).mono ?_);rintro e1 w1 ⟨rfl,h1,h2⟩;have F1:=Lib.hid ((Fz.of_below (drewB w _)).trans h2);have D1:=F1.out.below HP.out.lt.1 (Nat.le_refl _) (by have:=HP.out.lt;omega);have CI:=Lib.hid (inner_x h1 ((HB.out.below (drewB w _)).fz h2 (HP.out.below (drewB w _))) rfl rfl rfl (pc_low HC.out HI.out D1) R9.out (by have:=HK.out;omega));clear h1 h2 D1)
 all_goals go_wp2_with (go_at_call 81;(refine CI.out.mono ?_);rintro e2 w2 ⟨rfl,h1,h2⟩;have P2:=Lib.hid h1;have F2:=Lib.hid h2;clear h1 h2)
 all_goals(
  first|go_end0|refine bodyPost_ret (results_none rfl _ _ _) rfl ?_
  refine⟨rfl,?_,F1.out.trans F2.out⟩
  have:=P2.out
  rw[or_and,List.append_assoc] at this
  rw[show K+(6+rn)=K+2+(4+rn) by omega]
  exact this)
set_option maxHeartbeats 4000000 in
theorem targets_x{w:World}{lo g:Nat}{wr:Bool}{K:Nat}{N:List Nd}(h:Px w lo g wr K N){bb:Nat}{t:TypeId}{v e s c:Int}{rA:Option Addr}{rn rc:Nat}{rl:List Nat}(hb:Bo w bb t #[.int .i64 v,.int .i64 e,.int .i64 s,.int .i64 c,.slice rA rn rc])(hp:Pc w (rA,rn,rc,rl))(hin:∀ad,rA=some ad→0 < rl.length→ad.block < lo)(hr9:rn≤800000)(hK:K≤90000) :
  Calls Tryz.prog 57 #[.pointer (some ⟨g,0,none⟩),.pointer (some ⟨bb,0,none⟩)] w fun e' w'=>e'=.returned (.tuple #[])∧Px w' lo g (wr || !tgB v e s c rn) (K+(5+rn)) (N ++ tgN v e s c rl)∧Fz lo g w w':=by
 have CH:=Lib.hid (fun n=>head_x (h.below (drewB w n)) (hb.below (drewB w n)) (o:=0) (p:=1) rfl rfl (by omega))
 have HP:=Lib.hid h
 have HB:=Lib.hid hb
 have HC:=Lib.hid hp
 have HI:=Lib.hid hin
 have R9:=Lib.hid hr9
 have HK:=Lib.hid hK
 have HL:=Lib.hid h.lt
 clear h hb hp hin hr9 hK
 go_enter Tryz.func57,Tryz.ntmps57
 go_wp2_with fail
 go_region_with (go_at_call 69;(refine(CH.out _).mono ?_);rintro e1 w1 ⟨rfl,h1,h2⟩;have F1:=Lib.hid ((Fz.of_below (drewB w _)).trans h2);have B1:=Lib.hid ((HB.out.below (drewB w _)).fz h2 (HP.out.below (drewB w _)));have P1:=Lib.hid h1;have CX:=Lib.hid (number_x h1 B1.out.bl (o:=2) rfl B1.out.t1 B1.out.t2 (by have:=HK.out;omega) 1 131072);clear h1 h2)
 all_goals go_wp2_with (go_at_call 84;(refine CX.out.mono ?_);rintro e2 w2 ⟨rfl,h1,h2⟩;have F2:=Lib.hid (F1.out.trans h2);have B2:=Lib.hid (B1.out.fz h2 P1.out);have P2:=Lib.hid h1;have CY:=Lib.hid (number_x h1 B2.out.bl (o:=3) rfl B2.out.t1 B2.out.t2 (by have:=HK.out;omega) 64 1024);clear h1 h2 CX)
 all_goals go_wp2_with (go_at_call 84;(refine CY.out.mono ?_);rintro e3 w3 ⟨rfl,h1,h2⟩;have F3:=Lib.hid (F2.out.trans h2);have B3:=Lib.hid (B2.out.fz h2 P2.out);have CZ:=Lib.hid (bytes_x h1 B3.out.bl (o:=4) rfl (pc_low HC.out HI.out (F3.out.below HL.out.1 (Nat.le_refl _) (by have:=HL.out;omega))) HI.out (by have:=R9.out;omega) B3.out.t1 B3.out.t2 (by have:=HK.out;omega) 32 32);clear h1 h2 CY)
 all_goals go_wp2_with (go_at_call 85;(refine CZ.out.mono ?_);rintro e4 w4 ⟨rfl,h1,h2⟩;have P4:=Lib.hid h1;have F4:=Lib.hid (F3.out.trans h2);clear h1 h2)
 all_goals(
  first|go_end0|refine bodyPost_ret (results_none rfl _ _ _) rfl ?_
  refine⟨rfl,?_,F4.out⟩
  have:=P4.out
  rw[or_and,or_and,or_and,List.append_assoc,List.append_assoc,List.append_assoc] at this
  rw[show K+(5+rn)=K+2+1+1+(1+rn) by omega]
  rw[show tgB v e s c rn=(hdB v e && (decide ((1:Int)≤s) && decide (s≤131072) && (decide ((64:Int)≤c) && decide (c≤1024) && (decide ((32:Int)≤(rn:Int)) && decide ((rn:Int)≤32))))) from rfl]
  exact this)
end Go.Proofs.YteblmphohhbgcaaGreat.Mt
