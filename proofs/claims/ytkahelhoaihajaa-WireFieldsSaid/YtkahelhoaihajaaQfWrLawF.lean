/- Joined texts. -/
import Derived.Test.YtkahelhoaihajaaQfWrIv
set_option linter.unusedVariables false
namespace Go.Proofs.Ytkahelhoaihajaa.Wr
open Go.RowKit Go.Proofs.Ytkahelhoaihajaa.Gn Go.Proofs.Ytkahelhoaihajaa.Fd Go.Deep
theorem dq_true(k:Int)(br:Bool)(ks:List Tv):dq (fun _=>true) k br ks=((tk k br ks).1,(tk k br ks).2.1,(tk k br ks).2.2.1):=by
 obtain⟨t,ls,ok,e1,e2,e3,e4,e5,e6⟩:=dq_cases (fun _=>true) k br ks
 rw[e6,e1,e2,e4]
 cases ok with
 |true=>rfl
 |false=>rw[e5 rfl];rfl
theorem ok_kids{w:World}{t:Tv}(h:Ok w t):Sl w (kA t) (4*(kids t).length) (flat (kids t))∧(kids t).length≤kc t∧(kA t=none→kc t=0)∧(∀x∈kids t,Ok w x)∧(kids t).length≤1000000:=by
 cases h with
 |mk hn hr hs hm hc h0 hk=>exact⟨hs,hc,h0,hk,hm⟩
theorem Same_eq2{w:World}{s t:Tv}(hs:Ok w s)(ht:Ok w t)(h:nd s=nd t):Calls Try.prog 22 #[s.val,t.val] w (SmQ true w):=by
 have h1:=RSame_any hs ht _ (Below.refl _ _)
 rw[h,(sn_eq _ _).2 rfl] at h1
 exact h1
theorem ok_pc{w:World}{t:Tv}(h:Ok w t):Pc w (rw_ t):=by
 cases h with
 |mk hn hr hs hm hc h0 hk=>exact hr
set_option maxHeartbeats 4000000 in
set_option maxRecDepth 100000 in
theorem walk_wireFields {w : World} {v : Tv} (hv : Ok0 w v) (L : Option Addr) (ln lc : Nat) (l : List (Int × Int × Int)) (hl : Sl w L (3 * l.length) (asks l)) (hn : ln = l.length) :
    Calls Try.prog 5 #[v.val, .slice L ln lc] w fun e w' => e = .returned (.bool true) ∧ Below w.heap.size w w' := by
  have KN := Lib.hid known_any
  have GR := Lib.hid (fun u hu => great_any hv u hu)
  obtain ⟨SZ, hSZ⟩ : ∃ SZ, sz v = SZ := ⟨_, rfl⟩
  rw [hSZ] at GR
  have MAIN := Lib.hid (show SZ ≤ 2000 → Ok w v ∧ sz v ≤ 2000 from fun h1 => by
    have h3 := hv.ok v (by omega)
    exact ⟨h3, by omega⟩)
  have HL := Lib.hid hl
  have HN := Lib.hid hn
  clear hv hSZ hl hn
  obtain ⟨Kv, N0, r0, B0, c0, v0⟩ := v
  simp only [Tv.val, Tv.row] at GR ⊢
  obtain ⟨U, hU⟩ : ∃ U, (w.alloc (.cells #[.int .i64 Kv, .int .u64 (N0 : Int), .slice r0.1 r0.2.1 r0.2.2.1, .slice B0 v0.length c0] 26)) = U := ⟨_, rfl⟩
  have BU := Lib.hid (show Below w.heap.size w U from by rw [← hU]; exact (Below.refl _ w).alloc (Nat.le_refl _) _)
  have NV := Lib.hid (show Bl U w.heap.size 26 #[.int .i64 Kv, .int .u64 (N0 : Int), .slice r0.1 r0.2.1 r0.2.2.1, .slice B0 v0.length c0] from by rw [← hU]; exact Bl.new_ w _ _)
  have z0 : (U).cell? ⟨w.heap.size, 0, none⟩ = some (.int .i64 Kv) := (NV.out).cell_ rfl
  have z1 : (U).cell? ⟨w.heap.size, 1, none⟩ = some (.int .u64 (N0 : Int)) := (NV.out).cell_ rfl
  have z2 : (U).cell? ⟨w.heap.size, 2, none⟩ = some (.slice r0.1 r0.2.1 r0.2.2.1) := (NV.out).cell_ rfl
  have z3 : (U).cell? ⟨w.heap.size, 3, none⟩ = some (.slice B0 v0.length c0) := (NV.out).cell_ rfl
  by_cases g1 : 2000 < SZ
  · rw [decide_eq_true g1] at GR
    clear g1 MAIN
    go_enter Try.func5, Try.ntmps5
    go_wp2_with (first
      | (go_at_call 10; (refine (GR.out _ BU.out).mono ?_); rintro e w1 ⟨rfl, hb1⟩; have F1 := Lib.hid hb1; have zz0 : (w1).cell? ⟨w.heap.size, 0, none⟩ = some (.int .i64 Kv) := (NV.out.below' hb1).cell_ rfl; have zz1 : (w1).cell? ⟨w.heap.size, 1, none⟩ = some (.int .u64 (N0 : Int)) := (NV.out.below' hb1).cell_ rfl; have zz2 : (w1).cell? ⟨w.heap.size, 2, none⟩ = some (.slice r0.1 r0.2.1 r0.2.2.1) := (NV.out.below' hb1).cell_ rfl; have zz3 : (w1).cell? ⟨w.heap.size, 3, none⟩ = some (.slice B0 v0.length c0) := (NV.out.below' hb1).cell_ rfl; clear hb1)
      | (go_at_call 11; (refine (KN.out _).mono ?_); rintro e w3 ⟨rfl, hb3⟩; have F3 := Lib.hid hb3; clear hb3))
    go_ret
    exact ⟨rfl, BU.out.trans ((F1.out.trans (F3.out.mono F1.out.size)).mono BU.out.size)⟩
  rw [decide_eq_false g1] at GR
  by_cases g2 : 50 < (ln : Int)
  · clear g1 MAIN
    go_enter Try.func5, Try.ntmps5
    go_wp2_with (first
      | (go_at_call 10; (refine (GR.out _ BU.out).mono ?_); rintro e w1 ⟨rfl, hb1⟩; have F1 := Lib.hid hb1; have zz0 : (w1).cell? ⟨w.heap.size, 0, none⟩ = some (.int .i64 Kv) := (NV.out.below' hb1).cell_ rfl; have zz1 : (w1).cell? ⟨w.heap.size, 1, none⟩ = some (.int .u64 (N0 : Int)) := (NV.out.below' hb1).cell_ rfl; have zz2 : (w1).cell? ⟨w.heap.size, 2, none⟩ = some (.slice r0.1 r0.2.1 r0.2.2.1) := (NV.out.below' hb1).cell_ rfl; have zz3 : (w1).cell? ⟨w.heap.size, 3, none⟩ = some (.slice B0 v0.length c0) := (NV.out.below' hb1).cell_ rfl; clear hb1)
      | (go_at_call 11; (refine (KN.out _).mono ?_); rintro e w3 ⟨rfl, hb3⟩; have F3 := Lib.hid hb3; clear hb3))
    go_ret
    exact ⟨rfl, BU.out.trans ((F1.out.trans (F3.out.mono F1.out.size)).mono BU.out.size)⟩
  obtain ⟨hok, hsz⟩ := MAIN.out (by omega)
  have OK0 := Lib.hid hok
  have SZ0 := Lib.hid (show sz (Tv.mk Kv N0 r0 B0 c0 v0) ≤ 1000000 from Nat.le_trans hsz (by decide))
  have n50 : ln ≤ 50 := by omega
  have OP := Lib.hid (show ∀ u, Below w.heap.size w u → Calls Try.prog 30 #[.agg #[.int .i64 Kv, .int .u64 (N0 : Int), .slice r0.1 r0.2.1 r0.2.2.1, .slice B0 v0.length c0]] u (fun e w' => ∃ g us, e = .returned (.pointer (some ⟨g, 0, none⟩)) ∧ Fl w' g (decide (Kv = 3)) us ∧ nds us = (if Kv = 3 then nds v0 else []) ∧ u.heap.size ≤ g ∧ Below u.heap.size u w') from fun u hu => by
    by_cases h3 : Kv = 3
    · subst h3
      exact (Open_list OK0.out SZ0.out u hu).mono fun e w' ⟨g, us, h1, h2, h3, h4, h5, h6⟩ => ⟨g, us, h1, h3, by rw [if_pos rfl]; exact h2, h4, h6⟩
    · exact (Open_no Kv h3 N0 r0 B0 v0.length c0 u).mono fun e w' ⟨g, h1, h2, h4, h6⟩ => ⟨g, [], h1, by rw [decide_eq_false h3]; exact fl_nil h2, by rw [if_neg h3]; rfl, h4, h6⟩)
  have DO := Lib.hid (show ∃ A c br kq, Dl w A c kq ∧ (∀ t ∈ kq, sz t ≤ 1000000) ∧ br = !(decide (Kv = 3)) ∧ (if Kv = 3 then nds v0 else []) = nds kq ∧ ∀ u, Calls Try.prog 31 #[.agg #[.int .i64 Kv, .int .u64 (N0 : Int), .slice r0.1 r0.2.1 r0.2.2.1, .slice B0 v0.length c0]] u (fun e w' => e = .returned (.agg (dfr A kq.length c br)) ∧ Below u.heap.size u w') from by
    by_cases h3 : Kv = 3
    · subst h3
      refine ⟨B0, c0, false, v0, ?_, fun t ht => ?_, rfl, by rw [if_pos rfl], fun u => ROpen_yes N0 r0 B0 v0.length c0 u⟩
      · have h := OK0.out
        cases h with
        | mk hn hr hs hm hc h0 hk => exact ⟨hs, h0, hc, hk⟩
      · have h := SZ0.out
        rw [sz] at h
        obtain ⟨i, hi⟩ := List.getElem?_of_mem ht
        have := szs_mem hi
        omega
    · exact ⟨none, 0, true, [], ⟨Sl.nil_ w none, fun _ => rfl, Nat.le_refl _, fun t ht => (List.not_mem_nil ht).elim⟩, fun t ht => (List.not_mem_nil ht).elim, by rw [decide_eq_false h3]; rfl, by rw [if_neg h3]; rfl, fun u => ROpen_no Kv h3 N0 r0 B0 v0.length c0 u⟩)
  obtain ⟨A0, d0, br0, kq0, hd0, hz0, hb0, hn0, hc0⟩ := DO.out
  have HD0 := Lib.hid (And.intro hd0 (And.intro hz0 (And.intro hb0 hn0)))
  have CO := Lib.hid hc0
  clear hd0 hz0 hb0 hn0 hc0 hok hsz g1 g2 MAIN DO
  go_enter Try.func5, Try.ntmps5
  go_upto_region 4 with (first
    | (go_at_call 10; (refine (GR.out _ BU.out).mono ?_); rintro e w1 ⟨rfl, hb1⟩; have F1 := Lib.hid hb1; have zz0 : (w1).cell? ⟨w.heap.size, 0, none⟩ = some (.int .i64 Kv) := (NV.out.below' hb1).cell_ rfl; have zz1 : (w1).cell? ⟨w.heap.size, 1, none⟩ = some (.int .u64 (N0 : Int)) := (NV.out.below' hb1).cell_ rfl; have zz2 : (w1).cell? ⟨w.heap.size, 2, none⟩ = some (.slice r0.1 r0.2.1 r0.2.2.1) := (NV.out.below' hb1).cell_ rfl; have zz3 : (w1).cell? ⟨w.heap.size, 3, none⟩ = some (.slice B0 v0.length c0) := (NV.out.below' hb1).cell_ rfl; clear hb1)
    | (go_at_call 30; (refine (OP.out _ (BU.out.trans (F1.out.mono BU.out.size))).mono ?_); rintro e w2 ⟨g, us, rfl, hf, hns, hg, hb⟩; have FLL := Lib.hid hf; have NS := Lib.hid hns; have GG := Lib.hid hg; have F2 := Lib.hid (F1.out.trans (hb.mono F1.out.size)); clear hf hns hg hb))
  have zz0 : (w2).cell? ⟨w.heap.size, 0, none⟩ = some (.int .i64 Kv) := (NV.out.below' F2.out).cell_ rfl
  have zz1 : (w2).cell? ⟨w.heap.size, 1, none⟩ = some (.int .u64 (N0 : Int)) := (NV.out.below' F2.out).cell_ rfl
  have zz2 : (w2).cell? ⟨w.heap.size, 2, none⟩ = some (.slice r0.1 r0.2.1 r0.2.2.1) := (NV.out.below' F2.out).cell_ rfl
  have zz3 : (w2).cell? ⟨w.heap.size, 3, none⟩ = some (.slice B0 v0.length c0) := (NV.out.below' F2.out).cell_ rfl
  go_upto_region 5 with (first
    | (go_at_call 31; (refine (CO.out _).mono ?_); rintro e w3 ⟨rfl, hb⟩; have B3 := Lib.hid hb; clear hb))
  have X3 := Lib.hid (below_one w3 (.cells (dfr A0 kq0.length d0 br0) 54))
  have IV0 := Lib.hid (show ∃ wh br kp kq A c, Iv w (w3.alloc (.cells (dfr A0 kq0.length d0 br0) 54)) g w3.heap.size wh br kp kq A c ∧ Alike wh kp br kq from by
    obtain ⟨h1, h2, h3, h4⟩ := HD0.out
    have hF := (FLL.out.below B3.out).below X3.out
    have hlt := (FLL.out.below B3.out).lt
    refine ⟨_, br0, us, kq0, A0, d0, ⟨hF, Bl.new_ _ _ _, h1, BU.out.trans ((F2.out.trans ((B3.out.trans (X3.out.mono B3.out.size)).mono F2.out.size)).mono BU.out.size), Nat.le_trans (Nat.le_trans BU.out.size F1.out.size) GG.out, hlt, fun t ht => ?_, h2⟩, by rw [h3]; simp, fun _ => NS.out.trans h4, fun e => ?_⟩
    · have e1 : szns (nds us) ≤ 1000000 := by
        rw [NS.out]
        split
        · have h := SZ0.out
          rw [(nd_all _ OK0.out).2.2.2, nd, szn] at h
          omega
        · exact Nat.zero_le _
      have e2 := (nds_all us hF.ok).2.2.2
      obtain ⟨i, hi⟩ := List.getElem?_of_mem ht
      have := szs_mem hi
      omega
    · rw [h3] at e
      have e3 : ¬ Kv = 3 := by simpa using e
      have h5 := NS.out
      rw [if_neg e3] at h5
      cases us with
      | nil => rfl
      | cons s ss => rw [nds] at h5; cases h5)
  have SQ := Lib.hid (show U.heap.size ≤ w3.heap.size from Nat.le_trans F2.out.size B3.out.size)
  obtain ⟨qd, hqd⟩ : ∃ qd, w3.heap.size = qd := ⟨_, rfl⟩
  rw [hqd] at IV0 ⊢
  generalize w3.alloc (.cells (dfr A0 kq0.length d0 br0) 54) = u3 at *
  clear hqd FLL NS GG X3 HD0 CO OP NV
  go_wp2_with fail
  go_loopg [7] ln (fun g1 vi wr => ∃ i : Nat, vi = .int .i64 (i : Int) ∧ i ≤ ln ∧ ln - i ≤ g1 ∧ Hid (∃ wh br kp kq A c, Iv w wr g qd wh br kp kq A c ∧ Alike wh kp br kq))
  case atStart => exact ⟨0, rfl, Nat.zero_le _, Nat.le_refl _, IV0⟩
  case round =>
    obtain ⟨i, rfl, hi, hg, IVH⟩ := hrel
    obtain ⟨wh, br, kp, kq, A, c, hIV, hAL⟩ := IVH.out
    have IVr := Lib.hid hIV
    have AL := Lib.hid hAL
    clear hIV hAL IVH
    obtain ⟨m, hm⟩ : ∃ m, kq.length = m := ⟨_, rfl⟩
    have HM := Lib.hid hm
    have BXr := Lib.hid (show Bl wr qd 54 #[.slice A m c, .bool br] from by have h := IVr.out.bx; rw [hm] at h; exact h)
    clear hm
    by_cases hlt : i < ln
    · have q0 : (i : Int) < (ln : Int) := by omega
      obtain ⟨⟨kq_, a, b⟩, hx⟩ : ∃ x, l[i]? = some x := ⟨_, List.getElem?_eq_getElem (by have := HN.out; omega)⟩
      obtain ⟨adl, rfl, ae, hae, cka, ckb, ckc⟩ := ask_cells HL.out hx IVr.out.bw
      have jw : IntKind.i64.wrap ((i : Int) + 1) = ((i + 1 : Nat) : Int) := by simp only [IntKind.wrap_i64]; omega
      clear hx
      obtain ⟨w8, hw8⟩ : ∃ w8, wr.alloc (.cells #[.int .i64 kq_, .int .i64 a, .int .i64 b] 57) = w8 := ⟨_, rfl⟩
      have B8 := Lib.hid (show Below wr.heap.size wr w8 from by rw [← hw8]; exact below_one wr _)
      have NQ := Lib.hid (show Bl w8 wr.heap.size 57 #[.int .i64 kq_, .int .i64 a, .int .i64 b] from by rw [← hw8]; exact Bl.new_ _ _ _)
      have IV8 := Lib.hid (IVr.out.below B8.out)
      have BX8 := Lib.hid (BXr.out.below' B8.out)
      have QL := Lib.hid (show qd < wr.heap.size from BXr.out.lt)
      obtain ⟨q8, hq8⟩ : ∃ q8, wr.heap.size = q8 := ⟨_, rfl⟩
      rw [hq8] at NQ QL
      by_cases h1 : kq_ = 1
      · subst h1
        obtain ⟨tp, wh', kp', hX⟩ : ∃ tp wh' kp', nxt (fun _ => true) 1 wh kp = (tp, wh', kp') := ⟨_, _, _, rfl⟩
        obtain ⟨td, br', kq', hD⟩ : ∃ td br' kq', dq (fun _ => true) 1 br kq = (td, br', kq') := ⟨_, _, _, rfl⟩
        have ST := Lib.hid (show nd tp = nd td ∧ Alike wh' kp' br' kq' from by have h := alike_step (F := fun _ => true) (k := 1) (fun s _ t _ h => rfl) AL.out; rw [hX, hD] at h; exact h)
        have ZP := Lib.hid (show ∀ t ∈ kp', sz t ≤ 1000000 from by have h := (nxt_sz (F := fun _ => true) (k := 1) (wh := wh) IVr.out.zp).2; rw [hX] at h; exact h)
        have ZD := Lib.hid (show ∀ t ∈ kq', sz t ≤ 1000000 from by have h := dq_sz (F := fun _ => true) (k := 1) (br := br) IVr.out.zq; rw [hD] at h; exact h)
        obtain ⟨A', c', hd, hok, hR⟩ := Take_any (br := br) IVr.out.dl 1
        rw [dq_true] at hD
        injection hD with hD1 hD2
        injection hD2 with hD2 hD3
        rw [hD3] at hd hR
        rw [hD1] at hok hR
        rw [hD2] at hR
        obtain ⟨okb, hokb⟩ : ∃ okb, (tk 1 br kq).2.2.2 = okb := ⟨_, rfl⟩
        rw [hokb] at hR
        have DLn := Lib.hid (show Dl w A' c' kq' from hd)
        obtain ⟨m', hm'⟩ : ∃ m', kq'.length = m' := ⟨_, rfl⟩
        have HM' := Lib.hid hm'
        have CP := Lib.hid (show ∀ V, Fl V g wh kp → Calls Try.prog 33 #[.pointer (some ⟨g, 0, none⟩)] V (fun e w' => e = .returned (.int .u64 (nm td : Int)) ∧ Lf w' g wh' kp' V) from fun V h => by
          have h2 := Num_any_ h
          rw [hX] at h2
          rw [← nm_nd ST.out.1]; exact h2)
        have CR := Lib.hid (show ∀ u, Below w.heap.size w u → Calls Try.prog 32 #[.agg #[.slice A m c, .bool br], .int .i64 1] u (fun e w' => e = .returned (.tuple #[td.val, .agg #[.slice A' m' c', .bool br'], .bool okb]) ∧ Below u.heap.size u w') from by have h := hR; rw [HM.out, hm'] at h; exact h)
        clear hX hD1 hD2 hD3 hd hok hR hm' hokb
        obtain ⟨Kt, Nt, rt, Bt, ct, ut⟩ := td
        simp only [Tv.val, Tv.row, nm] at CR CP
        obtain ⟨nt, hnt⟩ : ∃ nt, ut.length = nt := ⟨_, rfl⟩
        rw [hnt] at CR
        clear hnt
        have k0 : (w8).cell? ⟨q8, 0, none⟩ = some (.int .i64 1) := Bl.cell_ NQ.out rfl
        have k1 : (w8).cell? ⟨q8, 1, none⟩ = some (.int .i64 a) := Bl.cell_ NQ.out rfl
        have k2 : (w8).cell? ⟨q8, 2, none⟩ = some (.int .i64 b) := Bl.cell_ NQ.out rfl
        have d0 : (w8).cell? ⟨qd, 0, none⟩ = some (.slice A m c) := Bl.cell_ BX8.out rfl
        have d1 : (w8).cell? ⟨qd, 1, none⟩ = some (.bool br) := Bl.cell_ BX8.out rfl
        go_upto_region 12 with (go_at_call 32; (refine (CR.out _ IV8.out.bw).mono ?_); rintro e w9 ⟨rfl, hb9⟩; have B9 := Lib.hid hb9; clear hb9)
        have X13 := Lib.hid (show Below w9.heap.size w9 ((w9.alloc (.cells #[.int .i64 Kt, .int .u64 (Nt : Int), .slice rt.1 rt.2.1 rt.2.2.1, .slice Bt nt ct] 26)).alloc (.cells #[.slice A' m' c', .bool br'] 54)) from ((Below.refl _ w9).alloc (Nat.le_refl _) _).alloc (by simp) _)
        have N12 := Lib.hid (show Bl ((w9.alloc (.cells #[.int .i64 Kt, .int .u64 (Nt : Int), .slice rt.1 rt.2.1 rt.2.2.1, .slice Bt nt ct] 26)).alloc (.cells #[.slice A' m' c', .bool br'] 54)) w9.heap.size 26 #[.int .i64 Kt, .int .u64 (Nt : Int), .slice rt.1 rt.2.1 rt.2.2.1, .slice Bt nt ct] from (Bl.new_ w9 _ _).alloc _)
        have N13 := Lib.hid (show Bl ((w9.alloc (.cells #[.int .i64 Kt, .int .u64 (Nt : Int), .slice rt.1 rt.2.1 rt.2.2.1, .slice Bt nt ct] 26)).alloc (.cells #[.slice A' m' c', .bool br'] 54)) (w9.heap.size + 1) 54 #[.slice A' m' c', .bool br'] from Bl.new' _ _ (by simp))
        have IV13 := Lib.hid ((IV8.out.below B9.out).below X13.out)
        have BX13 := Lib.hid ((BX8.out.below' B9.out).below' X13.out)
        have S13 := Lib.hid (show qd < w9.heap.size from Nat.lt_of_lt_of_le BX8.out.lt B9.out.size)
        obtain ⟨q13, hq13⟩ : ∃ q13, w9.heap.size = q13 := ⟨_, rfl⟩
        rw [hq13] at N12 N13 S13 ⊢
        clear X13
        generalize ((w9.alloc (.cells #[.int .i64 Kt, .int .u64 (Nt : Int), .slice rt.1 rt.2.1 rt.2.2.1, .slice Bt nt ct] 26)).alloc (.cells #[.slice A' m' c', .bool br'] 54)) = v13 at *
        clear hq13 B9
        have x0 : (v13).cell? ⟨q13 + 1, 0, none⟩ = some (.slice A' m' c') := Bl.cell_ N13.out rfl
        have x1 : (v13).cell? ⟨q13 + 1, 1, none⟩ = some (.bool br') := Bl.cell_ N13.out rfl
        have y0 : (v13).cell? ⟨qd, 0, none⟩ = some (.slice A m c) := Bl.cell_ BX13.out rfl
        have y1 : (v13).cell? ⟨qd, 1, none⟩ = some (.bool br) := Bl.cell_ BX13.out rfl
        have fy0 := Bl.frozen BX13.out 0
        have fy1 := Bl.frozen BX13.out 1
        obtain ⟨V', hV'⟩ : ∃ V', st2 v13 qd (.slice A' m' c') (.bool br') = V' := ⟨_, rfl⟩
        have IVV := Lib.hid (show Iv w V' g qd wh br' kp kq' A' c' from by have h := IV13.out.doc (br' := br') DLn.out ZD.out; rw [HM'.out, hV'] at h; exact h)
        have s13 := S13.out
        have N12V := Lib.hid (show Bl V' q13 26 #[.int .i64 Kt, .int .u64 (Nt : Int), .slice rt.1 rt.2.1 rt.2.2.1, .slice Bt nt ct] from by rw [← hV']; exact st2_other N12.out (by omega) _ _)
        have gq13 := Lib.hid (show g ≠ q13 from by have := IVV.out.gq; omega)
        clear s13
        go_upto_region 13 with fail
        try rw [hV']
        clear hV'
        refine wp_region_held_drew (S := fun x => Bl x q13 26 #[.int .i64 Kt, .int .u64 (Nt : Int), .slice rt.1 rt.2.1 rt.2.2.1, .slice Bt nt ct]) (by kernel_rfl) (bl_drew N12V.out) (fun hS9 => ?_)
        clear hS9
        refine take_l 0 (v := ?_) rfl (by kernel_rfl) (by kernel_rfl) (by kernel_rfl) (fun _ _ _ h => h) (Or.inl ⟨by rfl, ?_⟩) (bl_drew N12V.out) ?_; rotate_left
        · intro w' hSw
          clear hSw
          go_simp
          all_goals with_reducible rfl
        try simp only [Act.put, List.setIfInBounds_toArray, List.set_cons_zero, List.set_cons_succ]
        refine take_l 2 (v := ?_) rfl (by kernel_rfl) (by kernel_rfl) (by kernel_rfl) (fun _ _ _ h => h) (Or.inl ⟨by rfl, ?_⟩) (bl_drew N12V.out) ?_; rotate_left
        · intro w' hSw
          clear hSw
          go_simp
          all_goals with_reducible rfl
        try simp only [Act.put, List.setIfInBounds_toArray, List.set_cons_zero, List.set_cons_succ]
        refine take_l 3 (v := ?_) rfl (by kernel_rfl) (by kernel_rfl) (by kernel_rfl) (fun _ _ _ h => h) (Or.inl ⟨by rfl, ?_⟩) (bl_drew N12V.out) ?_; rotate_left
        · intro w' hSw
          have e1 : w'.cell? ⟨q13, 1, none⟩ = some (.int .u64 (Nt : Int)) := Bl.cell_ hSw rfl
          clear hSw
          go_simp
          all_goals with_reducible rfl
        try simp only [Act.put, List.setIfInBounds_toArray, List.set_cons_zero, List.set_cons_succ]
        refine wpAnyH_ready (rs := [1]) (by kernel_rfl) (by simp) ?_
        refine cons_l rfl (fun K0 hK => ?_) AllReadyH.nil
        go_simp
        (go_at_call 33; (refine (CP.out _ (IVV.out.fl.below (below_drewN (Below.refl _ _) 1))).mono ?_); rintro e w14 ⟨rfl, hl14⟩)
        have IVF := Lib.hid ((IVV.out.below (below_drewN (Below.refl _ _) 1)).prog hl14 ZP.out)
        have N14 := Lib.hid ((bl_drew N12V.out).grown hl14.grown (by intro e; injection e with e; exact gq13.out e))
        clear hl14
        refine hK.out _ _ (N14.out) (fun hS9 => ?_)
        clear hS9
        clear hK K0
        try simp only [Act.put, List.setIfInBounds_toArray, List.set_cons_zero, List.set_cons_succ]
        refine take_l 4 (v := ?_) rfl (by kernel_rfl) (by kernel_rfl) (by kernel_rfl) (fun _ _ _ h => h) (Or.inl ⟨by rfl, ?_⟩) (N14.out) ?_; rotate_left
        · intro w' hSw
          clear hSw
          go_simp
          all_goals with_reducible rfl
        try simp only [Act.put, List.setIfInBounds_toArray, List.set_cons_zero, List.set_cons_succ]
        refine wpAnyH_done (by kernel_rfl) ?_ _
        have BXT := Lib.hid (show Bl w14 qd 54 #[.slice A' (kq').length c', .bool br'] from IVF.out.bx)
        have FLT := Lib.hid (IVF.out.fl)
        have ADN := Lib.hid (alike_done (ST.out.2))
        obtain ⟨DB, hDB⟩ : ∃ DB, (!br' && decide ((kq').length = 0)) = DB := ⟨_, rfl⟩
        rw [hDB] at ADN
        have CDN := Lib.hid (show ∀ u, Below w14.heap.size w14 u → Calls Try.prog 43 #[.pointer (some ⟨g, 0, none⟩)] u (fun e w' => e = .returned (.bool DB) ∧ u = w') from fun u hu => by have h := Done_any_ (FLT.out.below hu); rw [ADN.out] at h; exact h)
        have CRD := Lib.hid (show ∀ u, Calls Try.prog 44 #[.agg #[.slice A' (kq').length c', .bool br']] u (fun e w' => e = .returned (.bool DB) ∧ Below u.heap.size u w') from fun u => hDB ▸ RDone_any A' (kq').length c' br' u)
        obtain ⟨mT, hmT⟩ : ∃ mT, (kq').length = mT := ⟨_, rfl⟩
        rw [hmT] at BXT CRD
        clear hmT hDB
        go_upto_region 35 with fail
        refine wp_region_held_drew (S := fun x => Bl x qd 54 #[.slice A' mT c', .bool br']) (by kernel_rfl) (bl_drew BXT.out) (fun hS9 => ?_)
        clear hS9
        refine take_l 0 (v := ?_) rfl (by kernel_rfl) (by kernel_rfl) (by kernel_rfl) (fun _ _ _ h => h) (Or.inl ⟨by rfl, ?_⟩) (bl_drew BXT.out) ?_; rotate_left
        · intro w' hSw
          clear hSw
          go_simp
          all_goals with_reducible rfl
        try simp only [Act.put, List.setIfInBounds_toArray, List.set_cons_zero, List.set_cons_succ]
        refine take_l 2 (v := ?_) rfl (by kernel_rfl) (by kernel_rfl) (by kernel_rfl) (fun _ _ _ h => h) (Or.inl ⟨by rfl, ?_⟩) (bl_drew BXT.out) ?_; rotate_left
        · intro w' hSw
          have e0 : w'.cell? ⟨qd, 0, none⟩ = some (.slice A' mT c') := Bl.cell_ hSw rfl
          have e1 : w'.cell? ⟨qd, 1, none⟩ = some (.bool br') := Bl.cell_ hSw rfl
          clear hSw
          go_simp
          all_goals with_reducible rfl
        try simp only [Act.put, List.setIfInBounds_toArray, List.set_cons_zero, List.set_cons_succ]
        refine wpAnyH_ready (rs := [1]) (by kernel_rfl) (by simp) ?_
        refine cons_l rfl (fun K0 hK => ?_) AllReadyH.nil
        go_simp
        (go_at_call 43; (refine (CDN.out _ (below_drewN (Below.refl _ _) 1)).mono ?_); rintro e w20 ⟨rfl, rfl⟩)
        refine hK.out _ _ (bl_drew BXT.out) (fun hS9 => ?_)
        clear hS9
        clear hK K0
        try simp only [Act.put, List.setIfInBounds_toArray, List.set_cons_zero, List.set_cons_succ]
        refine wpAnyH_ready (rs := [3]) (by kernel_rfl) (by simp) ?_
        refine cons_l rfl (fun K0 hK => ?_) AllReadyH.nil
        go_simp
        (go_at_call 44; (refine (CRD.out _).mono ?_); rintro e w21 ⟨rfl, hb21⟩)
        refine hK.out _ _ ((bl_drew BXT.out).below' hb21) (fun hS9 => ?_)
        clear hS9
        clear hK K0
        try simp only [Act.put, List.setIfInBounds_toArray, List.set_cons_zero, List.set_cons_succ]
        refine take_l 4 (v := ?_) rfl (by kernel_rfl) (by kernel_rfl) (by kernel_rfl) (fun _ _ _ h => h) (Or.inl ⟨by rfl, ?_⟩) ((bl_drew BXT.out).below' hb21) ?_; rotate_left
        · intro w' hSw
          clear hSw
          go_simp
          all_goals with_reducible rfl
        try simp only [Act.put, List.setIfInBounds_toArray, List.set_cons_zero, List.set_cons_succ]
        refine wpAnyH_done (by kernel_rfl) ?_ _
        have B21 := Lib.hid (show Below w14.heap.size w14 w21 from (below_drewN (Below.refl _ _) 1).trans (hb21.mono (Nat.le_refl _)))
        clear hb21
        go_wp2_with fail
        go_roundg (ln - (i + 1))
        case measure => omega
        case rel => exact ⟨i + 1, by first | rfl | exact congrArg _ jw, by omega, Nat.le_refl _, Lib.hid ⟨wh', br', kp', kq', A', c', IVF.out.below B21.out, ST.out.2⟩⟩
      by_cases h2 : kq_ = 2
      · subst h2
        obtain ⟨tp, wh', kp', hX⟩ : ∃ tp wh' kp', nxt (FI a b) 1 wh kp = (tp, wh', kp') := ⟨_, _, _, rfl⟩
        obtain ⟨td, br', kq', hD⟩ : ∃ td br' kq', dq (FI a b) 1 br kq = (td, br', kq') := ⟨_, _, _, rfl⟩
        have ST := Lib.hid (show nd tp = nd td ∧ Alike wh' kp' br' kq' from by have h := alike_step (F := FI a b) (k := 1) (fun s _ t _ h => FI_nd h) AL.out; rw [hX, hD] at h; exact h)
        have ZP := Lib.hid (show ∀ t ∈ kp', sz t ≤ 1000000 from by have h := (nxt_sz (F := FI a b) (k := 1) (wh := wh) IVr.out.zp).2; rw [hX] at h; exact h)
        have ZD := Lib.hid (show ∀ t ∈ kq', sz t ≤ 1000000 from by have h := dq_sz (F := FI a b) (k := 1) (br := br) IVr.out.zq; rw [hD] at h; exact h)
        obtain ⟨A', c', hd, hok, hR⟩ := RInt_any (br := br) IVr.out.dl a b
        rw [hD] at hd hok hR
        have DLn := Lib.hid (show Dl w A' c' kq' from hd)
        have OKD := Lib.hid (show Ok w td from hok)
        obtain ⟨m', hm'⟩ : ∃ m', kq'.length = m' := ⟨_, rfl⟩
        have HM' := Lib.hid hm'
        have CR := Lib.hid (show ∀ u, Below w.heap.size w u → Calls Try.prog 34 #[.agg #[.slice A m c, .bool br], .int .i64 a, .int .i64 b] u (fun e w' => e = .returned (.tuple #[.int .i64 (nm td : Int), .agg #[.slice A' m' c', .bool br']]) ∧ Below u.heap.size u w') from by have h := hR; rw [HM.out] at h; rw [← hm']; exact h)
        have CP := Lib.hid (show ∀ V, Fl V g wh kp → Calls Try.prog 35 #[.pointer (some ⟨g, 0, none⟩), .int .i64 a, .int .i64 b] V (fun e w' => e = .returned (.int .i64 (nm td : Int)) ∧ Lf w' g wh' kp' V) from fun V h => by
          have h2 := Int_any_ h IVr.out.zp a b
          rw [hX] at h2
          rw [← nm_nd ST.out.1]; exact h2)
        clear hX hD hd hok hR hm'
        have k0 : (w8).cell? ⟨q8, 0, none⟩ = some (.int .i64 2) := Bl.cell_ NQ.out rfl
        have k1 : (w8).cell? ⟨q8, 1, none⟩ = some (.int .i64 a) := Bl.cell_ NQ.out rfl
        have k2 : (w8).cell? ⟨q8, 2, none⟩ = some (.int .i64 b) := Bl.cell_ NQ.out rfl
        have d0 : (w8).cell? ⟨qd, 0, none⟩ = some (.slice A m c) := Bl.cell_ BX8.out rfl
        have d1 : (w8).cell? ⟨qd, 1, none⟩ = some (.bool br) := Bl.cell_ BX8.out rfl
        go_upto_region 17 with (go_at_call 34; (refine (CR.out _ IV8.out.bw).mono ?_); rintro e w9 ⟨rfl, hb9⟩; have B9 := Lib.hid hb9; clear hb9)
        have X13 := Lib.hid (below_one w9 (.cells #[.slice A' m' c', .bool br'] 54))
        have N13 := Lib.hid (Bl.new_ w9 54 #[.slice A' m' c', .bool br'])
        have IV13 := Lib.hid ((IV8.out.below B9.out).below X13.out)
        have BX13 := Lib.hid ((BX8.out.below' B9.out).below' X13.out)
        have NQ13 := Lib.hid ((NQ.out.below' B9.out).below' X13.out)
        have S13 := Lib.hid (show qd < w9.heap.size from Nat.lt_of_lt_of_le BX8.out.lt B9.out.size)
        obtain ⟨q13, hq13⟩ : ∃ q13, w9.heap.size = q13 := ⟨_, rfl⟩
        rw [hq13] at N13 S13 ⊢
        clear X13
        generalize (w9.alloc (.cells #[.slice A' m' c', .bool br'] 54)) = v13 at *
        clear hq13 B9
        have x0 : (v13).cell? ⟨q13, 0, none⟩ = some (.slice A' m' c') := Bl.cell_ N13.out rfl
        have x1 : (v13).cell? ⟨q13, 1, none⟩ = some (.bool br') := Bl.cell_ N13.out rfl
        have y0 : (v13).cell? ⟨qd, 0, none⟩ = some (.slice A m c) := Bl.cell_ BX13.out rfl
        have y1 : (v13).cell? ⟨qd, 1, none⟩ = some (.bool br) := Bl.cell_ BX13.out rfl
        have fy0 := Bl.frozen BX13.out 0
        have fy1 := Bl.frozen BX13.out 1
        obtain ⟨V', hV'⟩ : ∃ V', st2 v13 qd (.slice A' m' c') (.bool br') = V' := ⟨_, rfl⟩
        have IVV := Lib.hid (show Iv w V' g qd wh br' kp kq' A' c' from by have h := IV13.out.doc (br' := br') DLn.out ZD.out; rw [HM'.out, hV'] at h; exact h)
        have ql := QL.out
        have NQV := Lib.hid (show Bl V' q8 57 #[.int .i64 2, .int .i64 a, .int .i64 b] from by rw [← hV']; exact st2_other NQ13.out (by omega) _ _)
        clear ql
        have p0 : (V').cell? ⟨q8, 0, none⟩ = some (.int .i64 2) := Bl.cell_ NQV.out rfl
        have p1 : (V').cell? ⟨q8, 1, none⟩ = some (.int .i64 a) := Bl.cell_ NQV.out rfl
        have p2 : (V').cell? ⟨q8, 2, none⟩ = some (.int .i64 b) := Bl.cell_ NQV.out rfl
        go_upto_region 18 with fail
        try rw [hV']
        go_upto_region 35 with (first | (go_at_call 35; (refine (CP.out _ IVV.out.fl).mono ?_); rintro e w14 ⟨rfl, hl14⟩; have L14 := Lib.hid hl14; clear hl14))
        have IVF := Lib.hid (IVV.out.prog L14.out ZP.out)
        have BXT := Lib.hid (show Bl w14 qd 54 #[.slice A' (kq').length c', .bool br'] from IVF.out.bx)
        have FLT := Lib.hid (IVF.out.fl)
        have ADN := Lib.hid (alike_done (ST.out.2))
        obtain ⟨DB, hDB⟩ : ∃ DB, (!br' && decide ((kq').length = 0)) = DB := ⟨_, rfl⟩
        rw [hDB] at ADN
        have CDN := Lib.hid (show ∀ u, Below w14.heap.size w14 u → Calls Try.prog 43 #[.pointer (some ⟨g, 0, none⟩)] u (fun e w' => e = .returned (.bool DB) ∧ u = w') from fun u hu => by have h := Done_any_ (FLT.out.below hu); rw [ADN.out] at h; exact h)
        have CRD := Lib.hid (show ∀ u, Calls Try.prog 44 #[.agg #[.slice A' (kq').length c', .bool br']] u (fun e w' => e = .returned (.bool DB) ∧ Below u.heap.size u w') from fun u => hDB ▸ RDone_any A' (kq').length c' br' u)
        obtain ⟨mT, hmT⟩ : ∃ mT, (kq').length = mT := ⟨_, rfl⟩
        rw [hmT] at BXT CRD
        clear hmT hDB
        go_upto_region 35 with fail
        refine wp_region_held_drew (S := fun x => Bl x qd 54 #[.slice A' mT c', .bool br']) (by kernel_rfl) (bl_drew BXT.out) (fun hS9 => ?_)
        clear hS9
        refine take_l 0 (v := ?_) rfl (by kernel_rfl) (by kernel_rfl) (by kernel_rfl) (fun _ _ _ h => h) (Or.inl ⟨by rfl, ?_⟩) (bl_drew BXT.out) ?_; rotate_left
        · intro w' hSw
          clear hSw
          go_simp
          all_goals with_reducible rfl
        try simp only [Act.put, List.setIfInBounds_toArray, List.set_cons_zero, List.set_cons_succ]
        refine take_l 2 (v := ?_) rfl (by kernel_rfl) (by kernel_rfl) (by kernel_rfl) (fun _ _ _ h => h) (Or.inl ⟨by rfl, ?_⟩) (bl_drew BXT.out) ?_; rotate_left
        · intro w' hSw
          have e0 : w'.cell? ⟨qd, 0, none⟩ = some (.slice A' mT c') := Bl.cell_ hSw rfl
          have e1 : w'.cell? ⟨qd, 1, none⟩ = some (.bool br') := Bl.cell_ hSw rfl
          clear hSw
          go_simp
          all_goals with_reducible rfl
        try simp only [Act.put, List.setIfInBounds_toArray, List.set_cons_zero, List.set_cons_succ]
        refine wpAnyH_ready (rs := [1]) (by kernel_rfl) (by simp) ?_
        refine cons_l rfl (fun K0 hK => ?_) AllReadyH.nil
        go_simp
        (go_at_call 43; (refine (CDN.out _ (below_drewN (Below.refl _ _) 1)).mono ?_); rintro e w20 ⟨rfl, rfl⟩)
        refine hK.out _ _ (bl_drew BXT.out) (fun hS9 => ?_)
        clear hS9
        clear hK K0
        try simp only [Act.put, List.setIfInBounds_toArray, List.set_cons_zero, List.set_cons_succ]
        refine wpAnyH_ready (rs := [3]) (by kernel_rfl) (by simp) ?_
        refine cons_l rfl (fun K0 hK => ?_) AllReadyH.nil
        go_simp
        (go_at_call 44; (refine (CRD.out _).mono ?_); rintro e w21 ⟨rfl, hb21⟩)
        refine hK.out _ _ ((bl_drew BXT.out).below' hb21) (fun hS9 => ?_)
        clear hS9
        clear hK K0
        try simp only [Act.put, List.setIfInBounds_toArray, List.set_cons_zero, List.set_cons_succ]
        refine take_l 4 (v := ?_) rfl (by kernel_rfl) (by kernel_rfl) (by kernel_rfl) (fun _ _ _ h => h) (Or.inl ⟨by rfl, ?_⟩) ((bl_drew BXT.out).below' hb21) ?_; rotate_left
        · intro w' hSw
          clear hSw
          go_simp
          all_goals with_reducible rfl
        try simp only [Act.put, List.setIfInBounds_toArray, List.set_cons_zero, List.set_cons_succ]
        refine wpAnyH_done (by kernel_rfl) ?_ _
        have B21 := Lib.hid (show Below w14.heap.size w14 w21 from (below_drewN (Below.refl _ _) 1).trans (hb21.mono (Nat.le_refl _)))
        clear hb21
        go_wp2_with fail
        go_roundg (ln - (i + 1))
        case measure => omega
        case rel => exact ⟨i + 1, by first | rfl | exact congrArg _ jw, by omega, Nat.le_refl _, Lib.hid ⟨wh', br', kp', kq', A', c', IVF.out.below B21.out, ST.out.2⟩⟩
      by_cases h3 : kq_ = 3
      · subst h3
        obtain ⟨tp, wh', kp', hX⟩ : ∃ tp wh' kp', nxt (FB a b) 2 wh kp = (tp, wh', kp') := ⟨_, _, _, rfl⟩
        obtain ⟨td, br', kq', hD⟩ : ∃ td br' kq', dq (FB a b) 2 br kq = (td, br', kq') := ⟨_, _, _, rfl⟩
        have ST := Lib.hid (show nd tp = nd td ∧ Alike wh' kp' br' kq' from by have h := alike_step (F := FB a b) (k := 2) (fun s hs t ht h => FB_ok (IVr.out.fl.ok s hs) (IVr.out.dl.ok t ht) h) AL.out; rw [hX, hD] at h; exact h)
        have ZP := Lib.hid (show ∀ t ∈ kp', sz t ≤ 1000000 from by have h := (nxt_sz (F := FB a b) (k := 2) (wh := wh) IVr.out.zp).2; rw [hX] at h; exact h)
        have ZD := Lib.hid (show ∀ t ∈ kq', sz t ≤ 1000000 from by have h := dq_sz (F := FB a b) (k := 2) (br := br) IVr.out.zq; rw [hD] at h; exact h)
        obtain ⟨A', c', hd, hok, hR⟩ := RSome_any (br := br) IVr.out.dl a b
        rw [hD] at hd hok hR
        have DLn := Lib.hid (show Dl w A' c' kq' from hd)
        have OKD := Lib.hid (show Ok w td from hok)
        obtain ⟨m', hm'⟩ : ∃ m', kq'.length = m' := ⟨_, rfl⟩
        have HM' := Lib.hid hm'
        have CR := Lib.hid (show ∀ u, Below w.heap.size w u → Calls Try.prog 36 #[.agg #[.slice A m c, .bool br], .int .i64 a, .int .i64 b] u (fun e w' => e = .returned (.tuple #[.slice (rw_ td).1 (rw_ td).2.1 (rw_ td).2.2.1, .agg #[.slice A' m' c', .bool br']]) ∧ Below u.heap.size u w') from by have h := hR; rw [HM.out] at h; rw [← hm']; exact h)
        have CP := Lib.hid (show ∀ V, Fl V g wh kp → Calls Try.prog 37 #[.pointer (some ⟨g, 0, none⟩), .int .i64 a, .int .i64 b] V (fun e w' => (∃ A2 c2, e = .returned (.slice A2 (rw_ tp).2.1 c2) ∧ Pc w' (A2, (rw_ tp).2.1, c2, (rw_ td).2.2.2)) ∧ Lf w' g wh' kp' V) from fun V h => by
          have h2 := Bytes_any_ h IVr.out.zp a b
          rw [hX] at h2
          rw [← rb_nd ST.out.1]; exact h2)
        clear hX hD hd hok hR hm'
        have k0 : (w8).cell? ⟨q8, 0, none⟩ = some (.int .i64 3) := Bl.cell_ NQ.out rfl
        have k1 : (w8).cell? ⟨q8, 1, none⟩ = some (.int .i64 a) := Bl.cell_ NQ.out rfl
        have k2 : (w8).cell? ⟨q8, 2, none⟩ = some (.int .i64 b) := Bl.cell_ NQ.out rfl
        have d0 : (w8).cell? ⟨qd, 0, none⟩ = some (.slice A m c) := Bl.cell_ BX8.out rfl
        have d1 : (w8).cell? ⟨qd, 1, none⟩ = some (.bool br) := Bl.cell_ BX8.out rfl
        go_upto_region 22 with (go_at_call 36; (refine (CR.out _ IV8.out.bw).mono ?_); rintro e w9 ⟨rfl, hb9⟩; have B9 := Lib.hid hb9; clear hb9)
        have X13 := Lib.hid (below_one w9 (.cells #[.slice A' m' c', .bool br'] 54))
        have N13 := Lib.hid (Bl.new_ w9 54 #[.slice A' m' c', .bool br'])
        have IV13 := Lib.hid ((IV8.out.below B9.out).below X13.out)
        have BX13 := Lib.hid ((BX8.out.below' B9.out).below' X13.out)
        have NQ13 := Lib.hid ((NQ.out.below' B9.out).below' X13.out)
        have S13 := Lib.hid (show qd < w9.heap.size from Nat.lt_of_lt_of_le BX8.out.lt B9.out.size)
        obtain ⟨q13, hq13⟩ : ∃ q13, w9.heap.size = q13 := ⟨_, rfl⟩
        rw [hq13] at N13 S13 ⊢
        clear X13
        generalize (w9.alloc (.cells #[.slice A' m' c', .bool br'] 54)) = v13 at *
        clear hq13 B9
        have x0 : (v13).cell? ⟨q13, 0, none⟩ = some (.slice A' m' c') := Bl.cell_ N13.out rfl
        have x1 : (v13).cell? ⟨q13, 1, none⟩ = some (.bool br') := Bl.cell_ N13.out rfl
        have y0 : (v13).cell? ⟨qd, 0, none⟩ = some (.slice A m c) := Bl.cell_ BX13.out rfl
        have y1 : (v13).cell? ⟨qd, 1, none⟩ = some (.bool br) := Bl.cell_ BX13.out rfl
        have fy0 := Bl.frozen BX13.out 0
        have fy1 := Bl.frozen BX13.out 1
        obtain ⟨V', hV'⟩ : ∃ V', st2 v13 qd (.slice A' m' c') (.bool br') = V' := ⟨_, rfl⟩
        have IVV := Lib.hid (show Iv w V' g qd wh br' kp kq' A' c' from by have h := IV13.out.doc (br' := br') DLn.out ZD.out; rw [HM'.out, hV'] at h; exact h)
        have ql := QL.out
        have NQV := Lib.hid (show Bl V' q8 57 #[.int .i64 3, .int .i64 a, .int .i64 b] from by rw [← hV']; exact st2_other NQ13.out (by omega) _ _)
        clear ql
        have p0 : (V').cell? ⟨q8, 0, none⟩ = some (.int .i64 3) := Bl.cell_ NQV.out rfl
        have p1 : (V').cell? ⟨q8, 1, none⟩ = some (.int .i64 a) := Bl.cell_ NQV.out rfl
        have p2 : (V').cell? ⟨q8, 2, none⟩ = some (.int .i64 b) := Bl.cell_ NQV.out rfl
        go_upto_region 23 with fail
        try rw [hV']
        go_upto_region 35 with (first | (go_at_call 17; (refine CSB.out.mono ?_); rintro e w15 ⟨rfl, rfl⟩) | (go_at_call 37; (refine (CP.out _ IVV.out.fl).mono ?_); rintro e w14 ⟨⟨A14, c14, rfl, hp14⟩, hl14⟩; have P14 := Lib.hid hp14; have L14 := Lib.hid hl14; have PD := Lib.hid (ok_pc (OKD.out.keep (IVV.out.prog hl14 ZP.out).bw)); have CSB := Lib.hid (show Calls _ _ _ w14 _ from samebytes_any A14 (rw_ td).1 (rw_ tp).2.1 (rw_ td).2.1 c14 (rw_ td).2.2.1 (rw_ td).2.2.2 (rw_ td).2.2.2 w14 hp14.lt hp14.lt (by have h := hp14.row; rw [← hp14.len] at h; exact h) (by have h := PD.out.row; rw [← PD.out.len] at h; exact h)); rw [beq_self_eq_true] at CSB; clear hl14 hp14))
        have IVF := Lib.hid (IVV.out.prog L14.out ZP.out)
        have BXT := Lib.hid (show Bl w14 qd 54 #[.slice A' (kq').length c', .bool br'] from IVF.out.bx)
        have FLT := Lib.hid (IVF.out.fl)
        have ADN := Lib.hid (alike_done (ST.out.2))
        obtain ⟨DB, hDB⟩ : ∃ DB, (!br' && decide ((kq').length = 0)) = DB := ⟨_, rfl⟩
        rw [hDB] at ADN
        have CDN := Lib.hid (show ∀ u, Below w14.heap.size w14 u → Calls Try.prog 43 #[.pointer (some ⟨g, 0, none⟩)] u (fun e w' => e = .returned (.bool DB) ∧ u = w') from fun u hu => by have h := Done_any_ (FLT.out.below hu); rw [ADN.out] at h; exact h)
        have CRD := Lib.hid (show ∀ u, Calls Try.prog 44 #[.agg #[.slice A' (kq').length c', .bool br']] u (fun e w' => e = .returned (.bool DB) ∧ Below u.heap.size u w') from fun u => hDB ▸ RDone_any A' (kq').length c' br' u)
        obtain ⟨mT, hmT⟩ : ∃ mT, (kq').length = mT := ⟨_, rfl⟩
        rw [hmT] at BXT CRD
        clear hmT hDB
        go_upto_region 35 with fail
        refine wp_region_held_drew (S := fun x => Bl x qd 54 #[.slice A' mT c', .bool br']) (by kernel_rfl) (bl_drew BXT.out) (fun hS9 => ?_)
        clear hS9
        refine take_l 0 (v := ?_) rfl (by kernel_rfl) (by kernel_rfl) (by kernel_rfl) (fun _ _ _ h => h) (Or.inl ⟨by rfl, ?_⟩) (bl_drew BXT.out) ?_; rotate_left
        · intro w' hSw
          clear hSw
          go_simp
          all_goals with_reducible rfl
        try simp only [Act.put, List.setIfInBounds_toArray, List.set_cons_zero, List.set_cons_succ]
        refine take_l 2 (v := ?_) rfl (by kernel_rfl) (by kernel_rfl) (by kernel_rfl) (fun _ _ _ h => h) (Or.inl ⟨by rfl, ?_⟩) (bl_drew BXT.out) ?_; rotate_left
        · intro w' hSw
          have e0 : w'.cell? ⟨qd, 0, none⟩ = some (.slice A' mT c') := Bl.cell_ hSw rfl
          have e1 : w'.cell? ⟨qd, 1, none⟩ = some (.bool br') := Bl.cell_ hSw rfl
          clear hSw
          go_simp
          all_goals with_reducible rfl
        try simp only [Act.put, List.setIfInBounds_toArray, List.set_cons_zero, List.set_cons_succ]
        refine wpAnyH_ready (rs := [1]) (by kernel_rfl) (by simp) ?_
        refine cons_l rfl (fun K0 hK => ?_) AllReadyH.nil
        go_simp
        (go_at_call 43; (refine (CDN.out _ (below_drewN (Below.refl _ _) 1)).mono ?_); rintro e w20 ⟨rfl, rfl⟩)
        refine hK.out _ _ (bl_drew BXT.out) (fun hS9 => ?_)
        clear hS9
        clear hK K0
        try simp only [Act.put, List.setIfInBounds_toArray, List.set_cons_zero, List.set_cons_succ]
        refine wpAnyH_ready (rs := [3]) (by kernel_rfl) (by simp) ?_
        refine cons_l rfl (fun K0 hK => ?_) AllReadyH.nil
        go_simp
        (go_at_call 44; (refine (CRD.out _).mono ?_); rintro e w21 ⟨rfl, hb21⟩)
        refine hK.out _ _ ((bl_drew BXT.out).below' hb21) (fun hS9 => ?_)
        clear hS9
        clear hK K0
        try simp only [Act.put, List.setIfInBounds_toArray, List.set_cons_zero, List.set_cons_succ]
        refine take_l 4 (v := ?_) rfl (by kernel_rfl) (by kernel_rfl) (by kernel_rfl) (fun _ _ _ h => h) (Or.inl ⟨by rfl, ?_⟩) ((bl_drew BXT.out).below' hb21) ?_; rotate_left
        · intro w' hSw
          clear hSw
          go_simp
          all_goals with_reducible rfl
        try simp only [Act.put, List.setIfInBounds_toArray, List.set_cons_zero, List.set_cons_succ]
        refine wpAnyH_done (by kernel_rfl) ?_ _
        have B21 := Lib.hid (show Below w14.heap.size w14 w21 from (below_drewN (Below.refl _ _) 1).trans (hb21.mono (Nat.le_refl _)))
        clear hb21
        go_wp2_with fail
        go_roundg (ln - (i + 1))
        case measure => omega
        case rel => exact ⟨i + 1, by first | rfl | exact congrArg _ jw, by omega, Nat.le_refl _, Lib.hid ⟨wh', br', kp', kq', A', c', IVF.out.below B21.out, ST.out.2⟩⟩
      by_cases h4 : kq_ = 4
      · subst h4
        obtain ⟨tp, wh', kp', hX⟩ : ∃ tp wh' kp', nxt (FS) 2 wh kp = (tp, wh', kp') := ⟨_, _, _, rfl⟩
        obtain ⟨td, br', kq', hD⟩ : ∃ td br' kq', dq (FS) 2 br kq = (td, br', kq') := ⟨_, _, _, rfl⟩
        have ST := Lib.hid (show nd tp = nd td ∧ Alike wh' kp' br' kq' from by have h := alike_step (F := FS) (k := 2) (fun s _ t _ h => FS_nd h) AL.out; rw [hX, hD] at h; exact h)
        have ZP := Lib.hid (show ∀ t ∈ kp', sz t ≤ 1000000 from by have h := (nxt_sz (F := FS) (k := 2) (wh := wh) IVr.out.zp).2; rw [hX] at h; exact h)
        have ZD := Lib.hid (show ∀ t ∈ kq', sz t ≤ 1000000 from by have h := dq_sz (F := FS) (k := 2) (br := br) IVr.out.zq; rw [hD] at h; exact h)
        obtain ⟨A', c', hd, hok, hR⟩ := RReal_any (br := br) IVr.out.dl IVr.out.zq
        rw [hD] at hd hok hR
        have DLn := Lib.hid (show Dl w A' c' kq' from hd)
        have OKD := Lib.hid (show Ok w td from hok)
        obtain ⟨m', hm'⟩ : ∃ m', kq'.length = m' := ⟨_, rfl⟩
        have HM' := Lib.hid hm'
        have CR := Lib.hid (show ∀ u, Below w.heap.size w u → Calls Try.prog 38 #[.agg #[.slice A m c, .bool br]] u (fun e w' => e = .returned (.tuple #[.float .f64 (Sc.rdX (rw_ td).2.2.2), .agg #[.slice A' m' c', .bool br']]) ∧ Below u.heap.size u w') from by have h := hR; rw [HM.out] at h; rw [← hm']; exact h)
        have CP := Lib.hid (show ∀ V, Fl V g wh kp → Calls Try.prog 40 #[.pointer (some ⟨g, 0, none⟩)] V (fun e w' => e = .returned (.float .f64 (Sc.rdX (rw_ td).2.2.2)) ∧ Lf w' g wh' kp' V) from fun V h => by
          have h2 := Score_any_ h IVr.out.zp
          rw [hX] at h2
          rw [← rb_nd ST.out.1]; exact h2)
        clear hX hD hd hok hR hm'
        have k0 : (w8).cell? ⟨q8, 0, none⟩ = some (.int .i64 4) := Bl.cell_ NQ.out rfl
        have k1 : (w8).cell? ⟨q8, 1, none⟩ = some (.int .i64 a) := Bl.cell_ NQ.out rfl
        have k2 : (w8).cell? ⟨q8, 2, none⟩ = some (.int .i64 b) := Bl.cell_ NQ.out rfl
        have d0 : (w8).cell? ⟨qd, 0, none⟩ = some (.slice A m c) := Bl.cell_ BX8.out rfl
        have d1 : (w8).cell? ⟨qd, 1, none⟩ = some (.bool br) := Bl.cell_ BX8.out rfl
        go_upto_region 27 with (go_at_call 38; (refine (CR.out _ IV8.out.bw).mono ?_); rintro e w9 ⟨rfl, hb9⟩; have B9 := Lib.hid hb9; clear hb9)
        have X13 := Lib.hid (below_one w9 (.cells #[.slice A' m' c', .bool br'] 54))
        have N13 := Lib.hid (Bl.new_ w9 54 #[.slice A' m' c', .bool br'])
        have IV13 := Lib.hid ((IV8.out.below B9.out).below X13.out)
        have BX13 := Lib.hid ((BX8.out.below' B9.out).below' X13.out)
        have NQ13 := Lib.hid ((NQ.out.below' B9.out).below' X13.out)
        have S13 := Lib.hid (show qd < w9.heap.size from Nat.lt_of_lt_of_le BX8.out.lt B9.out.size)
        obtain ⟨q13, hq13⟩ : ∃ q13, w9.heap.size = q13 := ⟨_, rfl⟩
        rw [hq13] at N13 S13 ⊢
        clear X13
        generalize (w9.alloc (.cells #[.slice A' m' c', .bool br'] 54)) = v13 at *
        clear hq13 B9
        have x0 : (v13).cell? ⟨q13, 0, none⟩ = some (.slice A' m' c') := Bl.cell_ N13.out rfl
        have x1 : (v13).cell? ⟨q13, 1, none⟩ = some (.bool br') := Bl.cell_ N13.out rfl
        have y0 : (v13).cell? ⟨qd, 0, none⟩ = some (.slice A m c) := Bl.cell_ BX13.out rfl
        have y1 : (v13).cell? ⟨qd, 1, none⟩ = some (.bool br) := Bl.cell_ BX13.out rfl
        have fy0 := Bl.frozen BX13.out 0
        have fy1 := Bl.frozen BX13.out 1
        obtain ⟨V', hV'⟩ : ∃ V', st2 v13 qd (.slice A' m' c') (.bool br') = V' := ⟨_, rfl⟩
        have IVV := Lib.hid (show Iv w V' g qd wh br' kp kq' A' c' from by have h := IV13.out.doc (br' := br') DLn.out ZD.out; rw [HM'.out, hV'] at h; exact h)
        have ql := QL.out
        have NQV := Lib.hid (show Bl V' q8 57 #[.int .i64 4, .int .i64 a, .int .i64 b] from by rw [← hV']; exact st2_other NQ13.out (by omega) _ _)
        clear ql
        have p0 : (V').cell? ⟨q8, 0, none⟩ = some (.int .i64 4) := Bl.cell_ NQV.out rfl
        have p1 : (V').cell? ⟨q8, 1, none⟩ = some (.int .i64 a) := Bl.cell_ NQV.out rfl
        have p2 : (V').cell? ⟨q8, 2, none⟩ = some (.int .i64 b) := Bl.cell_ NQV.out rfl
        go_upto_region 28 with fail
        try rw [hV']
        have CSM := Lib.hid (fun u => Sc.rsame_any (Sc.rdX (rw_ td).2.2.2) (Sc.rdX (rw_ td).2.2.2) u)
        simp only [beq_self_eq_true] at CSM
        go_upto_region 35 with (first | (go_at_call 39; (refine (CSM.out _).mono ?_); rintro e w15 ⟨rfl, rfl⟩) | (go_at_call 40; (refine (CP.out _ IVV.out.fl).mono ?_); rintro e w14 ⟨rfl, hl14⟩; have L14 := Lib.hid hl14; clear hl14))
        have IVF := Lib.hid (IVV.out.prog L14.out ZP.out)
        have BXT := Lib.hid (show Bl w14 qd 54 #[.slice A' (kq').length c', .bool br'] from IVF.out.bx)
        have FLT := Lib.hid (IVF.out.fl)
        have ADN := Lib.hid (alike_done (ST.out.2))
        obtain ⟨DB, hDB⟩ : ∃ DB, (!br' && decide ((kq').length = 0)) = DB := ⟨_, rfl⟩
        rw [hDB] at ADN
        have CDN := Lib.hid (show ∀ u, Below w14.heap.size w14 u → Calls Try.prog 43 #[.pointer (some ⟨g, 0, none⟩)] u (fun e w' => e = .returned (.bool DB) ∧ u = w') from fun u hu => by have h := Done_any_ (FLT.out.below hu); rw [ADN.out] at h; exact h)
        have CRD := Lib.hid (show ∀ u, Calls Try.prog 44 #[.agg #[.slice A' (kq').length c', .bool br']] u (fun e w' => e = .returned (.bool DB) ∧ Below u.heap.size u w') from fun u => hDB ▸ RDone_any A' (kq').length c' br' u)
        obtain ⟨mT, hmT⟩ : ∃ mT, (kq').length = mT := ⟨_, rfl⟩
        rw [hmT] at BXT CRD
        clear hmT hDB
        go_upto_region 35 with fail
        refine wp_region_held_drew (S := fun x => Bl x qd 54 #[.slice A' mT c', .bool br']) (by kernel_rfl) (bl_drew BXT.out) (fun hS9 => ?_)
        clear hS9
        refine take_l 0 (v := ?_) rfl (by kernel_rfl) (by kernel_rfl) (by kernel_rfl) (fun _ _ _ h => h) (Or.inl ⟨by rfl, ?_⟩) (bl_drew BXT.out) ?_; rotate_left
        · intro w' hSw
          clear hSw
          go_simp
          all_goals with_reducible rfl
        try simp only [Act.put, List.setIfInBounds_toArray, List.set_cons_zero, List.set_cons_succ]
        refine take_l 2 (v := ?_) rfl (by kernel_rfl) (by kernel_rfl) (by kernel_rfl) (fun _ _ _ h => h) (Or.inl ⟨by rfl, ?_⟩) (bl_drew BXT.out) ?_; rotate_left
        · intro w' hSw
          have e0 : w'.cell? ⟨qd, 0, none⟩ = some (.slice A' mT c') := Bl.cell_ hSw rfl
          have e1 : w'.cell? ⟨qd, 1, none⟩ = some (.bool br') := Bl.cell_ hSw rfl
          clear hSw
          go_simp
          all_goals with_reducible rfl
        try simp only [Act.put, List.setIfInBounds_toArray, List.set_cons_zero, List.set_cons_succ]
        refine wpAnyH_ready (rs := [1]) (by kernel_rfl) (by simp) ?_
        refine cons_l rfl (fun K0 hK => ?_) AllReadyH.nil
        go_simp
        (go_at_call 43; (refine (CDN.out _ (below_drewN (Below.refl _ _) 1)).mono ?_); rintro e w20 ⟨rfl, rfl⟩)
        refine hK.out _ _ (bl_drew BXT.out) (fun hS9 => ?_)
        clear hS9
        clear hK K0
        try simp only [Act.put, List.setIfInBounds_toArray, List.set_cons_zero, List.set_cons_succ]
        refine wpAnyH_ready (rs := [3]) (by kernel_rfl) (by simp) ?_
        refine cons_l rfl (fun K0 hK => ?_) AllReadyH.nil
        go_simp
        (go_at_call 44; (refine (CRD.out _).mono ?_); rintro e w21 ⟨rfl, hb21⟩)
        refine hK.out _ _ ((bl_drew BXT.out).below' hb21) (fun hS9 => ?_)
        clear hS9
        clear hK K0
        try simp only [Act.put, List.setIfInBounds_toArray, List.set_cons_zero, List.set_cons_succ]
        refine take_l 4 (v := ?_) rfl (by kernel_rfl) (by kernel_rfl) (by kernel_rfl) (fun _ _ _ h => h) (Or.inl ⟨by rfl, ?_⟩) ((bl_drew BXT.out).below' hb21) ?_; rotate_left
        · intro w' hSw
          clear hSw
          go_simp
          all_goals with_reducible rfl
        try simp only [Act.put, List.setIfInBounds_toArray, List.set_cons_zero, List.set_cons_succ]
        refine wpAnyH_done (by kernel_rfl) ?_ _
        have B21 := Lib.hid (show Below w14.heap.size w14 w21 from (below_drewN (Below.refl _ _) 1).trans (hb21.mono (Nat.le_refl _)))
        clear hb21
        go_wp2_with fail
        go_roundg (ln - (i + 1))
        case measure => omega
        case rel => exact ⟨i + 1, by first | rfl | exact congrArg _ jw, by omega, Nat.le_refl _, Lib.hid ⟨wh', br', kp', kq', A', c', IVF.out.below B21.out, ST.out.2⟩⟩
      by_cases h5 : kq_ = 5
      · subst h5
        obtain ⟨tp, wh', kp', hX⟩ : ∃ tp wh' kp', nxt (FL a b) 3 wh kp = (tp, wh', kp') := ⟨_, _, _, rfl⟩
        obtain ⟨td, br', kq', hD⟩ : ∃ td br' kq', dq (FL a b) 3 br kq = (td, br', kq') := ⟨_, _, _, rfl⟩
        have ST := Lib.hid (show nd tp = nd td ∧ Alike wh' kp' br' kq' from by have h := alike_step (F := FL a b) (k := 3) (fun s _ t _ h => FL_nd h) AL.out; rw [hX, hD] at h; exact h)
        have ZP := Lib.hid (show ∀ t ∈ kp', sz t ≤ 1000000 from by have h := (nxt_sz (F := FL a b) (k := 3) (wh := wh) IVr.out.zp).2; rw [hX] at h; exact h)
        have ZD := Lib.hid (show ∀ t ∈ kq', sz t ≤ 1000000 from by have h := dq_sz (F := FL a b) (k := 3) (br := br) IVr.out.zq; rw [hD] at h; exact h)
        obtain ⟨A', c', hd, hok, hR⟩ := RValues_any (br := br) IVr.out.dl a b
        rw [hD] at hd hok hR
        have DLn := Lib.hid (show Dl w A' c' kq' from hd)
        have OKD := Lib.hid (show Ok w td from hok)
        obtain ⟨m', hm'⟩ : ∃ m', kq'.length = m' := ⟨_, rfl⟩
        have HM' := Lib.hid hm'
        have CR := Lib.hid (show ∀ u, Below w.heap.size w u → Calls Try.prog 41 #[.agg #[.slice A m c, .bool br], .int .i64 a, .int .i64 b] u (fun e w' => e = .returned (.tuple #[.slice (kA td) (kids td).length (kc td), .agg #[.slice A' m' c', .bool br']]) ∧ Below u.heap.size u w') from by have h := hR; rw [HM.out] at h; rw [← hm']; exact h)
        have CP := Lib.hid (show ∀ V, Fl V g wh kp → Calls Try.prog 42 #[.pointer (some ⟨g, 0, none⟩), .int .i64 a, .int .i64 b] V (fun e w' => (∃ us A2 c2, e = .returned (.slice A2 us.length c2) ∧ nds us = nds (kids td) ∧ Sl w' A2 (4 * us.length) (flat us) ∧ (A2 = none → c2 = 0) ∧ us.length ≤ c2 ∧ (∀ t ∈ us, Ok w' t)) ∧ Lf w' g wh' kp' V) from fun V h => by
          have h2 := List_any_ h IVr.out.zp a b
          rw [hX] at h2
          rw [← kids_nd ST.out.1]; exact h2)
        clear hX hD hd hok hR hm'
        have k0 : (w8).cell? ⟨q8, 0, none⟩ = some (.int .i64 5) := Bl.cell_ NQ.out rfl
        have k1 : (w8).cell? ⟨q8, 1, none⟩ = some (.int .i64 a) := Bl.cell_ NQ.out rfl
        have k2 : (w8).cell? ⟨q8, 2, none⟩ = some (.int .i64 b) := Bl.cell_ NQ.out rfl
        have d0 : (w8).cell? ⟨qd, 0, none⟩ = some (.slice A m c) := Bl.cell_ BX8.out rfl
        have d1 : (w8).cell? ⟨qd, 1, none⟩ = some (.bool br) := Bl.cell_ BX8.out rfl
        go_upto_region 32 with (go_at_call 41; (refine (CR.out _ IV8.out.bw).mono ?_); rintro e w9 ⟨rfl, hb9⟩; have B9 := Lib.hid hb9; clear hb9)
        have X13 := Lib.hid (below_one w9 (.cells #[.slice A' m' c', .bool br'] 54))
        have N13 := Lib.hid (Bl.new_ w9 54 #[.slice A' m' c', .bool br'])
        have IV13 := Lib.hid ((IV8.out.below B9.out).below X13.out)
        have BX13 := Lib.hid ((BX8.out.below' B9.out).below' X13.out)
        have NQ13 := Lib.hid ((NQ.out.below' B9.out).below' X13.out)
        have S13 := Lib.hid (show qd < w9.heap.size from Nat.lt_of_lt_of_le BX8.out.lt B9.out.size)
        obtain ⟨q13, hq13⟩ : ∃ q13, w9.heap.size = q13 := ⟨_, rfl⟩
        rw [hq13] at N13 S13 ⊢
        clear X13
        generalize (w9.alloc (.cells #[.slice A' m' c', .bool br'] 54)) = v13 at *
        clear hq13 B9
        have x0 : (v13).cell? ⟨q13, 0, none⟩ = some (.slice A' m' c') := Bl.cell_ N13.out rfl
        have x1 : (v13).cell? ⟨q13, 1, none⟩ = some (.bool br') := Bl.cell_ N13.out rfl
        have y0 : (v13).cell? ⟨qd, 0, none⟩ = some (.slice A m c) := Bl.cell_ BX13.out rfl
        have y1 : (v13).cell? ⟨qd, 1, none⟩ = some (.bool br) := Bl.cell_ BX13.out rfl
        have fy0 := Bl.frozen BX13.out 0
        have fy1 := Bl.frozen BX13.out 1
        obtain ⟨V', hV'⟩ : ∃ V', st2 v13 qd (.slice A' m' c') (.bool br') = V' := ⟨_, rfl⟩
        have IVV := Lib.hid (show Iv w V' g qd wh br' kp kq' A' c' from by have h := IV13.out.doc (br' := br') DLn.out ZD.out; rw [HM'.out, hV'] at h; exact h)
        have ql := QL.out
        have NQV := Lib.hid (show Bl V' q8 57 #[.int .i64 5, .int .i64 a, .int .i64 b] from by rw [← hV']; exact st2_other NQ13.out (by omega) _ _)
        clear ql
        have p0 : (V').cell? ⟨q8, 0, none⟩ = some (.int .i64 5) := Bl.cell_ NQV.out rfl
        have p1 : (V').cell? ⟨q8, 1, none⟩ = some (.int .i64 a) := Bl.cell_ NQV.out rfl
        have p2 : (V').cell? ⟨q8, 2, none⟩ = some (.int .i64 b) := Bl.cell_ NQV.out rfl
        go_upto_region 33 with fail
        try rw [hV']
        go_upto_region 35 with (first | (go_at_call 28; first | ((with_reducible refine CL1.out.mono ?_); rintro e w15 ⟨rfl, ho15, hb15⟩; simp only [Tv.val, Tv.row]; have O15 := Lib.hid ho15; have B15 := Lib.hid hb15; have CL2 := Lib.hid (RList_any (ks := kids td) w15 (KD.out.1.below hb15) KD.out.2.1 KD.out.2.2.1 (fun x hx => (KD.out.2.2.2.1 x hx).keep hb15) KD.out.2.2.2.2); clear ho15 hb15) | ((with_reducible refine CL2.out.mono ?_); rintro e w16 ⟨rfl, ho16, hb16⟩; simp only [Tv.val, Tv.row]; have B16 := Lib.hid (B15.out.trans (hb16.mono B15.out.size)); have CSS := Lib.hid (Same_eq2 (O15.out.keep hb16) ho16 (by rw [nd, nd, NU.out])); clear ho16 hb16)) | (go_at_call 22; (refine CSS.out.mono ?_); rintro e w17 ⟨rfl, hb17⟩; have B17 := Lib.hid (B16.out.trans (hb17.mono B16.out.size)); clear hb17) | (go_at_call 42; (refine (CP.out _ IVV.out.fl).mono ?_); rintro e w14 ⟨⟨us, A14, c14, rfl, hn14, hs14, h014, hc14, hk14⟩, hl14⟩; have L14 := Lib.hid hl14; have NU := Lib.hid hn14; have KD := Lib.hid (ok_kids (OKD.out.keep (IVV.out.prog hl14 ZP.out).bw)); have CL1 := Lib.hid (RList_any (ks := us) w14 hs14 hc14 h014 hk14 (by have h := congrArg List.length hn14; rw [nds_len, nds_len] at h; have h2 := KD.out.2.2.2.2; omega)); clear hl14 hn14 hs14 h014 hc14 hk14))
        have IVF := Lib.hid (IVV.out.prog L14.out ZP.out)
        have IVG := Lib.hid (IVF.out.below B17.out)
        have BXT := Lib.hid (show Bl w17 qd 54 #[.slice A' (kq').length c', .bool br'] from IVG.out.bx)
        have FLT := Lib.hid (IVG.out.fl)
        have ADN := Lib.hid (alike_done (ST.out.2))
        obtain ⟨DB, hDB⟩ : ∃ DB, (!br' && decide ((kq').length = 0)) = DB := ⟨_, rfl⟩
        rw [hDB] at ADN
        have CDN := Lib.hid (show ∀ u, Below w17.heap.size w17 u → Calls Try.prog 43 #[.pointer (some ⟨g, 0, none⟩)] u (fun e w' => e = .returned (.bool DB) ∧ u = w') from fun u hu => by have h := Done_any_ (FLT.out.below hu); rw [ADN.out] at h; exact h)
        have CRD := Lib.hid (show ∀ u, Calls Try.prog 44 #[.agg #[.slice A' (kq').length c', .bool br']] u (fun e w' => e = .returned (.bool DB) ∧ Below u.heap.size u w') from fun u => hDB ▸ RDone_any A' (kq').length c' br' u)
        obtain ⟨mT, hmT⟩ : ∃ mT, (kq').length = mT := ⟨_, rfl⟩
        rw [hmT] at BXT CRD
        clear hmT hDB
        go_upto_region 35 with fail
        refine wp_region_held_drew (S := fun x => Bl x qd 54 #[.slice A' mT c', .bool br']) (by kernel_rfl) (bl_drew BXT.out) (fun hS9 => ?_)
        clear hS9
        refine take_l 0 (v := ?_) rfl (by kernel_rfl) (by kernel_rfl) (by kernel_rfl) (fun _ _ _ h => h) (Or.inl ⟨by rfl, ?_⟩) (bl_drew BXT.out) ?_; rotate_left
        · intro w' hSw
          clear hSw
          go_simp
          all_goals with_reducible rfl
        try simp only [Act.put, List.setIfInBounds_toArray, List.set_cons_zero, List.set_cons_succ]
        refine take_l 2 (v := ?_) rfl (by kernel_rfl) (by kernel_rfl) (by kernel_rfl) (fun _ _ _ h => h) (Or.inl ⟨by rfl, ?_⟩) (bl_drew BXT.out) ?_; rotate_left
        · intro w' hSw
          have e0 : w'.cell? ⟨qd, 0, none⟩ = some (.slice A' mT c') := Bl.cell_ hSw rfl
          have e1 : w'.cell? ⟨qd, 1, none⟩ = some (.bool br') := Bl.cell_ hSw rfl
          clear hSw
          go_simp
          all_goals with_reducible rfl
        try simp only [Act.put, List.setIfInBounds_toArray, List.set_cons_zero, List.set_cons_succ]
        refine wpAnyH_ready (rs := [1]) (by kernel_rfl) (by simp) ?_
        refine cons_l rfl (fun K0 hK => ?_) AllReadyH.nil
        go_simp
        (go_at_call 43; (refine (CDN.out _ (below_drewN (Below.refl _ _) 1)).mono ?_); rintro e w20 ⟨rfl, rfl⟩)
        refine hK.out _ _ (bl_drew BXT.out) (fun hS9 => ?_)
        clear hS9
        clear hK K0
        try simp only [Act.put, List.setIfInBounds_toArray, List.set_cons_zero, List.set_cons_succ]
        refine wpAnyH_ready (rs := [3]) (by kernel_rfl) (by simp) ?_
        refine cons_l rfl (fun K0 hK => ?_) AllReadyH.nil
        go_simp
        (go_at_call 44; (refine (CRD.out _).mono ?_); rintro e w21 ⟨rfl, hb21⟩)
        refine hK.out _ _ ((bl_drew BXT.out).below' hb21) (fun hS9 => ?_)
        clear hS9
        clear hK K0
        try simp only [Act.put, List.setIfInBounds_toArray, List.set_cons_zero, List.set_cons_succ]
        refine take_l 4 (v := ?_) rfl (by kernel_rfl) (by kernel_rfl) (by kernel_rfl) (fun _ _ _ h => h) (Or.inl ⟨by rfl, ?_⟩) ((bl_drew BXT.out).below' hb21) ?_; rotate_left
        · intro w' hSw
          clear hSw
          go_simp
          all_goals with_reducible rfl
        try simp only [Act.put, List.setIfInBounds_toArray, List.set_cons_zero, List.set_cons_succ]
        refine wpAnyH_done (by kernel_rfl) ?_ _
        have B21 := Lib.hid (show Below w17.heap.size w17 w21 from (below_drewN (Below.refl _ _) 1).trans (hb21.mono (Nat.le_refl _)))
        clear hb21
        go_wp2_with fail
        go_roundg (ln - (i + 1))
        case measure => omega
        case rel => exact ⟨i + 1, by first | rfl | exact congrArg _ jw, by omega, Nat.le_refl _, Lib.hid ⟨wh', br', kp', kq', A', c', IVG.out.below B21.out, ST.out.2⟩⟩
      · have k0 : (w8).cell? ⟨q8, 0, none⟩ = some (.int .i64 kq_) := Bl.cell_ NQ.out rfl
        have k1 : (w8).cell? ⟨q8, 1, none⟩ = some (.int .i64 a) := Bl.cell_ NQ.out rfl
        have k2 : (w8).cell? ⟨q8, 2, none⟩ = some (.int .i64 b) := Bl.cell_ NQ.out rfl
        have BXT := Lib.hid (show Bl w8 qd 54 #[.slice A (kq).length c, .bool br] from IV8.out.bx)
        have FLT := Lib.hid (IV8.out.fl)
        have ADN := Lib.hid (alike_done (AL.out))
        obtain ⟨DB, hDB⟩ : ∃ DB, (!br && decide ((kq).length = 0)) = DB := ⟨_, rfl⟩
        rw [hDB] at ADN
        have CDN := Lib.hid (show ∀ u, Below w8.heap.size w8 u → Calls Try.prog 43 #[.pointer (some ⟨g, 0, none⟩)] u (fun e w' => e = .returned (.bool DB) ∧ u = w') from fun u hu => by have h := Done_any_ (FLT.out.below hu); rw [ADN.out] at h; exact h)
        have CRD := Lib.hid (show ∀ u, Calls Try.prog 44 #[.agg #[.slice A (kq).length c, .bool br]] u (fun e w' => e = .returned (.bool DB) ∧ Below u.heap.size u w') from fun u => hDB ▸ RDone_any A (kq).length c br u)
        obtain ⟨mT, hmT⟩ : ∃ mT, (kq).length = mT := ⟨_, rfl⟩
        rw [hmT] at BXT CRD
        clear hmT hDB
        go_upto_region 35 with fail
        refine wp_region_held_drew (S := fun x => Bl x qd 54 #[.slice A mT c, .bool br]) (by kernel_rfl) (bl_drew BXT.out) (fun hS9 => ?_)
        clear hS9
        refine take_l 0 (v := ?_) rfl (by kernel_rfl) (by kernel_rfl) (by kernel_rfl) (fun _ _ _ h => h) (Or.inl ⟨by rfl, ?_⟩) (bl_drew BXT.out) ?_; rotate_left
        · intro w' hSw
          clear hSw
          go_simp
          all_goals with_reducible rfl
        try simp only [Act.put, List.setIfInBounds_toArray, List.set_cons_zero, List.set_cons_succ]
        refine take_l 2 (v := ?_) rfl (by kernel_rfl) (by kernel_rfl) (by kernel_rfl) (fun _ _ _ h => h) (Or.inl ⟨by rfl, ?_⟩) (bl_drew BXT.out) ?_; rotate_left
        · intro w' hSw
          have e0 : w'.cell? ⟨qd, 0, none⟩ = some (.slice A mT c) := Bl.cell_ hSw rfl
          have e1 : w'.cell? ⟨qd, 1, none⟩ = some (.bool br) := Bl.cell_ hSw rfl
          clear hSw
          go_simp
          all_goals with_reducible rfl
        try simp only [Act.put, List.setIfInBounds_toArray, List.set_cons_zero, List.set_cons_succ]
        refine wpAnyH_ready (rs := [1]) (by kernel_rfl) (by simp) ?_
        refine cons_l rfl (fun K0 hK => ?_) AllReadyH.nil
        go_simp
        (go_at_call 43; (refine (CDN.out _ (below_drewN (Below.refl _ _) 1)).mono ?_); rintro e w20 ⟨rfl, rfl⟩)
        refine hK.out _ _ (bl_drew BXT.out) (fun hS9 => ?_)
        clear hS9
        clear hK K0
        try simp only [Act.put, List.setIfInBounds_toArray, List.set_cons_zero, List.set_cons_succ]
        refine wpAnyH_ready (rs := [3]) (by kernel_rfl) (by simp) ?_
        refine cons_l rfl (fun K0 hK => ?_) AllReadyH.nil
        go_simp
        (go_at_call 44; (refine (CRD.out _).mono ?_); rintro e w21 ⟨rfl, hb21⟩)
        refine hK.out _ _ ((bl_drew BXT.out).below' hb21) (fun hS9 => ?_)
        clear hS9
        clear hK K0
        try simp only [Act.put, List.setIfInBounds_toArray, List.set_cons_zero, List.set_cons_succ]
        refine take_l 4 (v := ?_) rfl (by kernel_rfl) (by kernel_rfl) (by kernel_rfl) (fun _ _ _ h => h) (Or.inl ⟨by rfl, ?_⟩) ((bl_drew BXT.out).below' hb21) ?_; rotate_left
        · intro w' hSw
          clear hSw
          go_simp
          all_goals with_reducible rfl
        try simp only [Act.put, List.setIfInBounds_toArray, List.set_cons_zero, List.set_cons_succ]
        refine wpAnyH_done (by kernel_rfl) ?_ _
        have B21 := Lib.hid (show Below w8.heap.size w8 w21 from (below_drewN (Below.refl _ _) 1).trans (hb21.mono (Nat.le_refl _)))
        clear hb21
        go_wp2_with fail
        go_roundg (ln - (i + 1))
        case measure => omega
        case rel => exact ⟨i + 1, by first | rfl | exact congrArg _ jw, by omega, Nat.le_refl _, Lib.hid ⟨wh, br, kp, kq, A, c, IV8.out.below B21.out, AL.out⟩⟩
    · obtain rfl : i = ln := by omega
      have q0 : ¬ (i : Int) < (i : Int) := by omega
      have BXT := Lib.hid BXr.out
      have FLT := Lib.hid IVr.out.fl
      have ADN := Lib.hid (alike_done AL.out)
      obtain ⟨DB, hDB⟩ : ∃ DB, (!br && decide (kq.length = 0)) = DB := ⟨_, rfl⟩
      rw [hDB] at ADN
      have CDN := Lib.hid (show ∀ u, Below wr.heap.size wr u → Calls Try.prog 43 #[.pointer (some ⟨g, 0, none⟩)] u (fun e w' => e = .returned (.bool DB) ∧ u = w') from fun u hu => by have h := Done_any_ (FLT.out.below hu); rw [ADN.out] at h; exact h)
      have CRD := Lib.hid (show ∀ u, Calls Try.prog 44 #[.agg #[.slice A m c, .bool br]] u (fun e w' => e = .returned (.bool DB) ∧ Below u.heap.size u w') from fun u => by have h := RDone_any A m c br u; rw [← HM.out, hDB] at h; rw [← HM.out]; exact h)
      clear hDB
      go_upto_region 37 with fail
      refine wp_region_held_drew (S := fun x => Bl x qd 54 #[.slice A m c, .bool br]) (by kernel_rfl) (bl_drew BXT.out) (fun hS9 => ?_)
      clear hS9
      refine take_l 0 (v := ?_) rfl (by kernel_rfl) (by kernel_rfl) (by kernel_rfl) (fun _ _ _ h => h) (Or.inl ⟨by rfl, ?_⟩) (bl_drew BXT.out) ?_; rotate_left
      · intro w' hSw
        clear hSw
        go_simp
        all_goals with_reducible rfl
      try simp only [Act.put, List.setIfInBounds_toArray, List.set_cons_zero, List.set_cons_succ]
      refine take_l 2 (v := ?_) rfl (by kernel_rfl) (by kernel_rfl) (by kernel_rfl) (fun _ _ _ h => h) (Or.inl ⟨by rfl, ?_⟩) (bl_drew BXT.out) ?_; rotate_left
      · intro w' hSw
        have e0 : w'.cell? ⟨qd, 0, none⟩ = some (.slice A m c) := Bl.cell_ hSw rfl
        have e1 : w'.cell? ⟨qd, 1, none⟩ = some (.bool br) := Bl.cell_ hSw rfl
        clear hSw
        go_simp
        all_goals with_reducible rfl
      try simp only [Act.put, List.setIfInBounds_toArray, List.set_cons_zero, List.set_cons_succ]
      refine wpAnyH_ready (rs := [1]) (by kernel_rfl) (by simp) ?_
      refine cons_l rfl (fun K0 hK => ?_) AllReadyH.nil
      go_simp
      (go_at_call 43; (refine (CDN.out _ (below_drewN (Below.refl _ _) 1)).mono ?_); rintro e w20 ⟨rfl, rfl⟩)
      refine hK.out _ _ (bl_drew BXT.out) (fun hS9 => ?_)
      clear hS9
      clear hK K0
      try simp only [Act.put, List.setIfInBounds_toArray, List.set_cons_zero, List.set_cons_succ]
      refine wpAnyH_ready (rs := [3]) (by kernel_rfl) (by simp) ?_
      refine cons_l rfl (fun K0 hK => ?_) AllReadyH.nil
      go_simp
      (go_at_call 44; (refine (CRD.out _).mono ?_); rintro e w21 ⟨rfl, hb21⟩)
      refine hK.out _ _ ((bl_drew BXT.out).below' hb21) (fun hS9 => ?_)
      clear hS9
      clear hK K0
      try simp only [Act.put, List.setIfInBounds_toArray, List.set_cons_zero, List.set_cons_succ]
      refine take_l 4 (v := ?_) rfl (by kernel_rfl) (by kernel_rfl) (by kernel_rfl) (fun _ _ _ h => h) (Or.inl ⟨by rfl, ?_⟩) ((bl_drew BXT.out).below' hb21) ?_; rotate_left
      · intro w' hSw
        clear hSw
        go_simp
        all_goals with_reducible rfl
      try simp only [Act.put, List.setIfInBounds_toArray, List.set_cons_zero, List.set_cons_succ]
      refine take_l 5 (v := ?_) rfl (by kernel_rfl) (by kernel_rfl) (by kernel_rfl) (fun _ _ _ h => h) (Or.inl ⟨by rfl, ?_⟩) ((bl_drew BXT.out).below' hb21) ?_; rotate_left
      · intro w' hSw
        clear hSw
        go_simp
        all_goals with_reducible rfl
      try simp only [Act.put, List.setIfInBounds_toArray, List.set_cons_zero, List.set_cons_succ]
      refine wpAnyH_ready (rs := [6]) (by kernel_rfl) (by simp) ?_
      refine cons_l rfl (fun K0 hK => ?_) AllReadyH.nil
      go_simp
      (go_at_call 11; (refine (KN.out _).mono ?_); rintro e w22 ⟨rfl, hb22⟩)
      refine hK.out _ _ (((bl_drew BXT.out).below' hb21).below' hb22) (fun hS9 => ?_)
      clear hS9
      clear hK K0
      try simp only [Act.put, List.setIfInBounds_toArray, List.set_cons_zero, List.set_cons_succ]
      refine take_l 7 (v := ?_) rfl (by kernel_rfl) (by kernel_rfl) (by kernel_rfl) (fun _ _ _ h => h) (Or.inl ⟨by rfl, ?_⟩) (((bl_drew BXT.out).below' hb21).below' hb22) ?_; rotate_left
      · intro w' hSw
        clear hSw
        go_simp
        all_goals with_reducible rfl
      try simp only [Act.put, List.setIfInBounds_toArray, List.set_cons_zero, List.set_cons_succ]
      refine take_l 8 (v := ?_) rfl (by kernel_rfl) (by kernel_rfl) (by kernel_rfl) (fun _ _ _ h => h) (Or.inl ⟨by rfl, ?_⟩) (((bl_drew BXT.out).below' hb21).below' hb22) ?_; rotate_left
      · intro w' hSw
        clear hSw
        go_simp
        all_goals with_reducible rfl
      try simp only [Act.put, List.setIfInBounds_toArray, List.set_cons_zero, List.set_cons_succ]
      refine wpAnyH_done (by kernel_rfl) ?_ _
      have BF := Lib.hid (show Below wr.heap.size wr w22 from ((below_drewN (Below.refl _ _) 1).trans (hb21.mono (Nat.le_refl _))).trans (hb22.mono hb21.size))
      clear hb21 hb22
      go_wp2_with fail
      go_ret
      exact ⟨rfl, IVr.out.bw.trans (BF.out.mono IVr.out.bw.size)⟩
end Go.Proofs.Ytkahelhoaihajaa.Wr
