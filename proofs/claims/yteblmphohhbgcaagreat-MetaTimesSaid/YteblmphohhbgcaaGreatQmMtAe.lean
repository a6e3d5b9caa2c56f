/- Joined texts. -/
import Derived.Test.YteblmphohhbgcaaGreatQmMtAc
set_option linter.unusedVariables false
namespace Go.Proofs.YteblmphohhbgcaaGreat.Mt
open Go.RowKit Go.Proofs.YteblmphohhbgcaaGreat.Gn Go.Proofs.YteblmphohhbgcaaGreat.Fd Go.Proofs.YteblmphohhbgcaaGreat.Wr Go.Deep
set_option maxRecDepth 100000
def isB(V:Nd)(m:Nat):Bool:=decide (knd V=2) && decide ((bsd V).length=m)
def tsOK(V:Nd):Bool:=isL V 3 && ((nuB (k_ V 0) && nuB (k_ V 1)) && (isL (k_ V 2) 3 && (nuB (k_ (k_ V 2) 0) && (nuB (k_ (k_ V 2) 1) && (isB (k_ (k_ V 2) 2) 32 && tmB (nuV (k_ V 0):Int) (nuV (k_ V 1):Int) (nuV (k_ (k_ V 2) 0):Int) (nuV (k_ (k_ V 2) 1):Int) (bsd (k_ (k_ V 2) 2)).length)))))
def dtO(V:Nd):Option A5:=if tsOK V=true then some (nuV (k_ V 0),nuV (k_ V 1),nuV (k_ (k_ V 2) 0),nuV (k_ (k_ V 2) 1),bsd (k_ (k_ V 2) 2)) else none
theorem dtO_no{V:Nd}(h:tsOK V=false):dtO V=none:=by unfold dtO;rw[h];rfl
theorem dtO_yes{V:Nd}(h:tsOK V=true):dtO V=some (nuV (k_ V 0),nuV (k_ V 1),nuV (k_ (k_ V 2) 0),nuV (k_ (k_ V 2) 1),bsd (k_ (k_ V 2) 2)):=by unfold dtO;rw[h];rfl
theorem el_at{w:World}{ad:Addr}{us:List Tv}(h:Sl w (some ad) (4*us.length) (flat us)){k:Nat}{K:Int}{n:Nat}{r:Rw}{B:Option Addr}{c:Nat}{ks:List Tv}(hk:us[k]?=some (.mk K n r B c ks))(j:Nat)(hj:4*k=j)(h0:j≠0):w.cell? ⟨ad.block,ad.off+j,none⟩=some (.int .i64 K)∧w.cell? ⟨ad.block,ad.off+(j+1),none⟩=some (.int .u64 (n:Int))∧w.cell? ⟨ad.block,ad.off+(j+2),none⟩=some (.slice r.1 r.2.1 r.2.2.1)∧w.cell? ⟨ad.block,ad.off+(j+3),none⟩=some (.slice B ks.length c):=by
 obtain⟨ad',e',c0,c1,c2,c3⟩:=el_cells h hk
 cases e'
 subst hj
 rw[ad_pos _ h0] at c0
 rw[ad_pos _ (by omega)] at c1 c2 c3
 exact⟨c0,c1,c2,c3⟩
theorem el_0{w:World}{ad:Addr}{us:List Tv}(h:Sl w (some ad) (4*us.length) (flat us)){K:Int}{n:Nat}{r:Rw}{B:Option Addr}{c:Nat}{ks:List Tv}(hk:us[0]?=some (.mk K n r B c ks)):w.cell? ad=some (.int .i64 K)∧w.cell? ⟨ad.block,ad.off+1,none⟩=some (.int .u64 (n:Int))∧w.cell? ⟨ad.block,ad.off+2,none⟩=some (.slice r.1 r.2.1 r.2.2.1)∧w.cell? ⟨ad.block,ad.off+3,none⟩=some (.slice B ks.length c):=by
 obtain⟨ad',e',c0,c1,c2,c3⟩:=el_cells h hk
 cases e'
 rw[show 4*0=0 from rfl,ad_zero] at c0
 rw[ad_pos _ (by decide)] at c1 c2 c3
 exact⟨c0,c1,c2,c3⟩
theorem one_some{w:World}{A:Option Addr}{t:Tv}{us:List Tv}(h:Sl w A (4*(t :: us).length) (flat (t :: us))):∃ad,A=some ad:=by
 obtain⟨K,n,r,B,c,ks⟩:=t
 obtain⟨ad,e,-⟩:=el_cells h (k:=0) rfl
 exact⟨ad,e⟩
theorem three{us:List Tv}(h:us.length=3):∃a b c,us=[a,b,c]:=by
 cases us with
 |nil=>cases h
 |cons a us=>cases us with
  |nil=>cases h
  |cons b us=>cases us with
   |nil=>cases h
   |cons c us=>cases us with
    |nil=>exact⟨a,b,c,rfl⟩
    |cons d us=>simp at h
theorem set5_below'{w U a:World}(h:Below w.heap.size w U)(k:Below U.heap.size U a)(v0 v1 v2 v3 v4:Value):Below w.heap.size w (set5 a w.heap.size v0 v1 v2 v3 v4):=set5_below (h.trans (k.mono h.size)) (Nat.le_refl _) _ _ _ _ _
set_option maxHeartbeats 4000000 in
theorem RRead_timestamp {w : World} {r : Rw} (hr : Pc w r) (hr9 : r.2.1 ≤ 800000) (hin : ∀ ad, r.1 = some ad → ad.block < w.heap.size) : Calls Tryz.prog 21 #[.slice r.1 r.2.1 r.2.2.1] w (A5Q (bO dtO r.2.2.2) w) := by
  obtain ⟨x, y, V, -, hQ, hO, hsz⟩ := rd_vall r.2.2.2
  rw [hO dtO]
  obtain ⟨U, hU⟩ : ∃ U, w.alloc (.cells z5 40) = U := ⟨_, rfl⟩
  have BU := Lib.hid (show Below w.heap.size w U from by rw [← hU]; exact below_one w _)
  have NR := Lib.hid (show Bl U w.heap.size 40 z5 from by rw [← hU]; exact Bl.new_ w _ _)
  have CT0 := Lib.hid (two_d (hr.below BU.out) hr9 (fun ad e => Nat.lt_of_lt_of_le (hin ad e) BU.out.size) hQ 3 (by decide))
  clear hr hr9 hin hQ hO hsz
  obtain ⟨rA, rn, rc, rl⟩ := r
  simp only at CT0 ⊢
  by_cases hc : y = 0 ∧ isL V 3 = true
  · have IL := Lib.hid hc.2
    have CT := Lib.hid (CT0.out.mono fun e w' ⟨hb, h⟩ => (show Below U.heap.size U w' ∧ ∃ (A : Option Addr) (c : Nat) (us : List Tv), e = Ending.returned (.tuple #[.int .i64 (nuV (k_ V 0) : Int), .int .i64 (nuV (k_ V 1) : Int), .slice A 3 c, .bool (nuB (k_ V 0) && nuB (k_ V 1))]) ∧ nds us = ksd V ∧ Sl w' A (4 * us.length) (flat us) ∧ (∀ t ∈ us, Ok w' t) from ⟨hb, by
      rcases h with ⟨-, -, h⟩ | ⟨h, -⟩
      · exact h
      · exact absurd hc h⟩))
    rw [if_pos hc.1]
    clear CT0 hc
    obtain ⟨o1, ho1⟩ : ∃ o1, (nuB (k_ V 0) && nuB (k_ V 1)) = o1 := ⟨_, rfl⟩
    rw [ho1] at CT
    have E1 := Lib.hid ho1
    clear ho1
    go_enter Tryz.func21, Tryz.ntmps21
    go_upto_region 1 with (fail)
    clear hU
    cases o1 with
    | false =>
      have NO := Lib.hid (dtO_no (V := V) (by unfold tsOK; rw [E1.out, Bool.false_and, Bool.and_false]))
      go_wp2_with (go_at_call 42; (refine CT.out.mono ?_); rintro e1 w1 ⟨hb, A, c, us, rfl, -, -, -⟩; have B1 := Lib.hid hb; have r0 : w1.cell? ⟨w.heap.size, 0, none⟩ = some (.int .i64 0) := (NR.out.below' B1.out).cell_ rfl; have g0 := (NR.out.below' B1.out).frozen 0; have r1 : w1.cell? ⟨w.heap.size, 1, none⟩ = some (.int .i64 0) := (NR.out.below' B1.out).cell_ rfl; have g1 := (NR.out.below' B1.out).frozen 1; have r2 : w1.cell? ⟨w.heap.size, 2, none⟩ = some (.int .i64 0) := (NR.out.below' B1.out).cell_ rfl; have g2 := (NR.out.below' B1.out).frozen 2; have r3 : w1.cell? ⟨w.heap.size, 3, none⟩ = some (.int .i64 0) := (NR.out.below' B1.out).cell_ rfl; have g3 := (NR.out.below' B1.out).frozen 3; have r4 : w1.cell? ⟨w.heap.size, 4, none⟩ = some (.slice none 0 0) := (NR.out.below' B1.out).cell_ rfl; have g4 := (NR.out.below' B1.out).frozen 4; clear hb)
      refine ⟨rfl, _, results_c2 rfl _ _ _ ⟨w.heap.size, 0, none⟩ _ _ (by kernel_rfl) rfl (run_loadVar_row _ w.heap.size 40 40 #[.int .i64 0, .int .i64 0, .int .i64 0, .int .i64 0, .slice none 0 0] (0, 0) _ (set5_bl (NR.out.below' B1.out) _ _ _ _ _) Tryz.underlying40 rfl (by kernel_rfl)), ?_⟩
      rw [NO.out]
      exact ⟨set5_below' BU.out B1.out _ _ _ _ _, rfl⟩
    | true =>
      go_upto_region 4 with (go_at_call 42; (refine CT.out.mono ?_); rintro e1 w1 ⟨hb, A, c, us, rfl, hn, hs, hk⟩; have B1 := Lib.hid hb; have N1 := Lib.hid hn; have S1 := Lib.hid hs; have K1 := Lib.hid hk; clear hb hn hs hk)
      obtain ⟨ta, tb, tc, rfl⟩ : ∃ a b c, us = [a, b, c] := three (by
        have h := IL.out
        unfold isL at h
        rw [Bool.and_eq_true, decide_eq_true_eq, decide_eq_true_eq] at h
        rw [← nds_len, N1.out]; exact h.2)
      obtain ⟨ad, rfl⟩ := one_some S1.out
      obtain ⟨Kc, nc, rc', Ac, cc, kc⟩ := tc
      have KC := Lib.hid (show Wr.nd (.mk Kc nc rc' Ac cc kc) = k_ V 2 from by unfold k_; rw [← N1.out, nds_map]; rfl)
      have OC := Lib.hid (K1.out (.mk Kc nc rc' Ac cc kc) (by simp))
      obtain ⟨c0, c1, c2, c3⟩ := el_at S1.out (k := 2) (show [ta, tb, Tv.mk Kc nc rc' Ac cc kc][2]? = _ from rfl) 8 rfl (by decide)
      obtain ⟨b2, hb2⟩ : ∃ b, (decide (Kc = 3) && decide (kc.length = 3)) = b := ⟨_, rfl⟩
      have CO := Lib.hid (fun u => open_d Kc nc rc' Ac cc kc 3 u)
      rw [hb2] at CO
      have E2 := Lib.hid (show isL (k_ V 2) 3 = b2 from by unfold isL; rw [← KC.out, ← kd_nd, ← ks_nd, nds_len]; exact hb2)
      simp only [Tv.val, Tv.row] at CO
      have EB := Lib.hid hb2
      clear hb2 CT
      obtain ⟨P, hP⟩ : ∃ P, kc.length = P := ⟨_, rfl⟩
      rw [hP] at CO c3
      have HP := Lib.hid hP
      clear hP
      cases b2 with
      | false =>
        have NO := Lib.hid (dtO_no (V := V) (by unfold tsOK; rw [E2.out, Bool.false_and, Bool.and_false, Bool.and_false]))
        go_wp2_with (go_at_call 43; (refine (CO.out _).mono ?_); rintro e2 w2 ⟨rfl, h1⟩; have B2 := Lib.hid (B1.out.trans (h1.mono B1.out.size)); have r0 : w2.cell? ⟨w.heap.size, 0, none⟩ = some (.int .i64 0) := (NR.out.below' B2.out).cell_ rfl; have g0 := (NR.out.below' B2.out).frozen 0; have r1 : w2.cell? ⟨w.heap.size, 1, none⟩ = some (.int .i64 0) := (NR.out.below' B2.out).cell_ rfl; have g1 := (NR.out.below' B2.out).frozen 1; have r2 : w2.cell? ⟨w.heap.size, 2, none⟩ = some (.int .i64 0) := (NR.out.below' B2.out).cell_ rfl; have g2 := (NR.out.below' B2.out).frozen 2; have r3 : w2.cell? ⟨w.heap.size, 3, none⟩ = some (.int .i64 0) := (NR.out.below' B2.out).cell_ rfl; have g3 := (NR.out.below' B2.out).frozen 3; have r4 : w2.cell? ⟨w.heap.size, 4, none⟩ = some (.slice none 0 0) := (NR.out.below' B2.out).cell_ rfl; have g4 := (NR.out.below' B2.out).frozen 4; clear h1)
        refine ⟨rfl, _, results_c2 rfl _ _ _ ⟨w.heap.size, 0, none⟩ _ _ (by kernel_rfl) rfl (run_loadVar_row _ w.heap.size 40 40 #[.int .i64 0, .int .i64 0, .int .i64 0, .int .i64 0, .slice none 0 0] (0, 0) _ (set5_bl (NR.out.below' B2.out) _ _ _ _ _) Tryz.underlying40 rfl (by kernel_rfl)), ?_⟩
        rw [NO.out]
        exact ⟨set5_below' BU.out B2.out _ _ _ _ _, rfl⟩
      | true =>
        have P3 : P = 3 := by
          have h := EB.out
          rw [Bool.and_eq_true, decide_eq_true_eq, decide_eq_true_eq] at h
          rw [← HP.out]; exact h.2
        subst P3
        go_upto_region 7 with (go_at_call 43; (refine (CO.out _).mono ?_); rintro e2 w2 ⟨rfl, h1⟩; have B2 := Lib.hid (B1.out.trans (h1.mono B1.out.size)); have O2 := Lib.hid (OC.out.keep h1); clear h1)
        clear c0 c1 c2 c3 CO
        obtain ⟨tp, tq, tz, rfl⟩ := three HP.out
        have S2 := Lib.hid (show Sl w2 Ac (4 * _) (flat [tp, tq, tz]) from by cases O2.out with | mk h1 h2 h3 h4 h5 h6 h7 => exact h3)
        have K2 := Lib.hid (kids_ok O2.out)
        obtain ⟨ac, rfl⟩ := one_some S2.out
        obtain ⟨Kp, np, rp, Ap, cp, kp⟩ := tp
        obtain ⟨Kq, nq, rq, Aq, cq, kq⟩ := tq
        obtain ⟨Kz, nz', rz, Az, cz, kz⟩ := tz
        have NP := Lib.hid (show Wr.nd (.mk Kp np rp Ap cp kp) = k_ (k_ V 2) 0 from by rw [← KC.out]; unfold k_; rw [← ks_nd, nds_map]; rfl)
        have NQ := Lib.hid (show Wr.nd (.mk Kq nq rq Aq cq kq) = k_ (k_ V 2) 1 from by rw [← KC.out]; unfold k_; rw [← ks_nd, nds_map]; rfl)
        have NZ := Lib.hid (show Wr.nd (.mk Kz nz' rz Az cz kz) = k_ (k_ V 2) 2 from by rw [← KC.out]; unfold k_; rw [← ks_nd, nds_map]; rfl)
        have OZ := Lib.hid (K2.out (.mk Kz nz' rz Az cz kz) (by simp [kids]))
        obtain ⟨n0, hn0⟩ : ∃ n0, nuB (k_ (k_ V 2) 0) = n0 := ⟨_, rfl⟩
        obtain ⟨n1, hn1⟩ : ∃ n1, nuB (k_ (k_ V 2) 1) = n1 := ⟨_, rfl⟩
        obtain ⟨n2, hn2⟩ : ∃ n2, (decide (Kz = 2) && decide (rz.2.1 = 32)) = n2 := ⟨_, rfl⟩
        have CP := Lib.hid (fun u => number_d (.mk Kp np rp Ap cp kp) u)
        have CQ := Lib.hid (fun u => number_d (.mk Kq nq rq Aq cq kq) u)
        have CZ := Lib.hid (fun u => bytes_d Kz nz' rz Az cz kz 32 u)
        rw [NP.out, hn0] at CP
        rw [NQ.out, hn1] at CQ
        rw [hn2] at CZ
        simp only [Tv.val, Tv.row] at CP CQ CZ
        have F0 := Lib.hid hn0
        have F1 := Lib.hid hn1
        have LZ := Lib.hid (show rz.2.1 = (bsd (k_ (k_ V 2) 2)).length from by rw [← NZ.out]; exact bl_nd OZ.out)
        have BZ := Lib.hid (show rz.2.2.2 = bsd (k_ (k_ V 2) 2) from by rw [← NZ.out]; exact bs_nd (.mk Kz nz' rz Az cz kz))
        have F2 := Lib.hid (show isB (k_ (k_ V 2) 2) 32 = n2 from by unfold isB; rw [← LZ.out, ← NZ.out, ← kd_nd]; exact hn2)
        have PZ := Lib.hid (show Pc w2 rz from by cases OZ.out with | mk h1 h2 h3 h4 h5 h6 h7 => exact h2)
        clear hn0 hn1 hn2 NP NQ NZ
        obtain ⟨p0, p1, p2, p3⟩ := el_0 S2.out (show [Tv.mk Kp np rp Ap cp kp, .mk Kq nq rq Aq cq kq, .mk Kz nz' rz Az cz kz][0]? = _ from rfl)
        go_upto_region 8 with (go_at_call 53; (refine (CP.out _).mono ?_); rintro e3 w3 ⟨rfl, h1⟩; have B3 := Lib.hid (B2.out.trans (h1.mono B2.out.size)); have D3 := Lib.hid h1; clear h1)
        clear p0 p1 p2 p3 CP
        obtain ⟨p0, p1, p2, p3⟩ := el_at (S2.out.below D3.out) (k := 1) (show [Tv.mk Kp np rp Ap cp kp, .mk Kq nq rq Aq cq kq, .mk Kz nz' rz Az cz kz][1]? = _ from rfl) 4 rfl (by decide)
        go_upto_region 9 with (go_at_call 53; (refine (CQ.out _).mono ?_); rintro e4 w4 ⟨rfl, h1⟩; have B4 := Lib.hid (B3.out.trans (h1.mono B3.out.size)); have D4 := Lib.hid (D3.out.trans (h1.mono D3.out.size)); clear h1)
        clear p0 p1 p2 p3 CQ
        obtain ⟨p0, p1, p2, p3⟩ := el_at (S2.out.below D4.out) (k := 2) (show [Tv.mk Kp np rp Ap cp kp, .mk Kq nq rq Aq cq kq, .mk Kz nz' rz Az cz kz][2]? = _ from rfl) 8 rfl (by decide)
        go_upto_region 10 with (go_at_call 54; (refine (CZ.out _).mono ?_); rintro e5 w5 ⟨rfl, h1⟩; have B5 := Lib.hid (B4.out.trans (h1.mono B4.out.size)); have D5 := Lib.hid (D4.out.trans (h1.mono D4.out.size)); clear h1)
        clear p0 p1 p2 p3 CZ
        obtain ⟨zA, zn, zc, zl⟩ := rz
        simp only at LZ BZ PZ ⊢
        have BX := Lib.hid (below_one w5 (.cells #[.int .i64 (nuV (k_ V 0) : Int), .int .i64 (nuV (k_ V 1) : Int), .int .i64 (nuV (k_ (k_ V 2) 0) : Int), .int .i64 (nuV (k_ (k_ V 2) 1) : Int), .slice zA zn zc] 40))
        have B6 := Lib.hid (B5.out.trans (BX.out.mono B5.out.size))
        have D6 := Lib.hid (D5.out.trans (BX.out.mono D5.out.size))
        have NX := Lib.hid (Bl.new_ w5 40 #[.int .i64 (nuV (k_ V 0) : Int), .int .i64 (nuV (k_ V 1) : Int), .int .i64 (nuV (k_ (k_ V 2) 0) : Int), .int .i64 (nuV (k_ (k_ V 2) 1) : Int), .slice zA zn zc])
        go_upto_region 11 with (fail)
        obtain ⟨w6, hw6⟩ : ∃ w6, w5.alloc (.cells #[.int .i64 (nuV (k_ V 0) : Int), .int .i64 (nuV (k_ V 1) : Int), .int .i64 (nuV (k_ (k_ V 2) 0) : Int), .int .i64 (nuV (k_ (k_ V 2) 1) : Int), .slice zA zn zc] 40) = w6 := ⟨_, rfl⟩
        obtain ⟨xb, hxb⟩ : ∃ xb, w5.heap.size = xb := ⟨_, rfl⟩
        rw [hw6, hxb] at NX
        rw [hw6] at B6 D6
        rw [hw6, hxb]
        clear hw6 hxb BX
        have x0 : w6.cell? ⟨xb, 0, none⟩ = some (.int .i64 (nuV (k_ V 0) : Int)) := NX.out.cell_ rfl
        have x1 : w6.cell? ⟨xb, 1, none⟩ = some (.int .i64 (nuV (k_ V 1) : Int)) := NX.out.cell_ rfl
        have x2 : w6.cell? ⟨xb, 2, none⟩ = some (.int .i64 (nuV (k_ (k_ V 2) 0) : Int)) := NX.out.cell_ rfl
        have x3 : w6.cell? ⟨xb, 3, none⟩ = some (.int .i64 (nuV (k_ (k_ V 2) 1) : Int)) := NX.out.cell_ rfl
        have x4 : w6.cell? ⟨xb, 4, none⟩ = some (.slice zA zn zc) := NX.out.cell_ rfl
        obtain ⟨tk, htk⟩ : ∃ tk, tmB (nuV (k_ V 0) : Int) (nuV (k_ V 1) : Int) (nuV (k_ (k_ V 2) 0) : Int) (nuV (k_ (k_ V 2) 1) : Int) zn = tk := ⟨_, rfl⟩
        have CK := Lib.hid (fun u => TimeOK_d (nuV (k_ V 0) : Int) (nuV (k_ V 1) : Int) (nuV (k_ (k_ V 2) 0) : Int) (nuV (k_ (k_ V 2) 1) : Int) zA zn zc u)
        rw [htk] at CK
        have FK := Lib.hid (show tmB (nuV (k_ V 0) : Int) (nuV (k_ V 1) : Int) (nuV (k_ (k_ V 2) 0) : Int) (nuV (k_ (k_ V 2) 1) : Int) (bsd (k_ (k_ V 2) 2)).length = tk from by rw [← LZ.out]; exact htk)
        clear htk
        have OKF := Lib.hid (show tsOK V = (n0 && (n1 && (n2 && tk))) from by unfold tsOK; rw [IL.out, E1.out, E2.out, F0.out, F1.out, F2.out, FK.out]; rfl)
        cases n0 with
        | false =>
          have NO := Lib.hid (dtO_no OKF.out)
          have r0 : w6.cell? ⟨w.heap.size, 0, none⟩ = some (.int .i64 0) := (NR.out.below' B6.out).cell_ rfl
          have g0 := (NR.out.below' B6.out).frozen 0
          have r1 : w6.cell? ⟨w.heap.size, 1, none⟩ = some (.int .i64 0) := (NR.out.below' B6.out).cell_ rfl
          have g1 := (NR.out.below' B6.out).frozen 1
          have r2 : w6.cell? ⟨w.heap.size, 2, none⟩ = some (.int .i64 0) := (NR.out.below' B6.out).cell_ rfl
          have g2 := (NR.out.below' B6.out).frozen 2
          have r3 : w6.cell? ⟨w.heap.size, 3, none⟩ = some (.int .i64 0) := (NR.out.below' B6.out).cell_ rfl
          have g3 := (NR.out.below' B6.out).frozen 3
          have r4 : w6.cell? ⟨w.heap.size, 4, none⟩ = some (.slice none 0 0) := (NR.out.below' B6.out).cell_ rfl
          have g4 := (NR.out.below' B6.out).frozen 4
          go_wp2_with fail
          refine ⟨rfl, _, results_c2 rfl _ _ _ ⟨w.heap.size, 0, none⟩ _ _ (by kernel_rfl) rfl (run_loadVar_row _ w.heap.size 40 40 #[.int .i64 0, .int .i64 0, .int .i64 0, .int .i64 0, .slice none 0 0] (0, 0) _ (set5_bl (NR.out.below' B6.out) _ _ _ _ _) Tryz.underlying40 rfl (by kernel_rfl)), ?_⟩
          rw [NO.out]
          exact ⟨set5_below' BU.out B6.out _ _ _ _ _, rfl⟩
        | true =>
          cases n1 with
          | false =>
            have NO := Lib.hid (dtO_no OKF.out)
            have r0 : w6.cell? ⟨w.heap.size, 0, none⟩ = some (.int .i64 0) := (NR.out.below' B6.out).cell_ rfl
            have g0 := (NR.out.below' B6.out).frozen 0
            have r1 : w6.cell? ⟨w.heap.size, 1, none⟩ = some (.int .i64 0) := (NR.out.below' B6.out).cell_ rfl
            have g1 := (NR.out.below' B6.out).frozen 1
            have r2 : w6.cell? ⟨w.heap.size, 2, none⟩ = some (.int .i64 0) := (NR.out.below' B6.out).cell_ rfl
            have g2 := (NR.out.below' B6.out).frozen 2
            have r3 : w6.cell? ⟨w.heap.size, 3, none⟩ = some (.int .i64 0) := (NR.out.below' B6.out).cell_ rfl
            have g3 := (NR.out.below' B6.out).frozen 3
            have r4 : w6.cell? ⟨w.heap.size, 4, none⟩ = some (.slice none 0 0) := (NR.out.below' B6.out).cell_ rfl
            have g4 := (NR.out.below' B6.out).frozen 4
            go_wp2_with fail
            refine ⟨rfl, _, results_c2 rfl _ _ _ ⟨w.heap.size, 0, none⟩ _ _ (by kernel_rfl) rfl (run_loadVar_row _ w.heap.size 40 40 #[.int .i64 0, .int .i64 0, .int .i64 0, .int .i64 0, .slice none 0 0] (0, 0) _ (set5_bl (NR.out.below' B6.out) _ _ _ _ _) Tryz.underlying40 rfl (by kernel_rfl)), ?_⟩
            rw [NO.out]
            exact ⟨set5_below' BU.out B6.out _ _ _ _ _, rfl⟩
          | true =>
            cases n2 with
            | false =>
              have NO := Lib.hid (dtO_no OKF.out)
              have r0 : w6.cell? ⟨w.heap.size, 0, none⟩ = some (.int .i64 0) := (NR.out.below' B6.out).cell_ rfl
              have g0 := (NR.out.below' B6.out).frozen 0
              have r1 : w6.cell? ⟨w.heap.size, 1, none⟩ = some (.int .i64 0) := (NR.out.below' B6.out).cell_ rfl
              have g1 := (NR.out.below' B6.out).frozen 1
              have r2 : w6.cell? ⟨w.heap.size, 2, none⟩ = some (.int .i64 0) := (NR.out.below' B6.out).cell_ rfl
              have g2 := (NR.out.below' B6.out).frozen 2
              have r3 : w6.cell? ⟨w.heap.size, 3, none⟩ = some (.int .i64 0) := (NR.out.below' B6.out).cell_ rfl
              have g3 := (NR.out.below' B6.out).frozen 3
              have r4 : w6.cell? ⟨w.heap.size, 4, none⟩ = some (.slice none 0 0) := (NR.out.below' B6.out).cell_ rfl
              have g4 := (NR.out.below' B6.out).frozen 4
              go_wp2_with fail
              refine ⟨rfl, _, results_c2 rfl _ _ _ ⟨w.heap.size, 0, none⟩ _ _ (by kernel_rfl) rfl (run_loadVar_row _ w.heap.size 40 40 #[.int .i64 0, .int .i64 0, .int .i64 0, .int .i64 0, .slice none 0 0] (0, 0) _ (set5_bl (NR.out.below' B6.out) _ _ _ _ _) Tryz.underlying40 rfl (by kernel_rfl)), ?_⟩
              rw [NO.out]
              exact ⟨set5_below' BU.out B6.out _ _ _ _ _, rfl⟩
            | true =>
              cases tk with
              | false =>
                have NO := Lib.hid (dtO_no OKF.out)
                go_wp2_with (go_at_call 49; (refine (CK.out _).mono ?_); rintro e7 w7 ⟨rfl, h1⟩; have B7 := Lib.hid (B6.out.trans (h1.mono B6.out.size)); have D7 := Lib.hid (D6.out.trans (h1.mono D6.out.size)); have X7 := Lib.hid (NX.out.below' h1); have r0 : w7.cell? ⟨w.heap.size, 0, none⟩ = some (.int .i64 0) := (NR.out.below' B7.out).cell_ rfl; have g0 := (NR.out.below' B7.out).frozen 0; have r1 : w7.cell? ⟨w.heap.size, 1, none⟩ = some (.int .i64 0) := (NR.out.below' B7.out).cell_ rfl; have g1 := (NR.out.below' B7.out).frozen 1; have r2 : w7.cell? ⟨w.heap.size, 2, none⟩ = some (.int .i64 0) := (NR.out.below' B7.out).cell_ rfl; have g2 := (NR.out.below' B7.out).frozen 2; have r3 : w7.cell? ⟨w.heap.size, 3, none⟩ = some (.int .i64 0) := (NR.out.below' B7.out).cell_ rfl; have g3 := (NR.out.below' B7.out).frozen 3; have r4 : w7.cell? ⟨w.heap.size, 4, none⟩ = some (.slice none 0 0) := (NR.out.below' B7.out).cell_ rfl; have g4 := (NR.out.below' B7.out).frozen 4; have z0 : w7.cell? ⟨xb, 0, none⟩ = some (.int .i64 (nuV (k_ V 0) : Int)) := X7.out.cell_ rfl; have z1 : w7.cell? ⟨xb, 1, none⟩ = some (.int .i64 (nuV (k_ V 1) : Int)) := X7.out.cell_ rfl; have z2 : w7.cell? ⟨xb, 2, none⟩ = some (.int .i64 (nuV (k_ (k_ V 2) 0) : Int)) := X7.out.cell_ rfl; have z3 : w7.cell? ⟨xb, 3, none⟩ = some (.int .i64 (nuV (k_ (k_ V 2) 1) : Int)) := X7.out.cell_ rfl; have z4 : w7.cell? ⟨xb, 4, none⟩ = some (.slice zA zn zc) := X7.out.cell_ rfl; clear h1)
                refine ⟨rfl, _, results_c2 rfl _ _ _ ⟨w.heap.size, 0, none⟩ _ _ (by kernel_rfl) rfl (run_loadVar_row _ w.heap.size 40 40 #[.int .i64 0, .int .i64 0, .int .i64 0, .int .i64 0, .slice none 0 0] (0, 0) _ (set5_bl (NR.out.below' B7.out) _ _ _ _ _) Tryz.underlying40 rfl (by kernel_rfl)), ?_⟩
                rw [NO.out]
                exact ⟨set5_below' BU.out B7.out _ _ _ _ _, rfl⟩
              | true =>
                have YES := Lib.hid (dtO_yes OKF.out)
                go_wp2_with (go_at_call 49; (refine (CK.out _).mono ?_); rintro e7 w7 ⟨rfl, h1⟩; have B7 := Lib.hid (B6.out.trans (h1.mono B6.out.size)); have D7 := Lib.hid (D6.out.trans (h1.mono D6.out.size)); have X7 := Lib.hid (NX.out.below' h1); have r0 : w7.cell? ⟨w.heap.size, 0, none⟩ = some (.int .i64 0) := (NR.out.below' B7.out).cell_ rfl; have g0 := (NR.out.below' B7.out).frozen 0; have r1 : w7.cell? ⟨w.heap.size, 1, none⟩ = some (.int .i64 0) := (NR.out.below' B7.out).cell_ rfl; have g1 := (NR.out.below' B7.out).frozen 1; have r2 : w7.cell? ⟨w.heap.size, 2, none⟩ = some (.int .i64 0) := (NR.out.below' B7.out).cell_ rfl; have g2 := (NR.out.below' B7.out).frozen 2; have r3 : w7.cell? ⟨w.heap.size, 3, none⟩ = some (.int .i64 0) := (NR.out.below' B7.out).cell_ rfl; have g3 := (NR.out.below' B7.out).frozen 3; have r4 : w7.cell? ⟨w.heap.size, 4, none⟩ = some (.slice none 0 0) := (NR.out.below' B7.out).cell_ rfl; have g4 := (NR.out.below' B7.out).frozen 4; have z0 : w7.cell? ⟨xb, 0, none⟩ = some (.int .i64 (nuV (k_ V 0) : Int)) := X7.out.cell_ rfl; have z1 : w7.cell? ⟨xb, 1, none⟩ = some (.int .i64 (nuV (k_ V 1) : Int)) := X7.out.cell_ rfl; have z2 : w7.cell? ⟨xb, 2, none⟩ = some (.int .i64 (nuV (k_ (k_ V 2) 0) : Int)) := X7.out.cell_ rfl; have z3 : w7.cell? ⟨xb, 3, none⟩ = some (.int .i64 (nuV (k_ (k_ V 2) 1) : Int)) := X7.out.cell_ rfl; have z4 : w7.cell? ⟨xb, 4, none⟩ = some (.slice zA zn zc) := X7.out.cell_ rfl; clear h1)
                refine ⟨rfl, _, results_c2 rfl _ _ _ ⟨w.heap.size, 0, none⟩ _ _ (by kernel_rfl) rfl (run_loadVar_row _ w.heap.size 40 40 #[.int .i64 (nuV (k_ V 0) : Int), .int .i64 (nuV (k_ V 1) : Int), .int .i64 (nuV (k_ (k_ V 2) 0) : Int), .int .i64 (nuV (k_ (k_ V 2) 1) : Int), .slice zA zn zc] (0, 0) _ (set5_bl (NR.out.below' B7.out) _ _ _ _ _) Tryz.underlying40 rfl (by kernel_rfl)), ?_⟩
                rw [YES.out]
                refine ⟨set5_below' BU.out B7.out _ _ _ _ _, zA, zc, ?_, ?_⟩
                · show _ = Ending.returned (.tuple #[R5 _ _ _ _ zA (bsd (k_ (k_ V 2) 2)).length zc, _])
                  rw [← LZ.out]
                  rfl
                · rw [← LZ.out, ← BZ.out]
                  exact set5_pc (NR.out.below' B7.out) (by decide) (PZ.out.below D7.out) z5_pl _ _ _ _ _
  · have CT := Lib.hid (CT0.out.mono fun e w' ⟨hb, h⟩ => (show Below U.heap.size U w' ∧ e = Ending.returned (.tuple #[.int .i64 0, .int .i64 0, .slice none 0 0, .bool false]) from ⟨hb, by
      rcases h with ⟨h1, h2, -⟩ | ⟨-, h⟩
      · exact absurd ⟨h1, h2⟩ hc
      · exact h⟩))
    have NO := Lib.hid (show (if y = 0 then dtO V else none) = none from by
      by_cases h : y = 0
      · rw [if_pos h]
        refine dtO_no ?_
        unfold tsOK
        rw [show isL V 3 = false from by cases h2 : isL V 3 with | false => rfl | true => exact absurd ⟨h, h2⟩ hc, Bool.false_and]
      · rw [if_neg h])
    rw [NO.out]
    clear CT0 hc NO
    go_enter Tryz.func21, Tryz.ntmps21
    go_upto_region 1 with (fail)
    clear hU
    go_wp2_with (go_at_call 42; (refine CT.out.mono ?_); rintro e1 w1 ⟨hb, rfl⟩; have B1 := Lib.hid hb; have r0 : w1.cell? ⟨w.heap.size, 0, none⟩ = some (.int .i64 0) := (NR.out.below' B1.out).cell_ rfl; have g0 := (NR.out.below' B1.out).frozen 0; have r1 : w1.cell? ⟨w.heap.size, 1, none⟩ = some (.int .i64 0) := (NR.out.below' B1.out).cell_ rfl; have g1 := (NR.out.below' B1.out).frozen 1; have r2 : w1.cell? ⟨w.heap.size, 2, none⟩ = some (.int .i64 0) := (NR.out.below' B1.out).cell_ rfl; have g2 := (NR.out.below' B1.out).frozen 2; have r3 : w1.cell? ⟨w.heap.size, 3, none⟩ = some (.int .i64 0) := (NR.out.below' B1.out).cell_ rfl; have g3 := (NR.out.below' B1.out).frozen 3; have r4 : w1.cell? ⟨w.heap.size, 4, none⟩ = some (.slice none 0 0) := (NR.out.below' B1.out).cell_ rfl; have g4 := (NR.out.below' B1.out).frozen 4; clear hb)
    refine ⟨rfl, _, results_c2 rfl _ _ _ ⟨w.heap.size, 0, none⟩ _ _ (by kernel_rfl) rfl (run_loadVar_row _ w.heap.size 40 40 #[.int .i64 0, .int .i64 0, .int .i64 0, .int .i64 0, .slice none 0 0] (0, 0) _ (set5_bl (NR.out.below' B1.out) _ _ _ _ _) Tryz.underlying40 rfl (by kernel_rfl)), ?_⟩
    exact ⟨set5_below' BU.out B1.out _ _ _ _ _, rfl⟩
end Go.Proofs.YteblmphohhbgcaaGreat.Mt
