/- Joined texts. -/
import Derived.Test.YtnnfpmebopgogaaDoorQsMsPure
import Derived.Test.YtnnfpmebopgogaaDoorQsMpLawO
import Derived.Test.YtnnfpmebopgogaaDoorQsMoLaw
set_option linter.unusedVariables false
namespace Go.Proofs.YtnnfpmebopgogaaDoor.Mk
open Go.RowKit Go.Proofs.YtnnfpmebopgogaaDoor.Gn Go.Proofs.YtnnfpmebopgogaaDoor.Fd Go.Deep
theorem PAny.sub{w:World}{ad:Addr}{m c:Nat}{P:List Rw}(h:PAny w (some ad) m c P){x y:Nat}(hx:x < y)(hy:y≤m):PAny w (some (ad.add x)) (y - x) (c - x) ((P.drop x).take (y - x)):=by
 have hc:=h.cap
 have hf:=h.few
 have h2:=h.row.drop_ (c:=c) x (by omega) hc
 rw[if_neg (by omega),←List.map_drop] at h2
 have h3:=h2.take_ (y - x) (by omega)
 rw[←List.map_take] at h3
 exact⟨h3,fun r hr=>h.pcs r (List.mem_of_mem_drop (List.mem_of_mem_take hr)),by omega,by omega⟩
theorem con_sub(P:List Rw)(x y:Nat):con ((P.drop x).take (y - x))=sub (con P) x y:=by unfold sub;rw[con,con,List.map_take,List.map_drop]
theorem all32_sub{P:List Rw}(h:all32 P=true)(x n:Nat):all32 ((P.drop x).take n)=true:=by
 unfold all32 at h ⊢
 rw[List.all_eq_true] at h ⊢
 exact fun r hr=>h r (List.mem_of_mem_drop (List.mem_of_mem_take hr))
theorem checkRE_or(n f:Nat)(lr:List Nat)(lv pr:List (List Nat)):checkRE n f lr lv pr=0∨checkRE n f lr lv pr=50:=by
 unfold checkRE
 split
 ·exact Or.inr rfl
 ·split
  ·exact Or.inl rfl
  ·exact Or.inr rfl
theorem climb_top{w:World}{BL B:Option Addr}{ml cl m c:Nat}{Lv Q:List Rw}(hL:PAny w BL ml cl Lv)(hl32:all32 Lv=true)(hQ:PAny w B m c Q)(hq32:all32 Q=true){n f:Nat}(hn:n≤4096)(h1:1≤ml)(hfn:f+ml≤n) :
  Calls Tryd.prog 28 #[.int .i64 0,.int .i64 (n:Int),.int .i64 (f:Int),.slice BL ml cl,.slice B m c] w (ClimbQ w (con Lv) (con Q) Q m f (f+ml) 0 n 0 w):=by
 have hlf:=hL.few
 have hqf:=hQ.few
 exact rclimb_any (hL.p32 hl32) rfl (by omega) h1 (hQ.p32 hq32).pcs hQ.len (by omega) n n (Nat.le_refl _) (by omega) 0 (by omega) 0 w B m c (Below.refl _ _) ⟨by rw[List.drop_zero];exact hQ.row,rfl,hQ.cap⟩
set_option maxHeartbeats 8000000 in
set_option maxRecDepth 100000 in
theorem walk_merkleSpans {w : World} (ts : Sh.Tab w) (B : Option Addr) (m c : Nat) (P : List Rw) (hP : LL w B m P ∧ m ≤ 9223372036854775807 ∧ m ≤ c) (f : Int) (wf : (Lit.int .i64 f).wf) (t : Int) (wt : (Lit.int .i64 t).wf) (n : Int) (wn : (Lit.int .i64 n).wf) (a : Int) (wa : (Lit.int .i64 a).wf) (Ba : Option Addr) (m2 c2 : Nat) (P2 : List Rw) (hP2 : LL w Ba m2 P2 ∧ m2 ≤ 9223372036854775807 ∧ m2 ≤ c2) (Bb : Option Addr) (m3 c3 : Nat) (P3 : List Rw) (hP3 : LL w Bb m3 P3 ∧ m3 ≤ 9223372036854775807 ∧ m3 ≤ c3) :
    Calls Tryd.prog 6 #[.slice B m c, .int .i64 f, .int .i64 t, .int .i64 n, .int .i64 a, .slice Ba m2 c2, .slice Bb m3 c3] w fun e w' => e = .returned (.bool true) ∧ Below w.heap.size w w' := by
  obtain ⟨i0, hi, hz0, hz1, hz2⟩ := info_parts infobb
  have KN := Lib.hid (fun (w1 : World) (hb : Below w.heap.size w w1) => known_any w1 (ts.below hb))
  have key : ∀ (B : Option Addr) (m c : Nat) (P : List Rw), (LL w B m P ∧ m ≤ 9223372036854775807 ∧ m ≤ c) → Calls Tryd.prog 7 #[.slice B m c, .int .i64 500] w (SizeQ P m 500 w) ∧ (∀ S, S ≤ 500 → (m ≤ S ∧ ∀ r ∈ P, r.2.1 ≤ S) → PAny w B m c P ∧ m ≤ 500) := fun B m c P hP =>
    ⟨show Calls Tryd.prog 7 #[.slice B m c, .int .i64 500] w (SizeQ P m 500 w) from rsize_any (c := c) hP.1.1 (fun r hr => (hP.1.2 r hr).2) hP.2.1 500 (by decide), fun S h h2 => ⟨⟨hP.1.1, fun r hr => ⟨bl_pc2 (hP.1.2 r hr).1, by have := h2.2 r hr; omega⟩, by omega, hP.2.2⟩, by omega⟩⟩
  have S1 := Lib.hid (key B m c P hP).1
  have U1 := Lib.hid (key B m c P hP).2
  have S2 := Lib.hid (key Ba m2 c2 P2 hP2).1
  have U2 := Lib.hid (key Ba m2 c2 P2 hP2).2
  have S3 := Lib.hid (key Bb m3 c3 P3 hP3).1
  have U3 := Lib.hid (key Bb m3 c3 P3 hP3).2
  have TS := Lib.hid ts
  have wf := wf_i64 wf
  have wt := wf_i64 wt
  have wa := wf_i64 wa
  clear hP hP2 hP3 ts wn key
  go_enter Tryd.func6, Tryd.ntmps6
  go_wp2_with fail
  refine S1.out.mono ?_
  rintro e w1 ⟨S, rfl, hS, hSm, rfl⟩
  by_cases hbig : 500 < S
  · have q4 : (500 : Int) < (S : Int) := by omega
    clear hS
    go_wp2_with fail
    refine (KN.out _ (Below.refl _ _)).mono ?_
    rintro e wk ⟨rfl, bk⟩
    have BK := Lib.hid bk
    clear bk
    go_wp2_with fail
    go_ret
    exact ⟨rfl, BK.out⟩
  have q4 : ¬ (500 : Int) < (S : Int) := by omega
  have H1 := Lib.hid (U1.out S (by omega) (hS (by omega))).1
  have hm5 := (U1.out S (by omega) (hS (by omega))).2
  clear hS hSm U1
  go_wp2_with fail
  refine S2.out.mono ?_
  rintro e w1 ⟨Sb, rfl, hS, hSm, rfl⟩
  by_cases hbig2 : 500 < Sb
  · have q6 : (500 : Int) < (Sb : Int) := by omega
    clear hS
    go_wp2_with fail
    refine (KN.out _ (Below.refl _ _)).mono ?_
    rintro e wk ⟨rfl, bk⟩
    have BK := Lib.hid bk
    clear bk
    go_wp2_with fail
    go_ret
    exact ⟨rfl, BK.out⟩
  have q6 : ¬ (500 : Int) < (Sb : Int) := by omega
  have H2 := Lib.hid (U2.out Sb (by omega) (hS (by omega))).1
  have hm25 := (U2.out Sb (by omega) (hS (by omega))).2
  clear hS hSm U2
  go_wp2_with fail
  refine S3.out.mono ?_
  rintro e w1 ⟨Sc, rfl, hS, hSm, rfl⟩
  by_cases hbig3 : 500 < Sc
  · have q7 : (500 : Int) < (Sc : Int) := by omega
    clear hS
    go_wp2_with fail
    refine (KN.out _ (Below.refl _ _)).mono ?_
    rintro e wk ⟨rfl, bk⟩
    have BK := Lib.hid bk
    clear bk
    go_wp2_with fail
    go_ret
    exact ⟨rfl, BK.out⟩
  have q7 : ¬ (500 : Int) < (Sc : Int) := by omega
  have H3 := Lib.hid (U3.out Sc (by omega) (hS (by omega))).1
  have hm35 := (U3.out Sc (by omega) (hS (by omega))).2
  clear hS hSm U3
  by_cases h0 : m = 0
  · subst h0
    go_wp2_with fail
    refine (KN.out _ (Below.refl _ _)).mono ?_
    rintro e wk ⟨rfl, bk⟩
    have BK := Lib.hid bk
    clear bk
    go_wp2_with fail
    go_ret
    exact ⟨rfl, BK.out⟩
  have q8 : ((m : Int) == 0) = false := beq_eq_false_iff_ne.2 (by omega)
  by_cases ha : all32 P = true
  rotate_left
  · have RB := Lib.hid (Root_bad H1.out (by simpa using ha))
    clear ha
    go_wp2_with fail
    refine RB.out.mono ?_
    rintro e w1 ⟨rfl, b1⟩
    have B1 := Lib.hid b1
    clear b1
    go_wp2_with fail
    refine (KN.out _ B1.out).mono ?_
    rintro e wk ⟨rfl, bk⟩
    have BK := Lib.hid (B1.out.trans (bk.mono B1.out.size))
    clear bk
    go_wp2_with fail
    go_ret
    exact ⟨rfl, BK.out⟩
  have RG := Lib.hid (Root_be H1.out ha TS.out)
  have TX := Lib.hid (fun (wq : World) (hb : Below w.heap.size w wq) => RTexts_any (H1.out.below hb) ha)
  have CON := Lib.hid (H1.out.p32 ha).con32
  have PL := Lib.hid (show (con P).length = m from by rw [con_len, H1.out.len])
  have NTX := Lib.hid (show (txtL (con P)).length ≤ 500 from by
    have h2 := txtL_len _ (con P) (Nat.le_refl _) (by rw [PL.out]; omega)
    rw [PL.out] at h2
    omega)
  obtain ⟨ad, hB, -⟩ := H1.out.row.at_ (show 0 < m by omega)
  subst hB
  have hcap := H1.out.cap
  obtain ⟨k, hk, hkm⟩ : ∃ k : Nat, f % (m : Int) = (k : Int) ∧ k < m := ⟨(f % (m : Int)).toNat, by have := Int.emod_nonneg f (show (m : Int) ≠ 0 by omega); omega, by have := Int.emod_nonneg f (show (m : Int) ≠ 0 by omega); have := Int.emod_lt_of_pos f (show (0 : Int) < m by omega); omega⟩
  obtain ⟨mk, hmk⟩ : ∃ mk, mk = m - k := ⟨_, rfl⟩
  obtain ⟨q, hq, hqm⟩ : ∃ q : Nat, t % (mk : Int) = (q : Int) ∧ q < mk := ⟨(t % (mk : Int)).toNat, by have := Int.emod_nonneg t (show (mk : Int) ≠ 0 by omega); omega, by have := Int.emod_nonneg t (show (mk : Int) ≠ 0 by omega); have := Int.emod_lt_of_pos t (show (0 : Int) < mk by omega); omega⟩
  have AM1 := Lib.hid (fun w => among_any f (m : Int) w (by omega) (by omega) wf.1 wf.2)
  have AM2 := Lib.hid (fun w => among_any t (mk : Int) w (by omega) (by omega) wt.1 wt.2)
  rw [hk] at AM1
  rw [hq] at AM2
  obtain ⟨b, hb⟩ : ∃ b, b = k + 1 + q := ⟨_, rfl⟩
  have hkb : k < b := by omega
  have hbm : b ≤ m := by omega
  have e1 : (m : Int) - (k : Int) = (mk : Int) := by omega
  have e2 : (k : Int) + 1 + (q : Int) = (b : Int) := by omega
  have PG := Lib.hid (fun (wq : World) (hw : Below w.heap.size w wq) => ProveRange_good (H1.out.below hw) ha hkb hbm (TS.out.below hw))
  have OWN := Lib.hid (own_range (ps := con P) hkb (by rw [PL.out]; exact hbm))
  rw [PL.out] at OWN
  have CK1 := Lib.hid (fun (wq : World) (A : Option Addr) (cr : Nat) (B' : Option Addr) (m' c' : Nat) (Q : List Rw) (hw : Below w.heap.size w wq) (hr : Pc wq (A, 32, cr, rootOf m (topL (con P)))) (hQ : PAny wq B' m' c' Q) (h32 : all32 Q = true) (hc : con Q = outs (con P) k b 0 m) =>
    show Calls Tryd.prog 25 #[.slice A 32 cr, .int .i64 (m : Int), .int .i64 (k : Int), .slice (some (ad.add k)) (b - k) (c - k), .slice B' m' c'] wq (ErrQ 0 wq) from by
      have h := checkR_ok hr ((H1.out.below hw).sub hkb hbm) (all32_sub ha k (b - k)) hQ h32 (n := m) (f := k) (by omega) (by omega) (by omega) (TS.out.below hw)
      rw [con_sub, hc, OWN.out] at h
      exact h)
  have RPG := Lib.hid (fun (x y : Nat) (hx : x < y) (hy : y ≤ m) (wq : World) (hw : Below w.heap.size w wq) => RProveRange_good (H1.out.below hw) ha hx hy)
  have OL := outs_len (con P) (n := m) (by omega) k b 0
  have k2 : (k : Int) ≤ (b : Int) := by omega
  have k3 : (b : Int) ≤ (c : Int) := by omega
  have k4 : ¬ c = k := by omega
  have k5 : ¬ k = c := by omega
  have k6 : (0 : Int) ≤ (k : Int) := by omega
  have k7 : (b : Int) ≤ (m : Int) := by omega
  generalize houts : outs (con P) k b 0 m = ob at PG CK1 OL
  clear hk hq hmk ha houts hb hqm
  go_wp2_with fail
  refine RG.out.mono ?_
  rintro e w1 ⟨A5, m5, c5, rfl, p1, b1⟩
  obtain rfl : m5 = 32 := p1.len.trans (dg32_len _)
  have P1 := Lib.hid p1
  have B1 := Lib.hid b1
  clear p1 b1 RG
  go_wp2_with fail
  refine (AM1.out _).mono ?_
  rintro e w1' ⟨rfl, rfl⟩
  go_wp2_with fail
  refine (AM2.out _).mono ?_
  rintro e w1' ⟨rfl, rfl⟩
  go_wp2_with fail
  refine (PG.out _ B1.out).mono ?_
  rintro e w2 ⟨A6, n6, c6, us6, rfl, o6, hn6, hc6, b2⟩
  have B2 := Lib.hid (B1.out.trans (b2.mono B1.out.size))
  have P12 := Lib.hid (P1.out.below b2)
  have PA6 := Lib.hid (show PAny w2 A6 n6 c6 us6 from by
    obtain ⟨A', c', e1, h1, -, h2, -, -⟩ := Sl.own o6.own
    injection e1 with e1 e2 e3
    subst e1; subst e2; subst e3
    have h3 := congrArg List.length hc6
    rw [con_len] at h3
    exact ⟨h1, (At0.any o6.pcs).1, by omega, h2⟩)
  have C6 := Lib.hid (CK1.out w2 A5 c5 A6 n6 c6 us6 B2.out P12.out PA6.out (At0.any o6.pcs).2 hc6)
  clear o6 hn6 hc6 b2 CK1 PG P1
  go_wp2_with fail
  refine C6.out.mono ?_
  rintro e w3 ⟨rfl, b3⟩
  have B3 := Lib.hid (B2.out.trans (b3.mono B2.out.size))
  have P13 := Lib.hid (P12.out.below b3)
  clear b3 C6 P12 PA6
  rcases badR_or n a 32 m2 P2 P3 with hbad | ⟨-, hl2, hl3, h1m, n, a, rfl, rfl, hn4, ham⟩
  · have CB := Lib.hid (checkR_bad P13.out (by decide) (H2.out.below B3.out) (H3.out.below B3.out) wa hbad)
    clear hbad
    go_wp2_with fail
    refine CB.out.mono ?_
    rintro e w4 ⟨rfl, b4⟩
    have B4 := Lib.hid (B3.out.trans (b4.mono B3.out.size))
    clear b4
    go_wp2_with fail
    refine (KN.out _ B4.out).mono ?_
    rintro e wk ⟨rfl, bk⟩
    have BK := Lib.hid (B4.out.trans (bk.mono B4.out.size))
    clear bk
    go_wp2_with fail
    go_ret
    exact ⟨rfl, BK.out⟩
  have CO := Lib.hid (checkR_ok P13.out (H2.out.below B3.out) hl2 (H3.out.below B3.out) hl3 hn4 h1m ham (TS.out.below B3.out))
  rcases checkRE_or n a (rootOf m (topL (con P))) (con P2) (con P3) with hE | hE
  rotate_left
  · rw [hE] at CO
    clear hE
    go_wp2_with fail
    refine CO.out.mono ?_
    rintro e w4 ⟨rfl, b4⟩
    have B4 := Lib.hid (B3.out.trans (b4.mono B3.out.size))
    clear b4
    go_wp2_with fail
    refine (KN.out _ B4.out).mono ?_
    rintro e wk ⟨rfl, bk⟩
    have BK := Lib.hid (B4.out.trans (bk.mono B4.out.size))
    clear bk
    go_wp2_with fail
    go_ret
    exact ⟨rfl, BK.out⟩
  have L2 := H2.out.len
  have L3 := H3.out.len
  have OR0 := only_range (ps := con P) (lv := con P2) (pr := con P3) (n := n) (f := a) (by rw [PL.out]; omega) (by rw [PL.out]; omega) CON.out hn4 (by rw [con_len, L2]; exact h1m) (by rw [con_len, L2]; exact ham) (H2.out.p32 hl2).con32 (H3.out.p32 hl3).con32 (by rw [PL.out]; exact hE)
  rw [PL.out, con_len P2, L2, con_len P3, L3] at OR0
  have HFIT := Lib.hid (show 0 + (bes a (a + m2) 0 n).length ≤ m3 from by rw [← OR0.1]; omega)
  have OR := Lib.hid OR0.2
  clear OR0
  have CM := Lib.hid (fun (wq : World) (hw : Below w.heap.size w wq) => climb_top (H2.out.below hw) hl2 (H3.out.below hw) hl3 hn4 h1m ham)
  rw [hE] at CO
  clear hE hl2 hl3 L2 L3
  go_wp2_with fail
  refine CO.out.mono ?_
  rintro e w4 ⟨rfl, b4⟩
  have B4 := Lib.hid (B3.out.trans (b4.mono B3.out.size))
  clear b4 CO P13
  by_cases hnm : n = m
  rotate_left
  · have q9 : ((n : Int) == (m : Int)) = false := by rw [beq_eq_false_iff_ne]; omega
    have CLA := Lib.hid (OR.out.resolve_left (fun h => hnm h.1))
    go_wp2_with fail
    refine (CM.out _ B4.out).mono ?_
    rintro e w5 ⟨⟨XA, xn, xc, xx⟩, R5, k5, c5, j5, T5, us, fb, rfl, px, lx, -, hfb, ot, hu, hx, b5⟩
    rw [show rwv ((XA, xn, xc, xx) : Rw) = Value.slice XA xn xc from rfl]
    have B5 := Lib.hid (B4.out.trans (b5.mono B4.out.size))
    have O5 := Lib.hid (show OwnT w.heap.size w5 T5 us from ⟨own_base ot.own B4.out.size, ot.pcs⟩)
    have PX := Lib.hid px
    have XL := Lib.hid (show xx.length ≤ 32 from lx)
    have H5 := Lib.hid (hx HFIT.out)
    obtain ⟨U, hU⟩ : ∃ U, U = us.length := ⟨_, rfl⟩
    have hU9 : U ≤ 4096 := by omega
    obtain ⟨TA, tc, rfl, -, -, -, -, -⟩ := Sl.own ot.own
    rw [← hU]
    have HU := Lib.hid hU
    have OW := Lib.hid (show w5.ownsRow w.heap.size 22 1 (.slice TA U tc) U (us.map rwv) from by rw [hU]; exact O5.out.own)
    have hxn : xn ≤ 32 := by rw [show xn = xx.length from px.len]; exact lx
    have RTX := Lib.hid ((rroot_any n (by omega) px (by omega)).mono fun e w' h => ownB_p (fun z hz => by
      rcases List.mem_cons.1 hz with rfl | hz
      · decide
      · rcases List.mem_append.1 hz with h | h
        · exact eight_lt n z h
        · exact px.lt z h) h)
    clear px lx hfb ot hu hx b5 hU
    go_wp2_with (first
      | (go_at_call 29; (with_reducible refine RTX.out.mono ?_); rintro e w6 ⟨TB, tl, tb, rfl, p6, b6⟩; have D6 := Lib.hid b6; have P6 := Lib.hid p6; have OW6 := Lib.hid (own_below OW.out b6); have B6 := Lib.hid (B5.out.trans (b6.mono B5.out.size)); clear p6 b6 RTX)
      | (at_builtin; refine wpList_append_sl rfl (.tmp 137) (.tmp 141) 23 rfl w.heap.size 22 i0 _ 24 Tryd.underlying23 hi hz0 hz1 hz2 rfl (.slice TA U tc) U (us.map rwv) rfl (own_alloc OW6.out _) (some ⟨w6.heap.size, 0, none⟩) 1 1 [.slice TB tl tb] rfl (fun h => by cases h) (Sl.new_ w6 22 [.slice TB tl tb]) (fun u hu => by simp at hu; subst hu; rfl) (by unfold maxLen; omega) (by omega) (by have := B6.out.size; simp; omega) ?_; intro v7 w7 hown7 hgr7; have A6 := (Below.refl w6.heap.size w6).alloc (Nat.le_refl _) (.cells #[.slice TB tl tb] 22); have B7 := Lib.hid ((B6.out.alloc B6.out.size (.cells #[.slice TB tl tb] 22)).grown hgr7 (by have := B6.out.size; simp; omega) (own_rows OW6.out)); have O7 := Lib.hid hown7; have PO7 := Lib.hid (show ∀ z ∈ us ++ [((TB, tl, tb, 2 :: (eight n ++ xx)) : Rw)], Po w7 z ∧ z.2.2.2.length ≤ 100 from fun z hz => (List.mem_append.1 hz).elim (fun h => ⟨(((O5.out.pcs z h).1.below D6.out).below A6).grown (own_alloc OW6.out _) hgr7, (O5.out.pcs z h).2⟩) (fun h => by have e : z = (TB, tl, tb, 2 :: (eight n ++ xx)) := (by simpa using h); subst e; exact ⟨(P6.out.below A6).grown (own_alloc OW6.out _) hgr7, (by show (2 :: (eight n ++ xx)).length ≤ 100; rw [List.length_cons, List.length_append, eight_len]; have := XL.out; omega)⟩)); obtain ⟨A7, c7, rfl, -, -, -, -, -⟩ := Sl.own hown7; have X7 := Lib.hid (TX.out _ B7.out); clear hown7 hgr7 A6)
      | (go_at_call 20; (with_reducible refine X7.out.mono ?_); rintro e w8 ⟨XB, xb, vs, rfl, o8, hv8, b8⟩; have B8 := Lib.hid (B7.out.trans (b8.mono B7.out.size)); have O8 := Lib.hid (own_below O7.out b8); have PO8 := Lib.hid (fun z hz => (show Po w8 z ∧ z.2.2.2.length ≤ 100 from ⟨(PO7.out z hz).1.below b8, (PO7.out z hz).2⟩)); have V8 := Lib.hid o8; have HV8 := Lib.hid hv8; have hV9 : vs.length ≤ 1000 := (by have h := congrArg List.length hv8; rw [con_len, List.length_append] at h; have h2 := NTX.out; simp at h; omega); clear o8 hv8 b8)
      | (at_builtin; refine wpList_append_sl rfl (.tmp 142) (.tmp 144) 23 rfl w.heap.size 22 i0 _ 24 Tryd.underlying23 hi hz0 hz1 hz2 rfl (.slice A7 (U + 1) c7) (U + 1) (us.map rwv ++ [.slice TB tl tb]) rfl O8.out XB vs.length xb (vs.map rwv) rfl (own_sl V8.out.own).2 (own_sl V8.out.own).1 (rwv_one _) (by unfold maxLen; omega) (by omega) B8.out.size ?_; intro v9 w9 hown9 hgr9; have B9 := Lib.hid (B8.out.grown hgr9 B8.out.size (own_rows O8.out)); have O9 := Lib.hid hown9; have PO9 := Lib.hid (show ∀ z ∈ (us ++ [((TB, tl, tb, 2 :: (eight n ++ xx)) : Rw)]) ++ vs, Po w9 z ∧ z.2.2.2.length ≤ 100 from fun z hz => (List.mem_append.1 hz).elim (fun h => ⟨(PO8.out z h).1.grown O8.out hgr9, (PO8.out z h).2⟩) (fun h => ⟨(V8.out.pcs z h).1.grown O8.out hgr9, (V8.out.pcs z h).2⟩)); obtain ⟨A9, c9, rfl, -, -, -, -, -⟩ := Sl.own hown9; clear hown9 hgr9)
      | (go_at_call 21; (with_reducible refine (Fixed_any _).mono ?_); rintro e w10 ⟨FA, fs, rfl, sf, pf, b10⟩; have SF := Lib.hid sf; have PF := Lib.hid pf; have B10 := Lib.hid (B9.out.trans (b10.mono B9.out.size)); have O10 := Lib.hid (own_below O9.out b10); have PO10 := Lib.hid (fun z hz => (show Po w10 z ∧ z.2.2.2.length ≤ 100 from ⟨(PO9.out z hz).1.below b10, (PO9.out z hz).2⟩)); clear sf pf b10)
      | (at_builtin; refine wpList_append_sl rfl (.tmp 145) (.tmp 146) 23 rfl w.heap.size 22 i0 _ 24 Tryd.underlying23 hi hz0 hz1 hz2 rfl (.slice A9 (U + 1 + vs.length) c9) (U + 1 + vs.length) (us.map rwv ++ [.slice TB tl tb] ++ vs.map rwv) rfl O10.out (some FA) 2 2 (fs.map rwv) rfl (fun h => by cases h) SF.out (rwv_one _) (by unfold maxLen; omega) (by omega) B10.out.size ?_; intro v11 w11 hown11 hgr11; have O11 := Lib.hid hown11; have B11 := Lib.hid (B10.out.grown hgr11 B10.out.size (own_rows O10.out)); have PO11 := Lib.hid (show ∀ z ∈ ((us ++ [((TB, tl, tb, 2 :: (eight n ++ xx)) : Rw)]) ++ vs) ++ fs, Po w11 z ∧ z.2.2.2.length ≤ 100 from fun z hz => (List.mem_append.1 hz).elim (fun h => ⟨(PO10.out z h).1.grown O10.out hgr11, (PO10.out z h).2⟩) (fun h => ⟨(PF.out z h).1.grown O10.out hgr11, (PF.out z h).2⟩)); obtain ⟨A11, c11, rfl, -, -, -, -, -⟩ := Sl.own hown11; clear hown11 hgr11))
    refine (KN.out _ B11.out).mono ?_
    rintro e wk ⟨rfl, bk⟩
    have BK := Lib.hid (B11.out.trans (bk.mono B11.out.size))
    have CT := Lib.hid (Clash_true (c := c11) (w := wk) (B := A11) (m := U + 1 + vs.length + 2) (P := ((us ++ [((TB, tl, tb, 2 :: (eight n ++ xx)) : Rw)]) ++ vs) ++ fs) (by omega) (by have h := (own_sl (own_below O11.out bk)).1; rw [List.map_append, List.map_append, List.map_append]; exact h) (fun r hr => po_small ⟨(PO11.out r hr).1.below bk, (PO11.out r hr).2⟩) (CLA.out.mono fun z hz => by
        rw [show con (((us ++ [((TB, tl, tb, 2 :: (eight n ++ xx)) : Rw)]) ++ vs) ++ fs) = ((con us ++ [2 :: (eight n ++ xx)]) ++ con vs) ++ con fs from by simp [con], HV8.out, H5.out.2.2, show xx = _ from H5.out.2.1]
        exact List.mem_append_left _ hz))
    clear bk
    go_wp2_with fail
    refine CT.out.mono ?_
    rintro e wz ⟨rfl, bz⟩
    have BZ := Lib.hid (BK.out.trans (bz.mono BK.out.size))
    clear bz
    go_wp2_with fail
    go_ret
    exact ⟨rfl, BZ.out⟩
  subst hnm
  obtain ⟨t2, ht2⟩ : ∃ t2, t2 = a + m2 := ⟨_, rfl⟩
  rw [← ht2] at OR HFIT CM
  have hat : a < t2 := by omega
  have htn : t2 ≤ n := by omega
  have e3 : (a : Int) + (m2 : Int) = (t2 : Int) := by omega
  have e4 : t2 - a = m2 := by omega
  have l2 : (a : Int) ≤ (t2 : Int) := by omega
  have l3 : (t2 : Int) ≤ (c : Int) := by omega
  have l4 : ¬ c = a := by omega
  have l5 : ¬ a = c := by omega
  have l6 : (0 : Int) ≤ (a : Int) := by omega
  have SD := Lib.hid (show Calls Tryd.prog 18 #[.slice Ba m2 c2, .slice (some (ad.add a)) m2 (c - a)] w4 (fun e w' => e = .returned (.bool (decide (con P2 = sub (con P) a t2))) ∧ Qt w4 w') from by
    have hs := (H1.out.below B4.out).sub hat htn
    have h := Same_dec (A := Ba) (c := c2) (d := c - a) (m := m2) (n := t2 - a) (xs := P2) (ys := (P.drop a).take (t2 - a)) (w := w4) (by omega) (H2.out.below B4.out).row hs.row (fun r h => ((H2.out.below B4.out).pcs r h).1) (fun r h => (hs.pcs r h).1)
    rw [con_sub, e4] at h
    exact h)
  have RQ := Lib.hid (RPG.out a t2 hat htn)
  have OL2 := outs_len (con P) (n := n) (by omega) a t2 0
  clear ht2 hat htn RPG
  by_cases hss : con P2 = sub (con P) a t2
  rotate_left
  · rw [decide_eq_false hss] at SD
    have CLA := Lib.hid (OR.out.resolve_left (fun h => hss h.2.1))
    go_wp2_with fail
    refine SD.out.mono ?_
    rintro e w4' ⟨rfl, b4⟩
    have B4' := Lib.hid (B4.out.trans (b4.below.mono B4.out.size))
    clear b4
    go_wp2_with fail
    refine (CM.out _ B4'.out).mono ?_
    rintro e w5 ⟨⟨XA, xn, xc, xx⟩, R5, k5, c5, j5, T5, us, fb, rfl, px, lx, -, hfb, ot, hu, hx, b5⟩
    rw [show rwv ((XA, xn, xc, xx) : Rw) = Value.slice XA xn xc from rfl]
    have B5 := Lib.hid (B4'.out.trans (b5.mono B4'.out.size))
    have O5 := Lib.hid (show OwnT w.heap.size w5 T5 us from ⟨own_base ot.own B4'.out.size, ot.pcs⟩)
    have PX := Lib.hid px
    have XL := Lib.hid (show xx.length ≤ 32 from lx)
    have H5 := Lib.hid (hx HFIT.out)
    obtain ⟨U, hU⟩ : ∃ U, U = us.length := ⟨_, rfl⟩
    have hU9 : U ≤ 4096 := by omega
    obtain ⟨TA, tc, rfl, -, -, -, -, -⟩ := Sl.own ot.own
    rw [← hU]
    have HU := Lib.hid hU
    have OW := Lib.hid (show w5.ownsRow w.heap.size 22 1 (.slice TA U tc) U (us.map rwv) from by rw [hU]; exact O5.out.own)
    have hxn : xn ≤ 32 := by rw [show xn = xx.length from px.len]; exact lx
    have RTX := Lib.hid ((rroot_any n (by omega) px (by omega)).mono fun e w' h => ownB_p (fun z hz => by
      rcases List.mem_cons.1 hz with rfl | hz
      · decide
      · rcases List.mem_append.1 hz with h | h
        · exact eight_lt n z h
        · exact px.lt z h) h)
    clear px lx hfb ot hu hx b5 hU
    go_wp2_with (first
      | (go_at_call 29; (with_reducible refine RTX.out.mono ?_); rintro e w6 ⟨TB, tl, tb, rfl, p6, b6⟩; have D6 := Lib.hid b6; have P6 := Lib.hid p6; have OW6 := Lib.hid (own_below OW.out b6); have B6 := Lib.hid (B5.out.trans (b6.mono B5.out.size)); clear p6 b6 RTX)
      | (at_builtin; refine wpList_append_sl rfl (.tmp 137) (.tmp 141) 23 rfl w.heap.size 22 i0 _ 24 Tryd.underlying23 hi hz0 hz1 hz2 rfl (.slice TA U tc) U (us.map rwv) rfl (own_alloc OW6.out _) (some ⟨w6.heap.size, 0, none⟩) 1 1 [.slice TB tl tb] rfl (fun h => by cases h) (Sl.new_ w6 22 [.slice TB tl tb]) (fun u hu => by simp at hu; subst hu; rfl) (by unfold maxLen; omega) (by omega) (by have := B6.out.size; simp; omega) ?_; intro v7 w7 hown7 hgr7; have A6 := (Below.refl w6.heap.size w6).alloc (Nat.le_refl _) (.cells #[.slice TB tl tb] 22); have B7 := Lib.hid ((B6.out.alloc B6.out.size (.cells #[.slice TB tl tb] 22)).grown hgr7 (by have := B6.out.size; simp; omega) (own_rows OW6.out)); have O7 := Lib.hid hown7; have PO7 := Lib.hid (show ∀ z ∈ us ++ [((TB, tl, tb, 2 :: (eight n ++ xx)) : Rw)], Po w7 z ∧ z.2.2.2.length ≤ 100 from fun z hz => (List.mem_append.1 hz).elim (fun h => ⟨(((O5.out.pcs z h).1.below D6.out).below A6).grown (own_alloc OW6.out _) hgr7, (O5.out.pcs z h).2⟩) (fun h => by have e : z = (TB, tl, tb, 2 :: (eight n ++ xx)) := (by simpa using h); subst e; exact ⟨(P6.out.below A6).grown (own_alloc OW6.out _) hgr7, (by show (2 :: (eight n ++ xx)).length ≤ 100; rw [List.length_cons, List.length_append, eight_len]; have := XL.out; omega)⟩)); obtain ⟨A7, c7, rfl, -, -, -, -, -⟩ := Sl.own hown7; have X7 := Lib.hid (TX.out _ B7.out); clear hown7 hgr7 A6)
      | (go_at_call 20; (with_reducible refine X7.out.mono ?_); rintro e w8 ⟨XB, xb, vs, rfl, o8, hv8, b8⟩; have B8 := Lib.hid (B7.out.trans (b8.mono B7.out.size)); have O8 := Lib.hid (own_below O7.out b8); have PO8 := Lib.hid (fun z hz => (show Po w8 z ∧ z.2.2.2.length ≤ 100 from ⟨(PO7.out z hz).1.below b8, (PO7.out z hz).2⟩)); have V8 := Lib.hid o8; have HV8 := Lib.hid hv8; have hV9 : vs.length ≤ 1000 := (by have h := congrArg List.length hv8; rw [con_len, List.length_append] at h; have h2 := NTX.out; simp at h; omega); clear o8 hv8 b8)
      | (at_builtin; refine wpList_append_sl rfl (.tmp 142) (.tmp 144) 23 rfl w.heap.size 22 i0 _ 24 Tryd.underlying23 hi hz0 hz1 hz2 rfl (.slice A7 (U + 1) c7) (U + 1) (us.map rwv ++ [.slice TB tl tb]) rfl O8.out XB vs.length xb (vs.map rwv) rfl (own_sl V8.out.own).2 (own_sl V8.out.own).1 (rwv_one _) (by unfold maxLen; omega) (by omega) B8.out.size ?_; intro v9 w9 hown9 hgr9; have B9 := Lib.hid (B8.out.grown hgr9 B8.out.size (own_rows O8.out)); have O9 := Lib.hid hown9; have PO9 := Lib.hid (show ∀ z ∈ (us ++ [((TB, tl, tb, 2 :: (eight n ++ xx)) : Rw)]) ++ vs, Po w9 z ∧ z.2.2.2.length ≤ 100 from fun z hz => (List.mem_append.1 hz).elim (fun h => ⟨(PO8.out z h).1.grown O8.out hgr9, (PO8.out z h).2⟩) (fun h => ⟨(V8.out.pcs z h).1.grown O8.out hgr9, (V8.out.pcs z h).2⟩)); obtain ⟨A9, c9, rfl, -, -, -, -, -⟩ := Sl.own hown9; clear hown9 hgr9)
      | (go_at_call 21; (with_reducible refine (Fixed_any _).mono ?_); rintro e w10 ⟨FA, fs, rfl, sf, pf, b10⟩; have SF := Lib.hid sf; have PF := Lib.hid pf; have B10 := Lib.hid (B9.out.trans (b10.mono B9.out.size)); have O10 := Lib.hid (own_below O9.out b10); have PO10 := Lib.hid (fun z hz => (show Po w10 z ∧ z.2.2.2.length ≤ 100 from ⟨(PO9.out z hz).1.below b10, (PO9.out z hz).2⟩)); clear sf pf b10)
      | (at_builtin; refine wpList_append_sl rfl (.tmp 145) (.tmp 146) 23 rfl w.heap.size 22 i0 _ 24 Tryd.underlying23 hi hz0 hz1 hz2 rfl (.slice A9 (U + 1 + vs.length) c9) (U + 1 + vs.length) (us.map rwv ++ [.slice TB tl tb] ++ vs.map rwv) rfl O10.out (some FA) 2 2 (fs.map rwv) rfl (fun h => by cases h) SF.out (rwv_one _) (by unfold maxLen; omega) (by omega) B10.out.size ?_; intro v11 w11 hown11 hgr11; have O11 := Lib.hid hown11; have B11 := Lib.hid (B10.out.grown hgr11 B10.out.size (own_rows O10.out)); have PO11 := Lib.hid (show ∀ z ∈ ((us ++ [((TB, tl, tb, 2 :: (eight n ++ xx)) : Rw)]) ++ vs) ++ fs, Po w11 z ∧ z.2.2.2.length ≤ 100 from fun z hz => (List.mem_append.1 hz).elim (fun h => ⟨(PO10.out z h).1.grown O10.out hgr11, (PO10.out z h).2⟩) (fun h => ⟨(PF.out z h).1.grown O10.out hgr11, (PF.out z h).2⟩)); obtain ⟨A11, c11, rfl, -, -, -, -, -⟩ := Sl.own hown11; clear hown11 hgr11))
    refine (KN.out _ B11.out).mono ?_
    rintro e wk ⟨rfl, bk⟩
    have BK := Lib.hid (B11.out.trans (bk.mono B11.out.size))
    have CT := Lib.hid (Clash_true (c := c11) (w := wk) (B := A11) (m := U + 1 + vs.length + 2) (P := ((us ++ [((TB, tl, tb, 2 :: (eight n ++ xx)) : Rw)]) ++ vs) ++ fs) (by omega) (by have h := (own_sl (own_below O11.out bk)).1; rw [List.map_append, List.map_append, List.map_append]; exact h) (fun r hr => po_small ⟨(PO11.out r hr).1.below bk, (PO11.out r hr).2⟩) (CLA.out.mono fun z hz => by
        rw [show con (((us ++ [((TB, tl, tb, 2 :: (eight n ++ xx)) : Rw)]) ++ vs) ++ fs) = ((con us ++ [2 :: (eight n ++ xx)]) ++ con vs) ++ con fs from by simp [con], HV8.out, H5.out.2.2, show xx = _ from H5.out.2.1]
        exact List.mem_append_left _ hz))
    clear bk
    go_wp2_with fail
    refine CT.out.mono ?_
    rintro e wz ⟨rfl, bz⟩
    have BZ := Lib.hid (BK.out.trans (bz.mono BK.out.size))
    clear bz
    go_wp2_with fail
    go_ret
    exact ⟨rfl, BZ.out⟩
  rw [decide_eq_true hss] at SD
  go_wp2_with fail
  refine SD.out.mono ?_
  rintro e w4' ⟨rfl, b4⟩
  have B4' := Lib.hid (B4.out.trans (b4.below.mono B4.out.size))
  clear b4 SD
  go_wp2_with fail
  refine (RQ.out _ B4'.out).mono ?_
  rintro e wr ⟨A7, n7, c7, us7, rfl, o7, hp7, hc7, b7⟩
  have BR := Lib.hid (B4'.out.trans (b7.mono B4'.out.size))
  have SE := Lib.hid (show Calls Tryd.prog 18 #[.slice A7 n7 c7, .slice Bb m3 c3] wr (fun e w' => e = .returned (.bool (decide (outs (con P) a t2 0 n = con P3))) ∧ Qt wr w') from by
    have hl7 := o7.1
    rw [List.length_map, ← con_len, hc7] at hl7
    have h := Same_dec (A := A7) (c := c7) (d := c3) (m := n7) (n := m3) (xs := us7) (ys := P3) (w := wr) (by omega) (own_sl o7).1 (H3.out.below BR.out).row (fun r h => by
      rcases hp7 r h with h | h
      · exact h.1
      · exact ((H1.out.below BR.out).pcs r h).1) (fun r h => ((H3.out.below BR.out).pcs r h).1)
    rw [hc7] at h
    exact h)
  clear o7 hp7 hc7 b7 RQ
  by_cases hpp : outs (con P) a t2 0 n = con P3
  rotate_left
  · rw [decide_eq_false hpp] at SE
    have CLA := Lib.hid (OR.out.resolve_left (fun h => hpp h.2.2.symm))
    go_wp2_with fail
    refine SE.out.mono ?_
    rintro e wr' ⟨rfl, b8⟩
    have BR' := Lib.hid (BR.out.trans (b8.below.mono BR.out.size))
    clear b8
    go_wp2_with fail
    refine (CM.out _ BR'.out).mono ?_
    rintro e w5 ⟨⟨XA, xn, xc, xx⟩, R5, k5, c5, j5, T5, us, fb, rfl, px, lx, -, hfb, ot, hu, hx, b5⟩
    rw [show rwv ((XA, xn, xc, xx) : Rw) = Value.slice XA xn xc from rfl]
    have B5 := Lib.hid (BR'.out.trans (b5.mono BR'.out.size))
    have O5 := Lib.hid (show OwnT w.heap.size w5 T5 us from ⟨own_base ot.own BR'.out.size, ot.pcs⟩)
    have PX := Lib.hid px
    have XL := Lib.hid (show xx.length ≤ 32 from lx)
    have H5 := Lib.hid (hx HFIT.out)
    obtain ⟨U, hU⟩ : ∃ U, U = us.length := ⟨_, rfl⟩
    have hU9 : U ≤ 4096 := by omega
    obtain ⟨TA, tc, rfl, -, -, -, -, -⟩ := Sl.own ot.own
    rw [← hU]
    have HU := Lib.hid hU
    have OW := Lib.hid (show w5.ownsRow w.heap.size 22 1 (.slice TA U tc) U (us.map rwv) from by rw [hU]; exact O5.out.own)
    have hxn : xn ≤ 32 := by rw [show xn = xx.length from px.len]; exact lx
    have RTX := Lib.hid ((rroot_any n (by omega) px (by omega)).mono fun e w' h => ownB_p (fun z hz => by
      rcases List.mem_cons.1 hz with rfl | hz
      · decide
      · rcases List.mem_append.1 hz with h | h
        · exact eight_lt n z h
        · exact px.lt z h) h)
    clear px lx hfb ot hu hx b5 hU
    go_wp2_with (first
      | (go_at_call 29; (with_reducible refine RTX.out.mono ?_); rintro e w6 ⟨TB, tl, tb, rfl, p6, b6⟩; have D6 := Lib.hid b6; have P6 := Lib.hid p6; have OW6 := Lib.hid (own_below OW.out b6); have B6 := Lib.hid (B5.out.trans (b6.mono B5.out.size)); clear p6 b6 RTX)
      | (at_builtin; refine wpList_append_sl rfl (.tmp 137) (.tmp 141) 23 rfl w.heap.size 22 i0 _ 24 Tryd.underlying23 hi hz0 hz1 hz2 rfl (.slice TA U tc) U (us.map rwv) rfl (own_alloc OW6.out _) (some ⟨w6.heap.size, 0, none⟩) 1 1 [.slice TB tl tb] rfl (fun h => by cases h) (Sl.new_ w6 22 [.slice TB tl tb]) (fun u hu => by simp at hu; subst hu; rfl) (by unfold maxLen; omega) (by omega) (by have := B6.out.size; simp; omega) ?_; intro v7 w7 hown7 hgr7; have A6 := (Below.refl w6.heap.size w6).alloc (Nat.le_refl _) (.cells #[.slice TB tl tb] 22); have B7 := Lib.hid ((B6.out.alloc B6.out.size (.cells #[.slice TB tl tb] 22)).grown hgr7 (by have := B6.out.size; simp; omega) (own_rows OW6.out)); have O7 := Lib.hid hown7; have PO7 := Lib.hid (show ∀ z ∈ us ++ [((TB, tl, tb, 2 :: (eight n ++ xx)) : Rw)], Po w7 z ∧ z.2.2.2.length ≤ 100 from fun z hz => (List.mem_append.1 hz).elim (fun h => ⟨(((O5.out.pcs z h).1.below D6.out).below A6).grown (own_alloc OW6.out _) hgr7, (O5.out.pcs z h).2⟩) (fun h => by have e : z = (TB, tl, tb, 2 :: (eight n ++ xx)) := (by simpa using h); subst e; exact ⟨(P6.out.below A6).grown (own_alloc OW6.out _) hgr7, (by show (2 :: (eight n ++ xx)).length ≤ 100; rw [List.length_cons, List.length_append, eight_len]; have := XL.out; omega)⟩)); obtain ⟨A7, c7, rfl, -, -, -, -, -⟩ := Sl.own hown7; have X7 := Lib.hid (TX.out _ B7.out); clear hown7 hgr7 A6)
      | (go_at_call 20; (with_reducible refine X7.out.mono ?_); rintro e w8 ⟨XB, xb, vs, rfl, o8, hv8, b8⟩; have B8 := Lib.hid (B7.out.trans (b8.mono B7.out.size)); have O8 := Lib.hid (own_below O7.out b8); have PO8 := Lib.hid (fun z hz => (show Po w8 z ∧ z.2.2.2.length ≤ 100 from ⟨(PO7.out z hz).1.below b8, (PO7.out z hz).2⟩)); have V8 := Lib.hid o8; have HV8 := Lib.hid hv8; have hV9 : vs.length ≤ 1000 := (by have h := congrArg List.length hv8; rw [con_len, List.length_append] at h; have h2 := NTX.out; simp at h; omega); clear o8 hv8 b8)
      | (at_builtin; refine wpList_append_sl rfl (.tmp 142) (.tmp 144) 23 rfl w.heap.size 22 i0 _ 24 Tryd.underlying23 hi hz0 hz1 hz2 rfl (.slice A7 (U + 1) c7) (U + 1) (us.map rwv ++ [.slice TB tl tb]) rfl O8.out XB vs.length xb (vs.map rwv) rfl (own_sl V8.out.own).2 (own_sl V8.out.own).1 (rwv_one _) (by unfold maxLen; omega) (by omega) B8.out.size ?_; intro v9 w9 hown9 hgr9; have B9 := Lib.hid (B8.out.grown hgr9 B8.out.size (own_rows O8.out)); have O9 := Lib.hid hown9; have PO9 := Lib.hid (show ∀ z ∈ (us ++ [((TB, tl, tb, 2 :: (eight n ++ xx)) : Rw)]) ++ vs, Po w9 z ∧ z.2.2.2.length ≤ 100 from fun z hz => (List.mem_append.1 hz).elim (fun h => ⟨(PO8.out z h).1.grown O8.out hgr9, (PO8.out z h).2⟩) (fun h => ⟨(V8.out.pcs z h).1.grown O8.out hgr9, (V8.out.pcs z h).2⟩)); obtain ⟨A9, c9, rfl, -, -, -, -, -⟩ := Sl.own hown9; clear hown9 hgr9)
      | (go_at_call 21; (with_reducible refine (Fixed_any _).mono ?_); rintro e w10 ⟨FA, fs, rfl, sf, pf, b10⟩; have SF := Lib.hid sf; have PF := Lib.hid pf; have B10 := Lib.hid (B9.out.trans (b10.mono B9.out.size)); have O10 := Lib.hid (own_below O9.out b10); have PO10 := Lib.hid (fun z hz => (show Po w10 z ∧ z.2.2.2.length ≤ 100 from ⟨(PO9.out z hz).1.below b10, (PO9.out z hz).2⟩)); clear sf pf b10)
      | (at_builtin; refine wpList_append_sl rfl (.tmp 145) (.tmp 146) 23 rfl w.heap.size 22 i0 _ 24 Tryd.underlying23 hi hz0 hz1 hz2 rfl (.slice A9 (U + 1 + vs.length) c9) (U + 1 + vs.length) (us.map rwv ++ [.slice TB tl tb] ++ vs.map rwv) rfl O10.out (some FA) 2 2 (fs.map rwv) rfl (fun h => by cases h) SF.out (rwv_one _) (by unfold maxLen; omega) (by omega) B10.out.size ?_; intro v11 w11 hown11 hgr11; have O11 := Lib.hid hown11; have B11 := Lib.hid (B10.out.grown hgr11 B10.out.size (own_rows O10.out)); have PO11 := Lib.hid (show ∀ z ∈ ((us ++ [((TB, tl, tb, 2 :: (eight n ++ xx)) : Rw)]) ++ vs) ++ fs, Po w11 z ∧ z.2.2.2.length ≤ 100 from fun z hz => (List.mem_append.1 hz).elim (fun h => ⟨(PO10.out z h).1.grown O10.out hgr11, (PO10.out z h).2⟩) (fun h => ⟨(PF.out z h).1.grown O10.out hgr11, (PF.out z h).2⟩)); obtain ⟨A11, c11, rfl, -, -, -, -, -⟩ := Sl.own hown11; clear hown11 hgr11))
    refine (KN.out _ B11.out).mono ?_
    rintro e wk ⟨rfl, bk⟩
    have BK := Lib.hid (B11.out.trans (bk.mono B11.out.size))
    have CT := Lib.hid (Clash_true (c := c11) (w := wk) (B := A11) (m := U + 1 + vs.length + 2) (P := ((us ++ [((TB, tl, tb, 2 :: (eight n ++ xx)) : Rw)]) ++ vs) ++ fs) (by omega) (by have h := (own_sl (own_below O11.out bk)).1; rw [List.map_append, List.map_append, List.map_append]; exact h) (fun r hr => po_small ⟨(PO11.out r hr).1.below bk, (PO11.out r hr).2⟩) (CLA.out.mono fun z hz => by
        rw [show con (((us ++ [((TB, tl, tb, 2 :: (eight n ++ xx)) : Rw)]) ++ vs) ++ fs) = ((con us ++ [2 :: (eight n ++ xx)]) ++ con vs) ++ con fs from by simp [con], HV8.out, H5.out.2.2, show xx = _ from H5.out.2.1]
        exact List.mem_append_left _ hz))
    clear bk
    go_wp2_with fail
    refine CT.out.mono ?_
    rintro e wz ⟨rfl, bz⟩
    have BZ := Lib.hid (BK.out.trans (bz.mono BK.out.size))
    clear bz
    go_wp2_with fail
    go_ret
    exact ⟨rfl, BZ.out⟩
  rw [decide_eq_true hpp] at SE
  go_wp2_with fail
  refine SE.out.mono ?_
  rintro e wr' ⟨rfl, b8⟩
  have BR' := Lib.hid (BR.out.trans (b8.below.mono BR.out.size))
  clear b8
  go_wp2_with fail
  refine (KN.out _ BR'.out).mono ?_
  rintro e wk ⟨rfl, bk⟩
  have BK := Lib.hid (BR'.out.trans (bk.mono BR'.out.size))
  clear bk
  go_wp2_with fail
  go_ret
  exact ⟨rfl, BK.out⟩
end Go.Proofs.YtnnfpmebopgogaaDoor.Mk
