/- Joined texts. -/
import Derived.Test.YtnnfpmebopgogaaDoorQnMoTexts
import Derived.Test.YtnnfpmebopgogaaDoorQnMoClash
import Derived.Test.YtnnfpmebopgogaaDoorQnMpRProveB
import Derived.Test.YtnnfpmebopgogaaDoorQnMkJ
import Derived.Test.YtnnfpmebopgogaaDoorQnMpAmong
import Derived.Test.YtnnfpmebopgogaaDoorQnMkL
set_option linter.unusedVariables false
namespace Go.Proofs.YtnnfpmebopgogaaDoor.Mk
open Go.RowKit Go.Proofs.YtnnfpmebopgogaaDoor.Gn Go.Proofs.YtnnfpmebopgogaaDoor.Fd Go.Deep
theorem badA_or(n p:Int)(nr nx:Nat)(P:List Rw)(h1:nr=32)(h2:nx=32):badA n p nr nx P∨(all32 P=true∧∃a b:Nat,n=a∧p=b∧1≤a∧a≤4096∧b < a):=by
 unfold badA
 cases h:all32 P with
 |false=>exact Or.inl (Or.inr (Or.inr (Or.inr (Or.inr (by simp)))))
 |true =>
  by_cases c1:n < 1
  ·exact Or.inl (Or.inl c1)
  by_cases c2:4096 < n
  ·exact Or.inl (Or.inr (Or.inl c2))
  by_cases c3:p < 0
  ·exact Or.inl (Or.inr (Or.inr (Or.inl c3)))
  by_cases c4:n≤p
  ·exact Or.inl (Or.inr (Or.inr (Or.inr (Or.inl c4))))
  exact Or.inr ⟨rfl,n.toNat,p.toNat,by omega,by omega,by omega,by omega,by omega⟩
theorem checkE_or(n p:Nat)(lr x:List Nat)(ps:List (List Nat)):checkE n p lr x ps=0∨checkE n p lr x ps=50:=by
 unfold checkE
 split
 ·exact Or.inr rfl
 ·split
  ·exact Or.inl rfl
  ·exact Or.inr rfl
theorem po_small{w:World}{r:Rw}(h:Po w r∧r.2.2.2.length≤100):Pc w r∧r.2.2.2.length≤1048576:=⟨h.1.1,by have:=h.2;omega⟩
set_option maxHeartbeats 8000000 in
set_option maxRecDepth 100000 in
theorem walk_merkleOnly {w : World} (ts : Sh.Tab w) (B : Option Addr) (m c : Nat) (P : List Rw) (hP : LL w B m P ∧ m ≤ 9223372036854775807 ∧ m ≤ c) (n : Int) (wn : (Lit.int .i64 n).wf) (p : Int) (wp : (Lit.int .i64 p).wf) (A3 : Option Addr) (m3 c3 : Nat) (x : List Nat) (hx : BL w A3 m3 c3 x) (B4 : Option Addr) (m4 c4 : Nat) (Q : List Rw) (hQ : LL w B4 m4 Q ∧ m4 ≤ 9223372036854775807 ∧ m4 ≤ c4) :
    Calls Tryd.prog 4 #[.slice B m c, .int .i64 n, .int .i64 p, .slice A3 m3 c3, .slice B4 m4 c4] w fun e w' => e = .returned (.bool true) ∧ Below w.heap.size w w' := by
  obtain ⟨i0, hi, hz0, hz1, hz2⟩ := info_parts infobb
  have KN := Lib.hid (fun (w1 : World) (hb : Below w.heap.size w w1) => known_any w1 (ts.below hb))
  have SZ := Lib.hid (show Calls Tryd.prog 7 #[.slice B m c, .int .i64 700] w (SizeQ P m 700 w) from rsize_any (c := c) hP.1.1 (fun r hr => (hP.1.2 r hr).2) hP.2.1 700 (by decide))
  have SY := Lib.hid (show Calls Tryd.prog 7 #[.slice B4 m4 c4, .int .i64 700] w (SizeQ Q m4 700 w) from rsize_any (c := c4) hQ.1.1 (fun r hr => (hQ.1.2 r hr).2) hQ.2.1 700 (by decide))
  have TS := Lib.hid ts
  have PP := Lib.hid (show ∀ S, S ≤ 700 → (m ≤ S ∧ ∀ r ∈ P, r.2.1 ≤ S) → PAny w B m c P ∧ m ≤ 700 from fun S h h2 => ⟨⟨hP.1.1, fun r hr => ⟨bl_pc2 (hP.1.2 r hr).1, by have := h2.2 r hr; omega⟩, by omega, hP.2.2⟩, by omega⟩)
  have QQ := Lib.hid (show ∀ S, S ≤ 700 → (m4 ≤ S ∧ ∀ r ∈ Q, r.2.1 ≤ S) → PAny w B4 m4 c4 Q from fun S h h2 => ⟨hQ.1.1, fun r hr => ⟨bl_pc2 (hQ.1.2 r hr).1, by have := h2.2 r hr; omega⟩, by omega, hQ.2.2⟩)
  have HX := Lib.hid (bl_pc2 hx)
  have wn := wf_i64 wn
  have wp := wf_i64 wp
  have hx9 := hx.2.1
  clear hP hQ ts hx
  go_enter Tryd.func4, Tryd.ntmps4
  go_wp2_with fail
  refine SZ.out.mono ?_
  rintro e w1 ⟨S, rfl, hS, hSm, rfl⟩
  by_cases hbig : 700 < S
  · have q4 : (700 : Int) < (S : Int) := by omega
    clear hS
    go_wp2_with fail
    refine (KN.out _ (Below.refl _ _)).mono ?_
    rintro e wk ⟨rfl, bk⟩
    have BK := Lib.hid bk
    clear bk
    go_wp2_with fail
    go_ret
    exact ⟨rfl, BK.out⟩
  have q4 : ¬ (700 : Int) < (S : Int) := by omega
  have HP := Lib.hid (PP.out S (by omega) (hS (by omega))).1
  have hm7 := (PP.out S (by omega) (hS (by omega))).2
  clear hS hSm PP
  go_wp2_with fail
  refine SY.out.mono ?_
  rintro e w1 ⟨S2, rfl, hS, hSm, rfl⟩
  by_cases hbig2 : 700 < S2
  · have q5 : (700 : Int) < (S2 : Int) := by omega
    clear hS
    go_wp2_with fail
    refine (KN.out _ (Below.refl _ _)).mono ?_
    rintro e wk ⟨rfl, bk⟩
    have BK := Lib.hid bk
    clear bk
    go_wp2_with fail
    go_ret
    exact ⟨rfl, BK.out⟩
  have q5 : ¬ (700 : Int) < (S2 : Int) := by omega
  have HQ := Lib.hid (QQ.out S2 (by omega) (hS (by omega)))
  clear hS hSm QQ
  by_cases h32 : m3 = 32
  rotate_left
  · have q6 : ((m3 : Int) != 32) = true := by rw [bne_iff_ne]; omega
    have q7 : ((m3 : Int) == 32) = false := by rw [beq_eq_false_iff_ne]; omega
    go_wp2_with fail
    refine (KN.out _ (Below.refl _ _)).mono ?_
    rintro e wk ⟨rfl, bk⟩
    have BK := Lib.hid bk
    clear bk
    go_wp2_with fail
    go_ret
    exact ⟨rfl, BK.out⟩
  subst h32
  by_cases ha : all32 P = true
  rotate_left
  · have RB := Lib.hid (Root_bad HP.out (by simpa using ha))
    clear ha
    go_wp2_with fail
    refine RB.out.mono ?_
    rintro e w1 ⟨rfl, b1⟩
    have B1 := Lib.hid b1
    clear b1
    go_wp2_with fail
    refine (KN.out _ B1.out).mono ?_
    rintro e wk ⟨rfl, bk⟩
    have BK := Lib.hid (B1.out.trans (bk.mono B1.out.size))
    clear bk
    go_wp2_with fail
    go_ret
    exact ⟨rfl, BK.out⟩
  have RG := Lib.hid (Root_be HP.out ha TS.out)
  have TX := Lib.hid (fun (wq : World) (hb : Below w.heap.size w wq) => RTexts_any (HP.out.below hb) ha)
  have CON := Lib.hid (HP.out.p32 ha).con32
  have NTX := Lib.hid (show (txtL (con P)).length ≤ 700 from by
    rcases Nat.eq_zero_or_pos m with h0 | h1
    · rw [List.length_eq_zero_iff.1 (show P.length = 0 by rw [HP.out.len, h0]), txtL_one (by simp)]
      exact Nat.zero_le _
    · have h2 := txtL_len _ (con P) (Nat.le_refl _) (by rw [con_len, HP.out.len]; exact h1)
      rw [con_len, HP.out.len] at h2
      omega)
  have PL := Lib.hid (show (con P).length = m from by rw [con_len, HP.out.len])
  have PG := Lib.hid (fun (k : Nat) (hk : k < m) (wq : World) (hb : Below w.heap.size w wq) => RProve_good (HP.out.below hb) ha hk)
  have PX := Lib.hid (fun (k : Nat) (hk : k < m) => show ∃ ad L cl y, B = some ad ∧ w.cell? (ad.add k) = some (.slice L 32 cl) ∧ Pc w (L, 32, cl, y) ∧ y = (con P).getD k [] from by
    have hl := HP.out.len
    obtain ⟨l, hl2⟩ : ∃ l, P[k]? = some l := ⟨P[k], List.getElem?_eq_getElem (by omega)⟩
    have hx0 := (HP.out.p32 ha).pcs l (List.mem_of_getElem? hl2)
    obtain ⟨ad, hB, hcell⟩ := HP.out.row.at_ hk
    rw [List.getElem?_map, hl2] at hcell
    obtain ⟨L, nl, cl, y⟩ := l
    have hnl : nl = 32 := by have := hx0.1.len; rw [hx0.2] at this; exact this
    subst hnl
    exact ⟨ad, L, cl, y, hB, hcell, hx0.1, by rw [List.getD_eq_getElem?_getD, con, List.getElem?_map, hl2]; rfl⟩)
  clear ha
  go_wp2_with fail
  refine RG.out.mono ?_
  rintro e w1 ⟨A5, m5, c5, rfl, p1, b1⟩
  obtain rfl : m5 = 32 := p1.len.trans (dg32_len _)
  have P1 := Lib.hid p1
  have B1 := Lib.hid b1
  clear p1 b1 RG
  rcases badA_or n p 32 32 Q rfl rfl with hbad | ⟨haQ, n, p, rfl, rfl, hn1, hn2, hpn⟩
  · have CB := Lib.hid (check_bad P1.out (HX.out.below B1.out) (HQ.out.below B1.out) (by decide) (by decide) hbad)
    clear hbad
    go_wp2_with fail
    refine CB.out.mono ?_
    rintro e w2 ⟨rfl, b2⟩
    have B2 := Lib.hid (B1.out.trans (b2.mono B1.out.size))
    clear b2
    go_wp2_with fail
    refine (KN.out _ B2.out).mono ?_
    rintro e wk ⟨rfl, bk⟩
    have BK := Lib.hid (B2.out.trans (bk.mono B2.out.size))
    clear bk
    go_wp2_with fail
    go_ret
    exact ⟨rfl, BK.out⟩
  have CO := Lib.hid (check_ok P1.out (HX.out.below B1.out) (HQ.out.below B1.out) haQ hn1 hn2 hpn (TS.out.below B1.out))
  rcases checkE_or n p (rootOf m (topL (con P))) x (con Q) with hE | hE
  rotate_left
  · rw [hE] at CO
    clear hE
    go_wp2_with fail
    refine CO.out.mono ?_
    rintro e w2 ⟨rfl, b2⟩
    have B2 := Lib.hid (B1.out.trans (b2.mono B1.out.size))
    clear b2
    go_wp2_with fail
    refine (KN.out _ B2.out).mono ?_
    rintro e wk ⟨rfl, bk⟩
    have BK := Lib.hid (B2.out.trans (bk.mono B2.out.size))
    clear bk
    go_wp2_with fail
    go_ret
    exact ⟨rfl, BK.out⟩
  have OR := only_root (ps := con P) (n := n) (p := p) (x := x) (pr := con Q) (by rw [PL.out]; omega) CON.out hn1 hn2 hpn (show x.length = 32 from HX.out.len.symm) (HQ.out.p32 haQ).con32 (by rw [PL.out]; exact hE)
  rw [PL.out] at OR
  have HL := Lib.hid OR.1
  have OR := Lib.hid OR.2
  have WY := Lib.hid (fun (wq : World) (hb : Below w.heap.size w wq) => rway_any hn1 hn2 hpn ((HQ.out.below hb).p32 haQ) (HX.out.below hb))
  have QP := Lib.hid (fun (wq : World) (hb : Below w.heap.size w wq) => (HQ.out.below hb).p32 haQ)
  rw [hE] at CO
  clear hE haQ
  go_wp2_with fail
  refine CO.out.mono ?_
  rintro e w2 ⟨rfl, b2⟩
  have B2 := Lib.hid (B1.out.trans (b2.mono B1.out.size))
  clear b2 CO P1
  generalize hps : con P = ps at *
  have HPS := Lib.hid hps
  clear hps
  by_cases hnm : n = m
  rotate_left
  · have q8 : ((n : Int) == (m : Int)) = false := by rw [beq_eq_false_iff_ne]; omega
    have CLA := Lib.hid (OR.out.resolve_left (fun h => hnm h.1))
    go_wp2_with fail
    refine (WY.out _ B2.out).mono ?_
    rintro e w5 ⟨TA, K, tc, ws, t, fb, rfl, hfb, o5, hK, hK2, h5, b5⟩
    have B5 := Lib.hid (B2.out.trans (b5.mono B2.out.size))
    have O5 := Lib.hid o5
    have H5 := Lib.hid (h5 HL.out)
    have WK := Lib.hid (show (ws ++ [t]).length = K + 1 from by rw [List.length_append, hK]; rfl)
    clear hfb o5 hK h5 b5
    go_wp2_with fail
    refine (TX.out _ B5.out).mono ?_
    rintro e w6 ⟨XA, xc, xs, rfl, o6, hx6, b6⟩
    have B6 := Lib.hid (B5.out.trans (b6.mono B5.out.size))
    have O6 := Lib.hid (show OwnT w.heap.size w6 (.slice XA xs.length xc) xs from ⟨own_base o6.own B5.out.size, o6.pcs⟩)
    have O56 := Lib.hid (O5.out.below b6)
    have HX6 := Lib.hid hx6
    obtain ⟨X, hX⟩ : ∃ X, X = xs.length := ⟨_, rfl⟩
    have hX7 : X ≤ 10000 := by have h := congrArg List.length hx6; rw [con_len, List.length_append] at h; have h2 := NTX.out; simp at h; omega
    rw [← hX]
    have HX7 := Lib.hid hX
    have OWX := Lib.hid (show w6.ownsRow w.heap.size 22 1 (.slice XA X xc) X (xs.map rwv) from by rw [HX7.out]; exact O6.out.own)
    have OWT := Lib.hid (show w6.ownsRow _ 22 1 (.slice TA (K + 1) tc) (K + 1) ((ws ++ [t]).map rwv) from by have h := O56.out.own; rwa [WK.out] at h)
    clear o6 hx6 b6 hX
    go_wp2_with (first
      | (at_builtin; refine wpList_append_sl rfl (.tmp 87) (.tmp 88) 23 rfl w.heap.size 22 i0 _ 24 Tryd.underlying23 hi hz0 hz1 hz2 rfl (.slice XA X xc) X (xs.map rwv) rfl OWX.out TA (K + 1) tc ((ws ++ [t]).map rwv) rfl (own_sl OWT.out).2 (own_sl OWT.out).1 (rwv_one _) (by unfold maxLen; omega) (by omega) B6.out.size ?_; intro v7 w7 hown7 hgr7; have O7 := Lib.hid hown7; have B7 := Lib.hid (B6.out.grown hgr7 B6.out.size (own_rows OWX.out)); have PO7 := Lib.hid (show ∀ z ∈ xs ++ (ws ++ [t]), Po w7 z ∧ z.2.2.2.length ≤ 100 from fun z hz => (List.mem_append.1 hz).elim (fun h => ⟨(O6.out.pcs z h).1.grown OWX.out hgr7, (O6.out.pcs z h).2⟩) (fun h => ⟨(O56.out.pcs z h).1.grown OWX.out hgr7, (O56.out.pcs z h).2⟩)); obtain ⟨A7, c7, rfl, -, -, -, -, -⟩ := Sl.own hown7; clear hown7 hgr7)
      | (go_at_call 21; (with_reducible refine (Fixed_any _).mono ?_); rintro e w8 ⟨FA, fs, rfl, sf, pf, b8⟩; have SF := Lib.hid sf; have PF := Lib.hid pf; have B8 := Lib.hid (B7.out.trans (b8.mono B7.out.size)); have O8 := Lib.hid (own_below O7.out b8); have PO8 := Lib.hid (fun z hz => (show Po w8 z ∧ z.2.2.2.length ≤ 100 from ⟨(PO7.out z hz).1.below b8, (PO7.out z hz).2⟩)); clear sf pf b8)
      | (at_builtin; refine wpList_append_sl rfl (.tmp 89) (.tmp 90) 23 rfl w.heap.size 22 i0 _ 24 Tryd.underlying23 hi hz0 hz1 hz2 rfl (.slice A7 (X + (K + 1)) c7) (X + (K + 1)) (xs.map rwv ++ (ws ++ [t]).map rwv) rfl O8.out (some FA) 2 2 (fs.map rwv) rfl (fun h => by cases h) SF.out (rwv_one _) (by unfold maxLen; omega) (by omega) B8.out.size ?_; intro v9 w9 hown9 hgr9; have O9 := Lib.hid hown9; have B9 := Lib.hid (B8.out.grown hgr9 B8.out.size (own_rows O8.out)); have PO9 := Lib.hid (show ∀ z ∈ (xs ++ (ws ++ [t])) ++ fs, Po w9 z ∧ z.2.2.2.length ≤ 100 from fun z hz => (List.mem_append.1 hz).elim (fun h => ⟨(PO8.out z h).1.grown O8.out hgr9, (PO8.out z h).2⟩) (fun h => ⟨(PF.out z h).1.grown O8.out hgr9, (PF.out z h).2⟩)); obtain ⟨A9, c9, rfl, -, -, -, -, -⟩ := Sl.own hown9; clear hown9 hgr9))
    refine (KN.out _ B9.out).mono ?_
    rintro e wk ⟨rfl, bk⟩
    have BK := Lib.hid (B9.out.trans (bk.mono B9.out.size))
    have CT := Lib.hid (Clash_true (c := c9) (w := wk) (B := A9) (m := X + (K + 1) + 2) (P := (xs ++ (ws ++ [t])) ++ fs) (by omega) (by have h := (own_sl (own_below O9.out bk)).1; rwa [← List.map_append, ← List.map_append] at h) (fun r hr => po_small ⟨(PO9.out r hr).1.below bk, (PO9.out r hr).2⟩) (CLA.out.mono fun a ha => by
        rw [show con ((xs ++ (ws ++ [t])) ++ fs) = (con xs ++ (con ws ++ [t.2.2.2])) ++ con fs from by simp [con], HX6.out, H5.out.1, H5.out.2]
        exact List.mem_append_left _ ha))
    clear bk
    go_wp2_with fail
    refine CT.out.mono ?_
    rintro e wz ⟨rfl, bz⟩
    have BZ := Lib.hid (BK.out.trans (bz.mono BK.out.size))
    clear bz
    go_wp2_with fail
    go_ret
    exact ⟨rfl, BZ.out⟩
  subst hnm
  obtain ⟨ad, L, cl, y, rfl, hcell, hyp, hyc⟩ := PX.out p hpn
  have hc2 : w2.cell? (ad.add p) = some (.slice L 32 cl) := keepc B2.out hcell
  have q9 : (0 : Int) ≤ (p : Int) := by omega
  have q10 : (p : Int) < (n : Int) := by omega
  have PG2 := Lib.hid (PG.out p hpn)
  have HY := Lib.hid hyp
  have HYC := Lib.hid hyc
  have HCE := Lib.hid hcell
  clear PX PG hcell hyp hyc
  go_wp2_with fail
  refine (PG2.out _ B2.out).mono ?_
  rintro e w3 ⟨A6, m6, c6, us, rfl, o3, hul, hps3, hc3, b3⟩
  have B3 := Lib.hid (B2.out.trans (b3.mono B2.out.size))
  have hc3' : w3.cell? (ad.add p) = some (.slice L 32 cl) := keepc B3.out HCE.out
  have hfew : m4 ≤ 1500 := HQ.out.few
  have SD := Lib.hid (show Calls Tryd.prog 18 #[.slice B4 m4 c4, .slice A6 m6 c6] w3 (fun e w' => e = .returned (.bool (decide (con Q = pathL ps p))) ∧ Qt w3 w') from by
    have h := Same_dec (A := B4) (c := c4) (d := c6) (m := m4) (n := m6) (xs := Q) (ys := us) (w := w3) (by omega) (HQ.out.below B3.out).row (own_sl o3).1 (fun r h => ((HQ.out.below B3.out).pcs r h).1) (fun r h => by
      rcases hps3 r h with h | h
      · exact h.1
      · exact ((HP.out.below B3.out).pcs r h).1)
    rw [hc3] at h
    exact h)
  have SM := Lib.hid (same_pc (HX.out.below B3.out) (HY.out.below B3.out))
  clear o3 hul hps3 hc3 b3 PG2 hc2
  by_cases hxy : x = y
  rotate_left
  · rw [decide_eq_false hxy] at SM
    have CLA := Lib.hid (OR.out.resolve_left (fun h => hxy (by rw [HYC.out]; exact h.2.1)))
    go_wp2_with fail
    refine SM.out.mono ?_
    rintro e w3' ⟨rfl, rfl⟩
    go_wp2_with fail
    refine (WY.out _ B3.out).mono ?_
    rintro e w5 ⟨TA, K, tc, ws, t, fb, rfl, hfb, o5, hK, hK2, h5, b5⟩
    have B5 := Lib.hid (B3.out.trans (b5.mono B3.out.size))
    have O5 := Lib.hid o5
    have H5 := Lib.hid (h5 HL.out)
    have WK := Lib.hid (show (ws ++ [t]).length = K + 1 from by rw [List.length_append, hK]; rfl)
    clear hfb o5 hK h5 b5
    go_wp2_with fail
    refine (TX.out _ B5.out).mono ?_
    rintro e w6 ⟨XA, xc, xs, rfl, o6, hx6, b6⟩
    have B6 := Lib.hid (B5.out.trans (b6.mono B5.out.size))
    have O6 := Lib.hid (show OwnT w.heap.size w6 (.slice XA xs.length xc) xs from ⟨own_base o6.own B5.out.size, o6.pcs⟩)
    have O56 := Lib.hid (O5.out.below b6)
    have HX6 := Lib.hid hx6
    obtain ⟨X, hX⟩ : ∃ X, X = xs.length := ⟨_, rfl⟩
    have hX7 : X ≤ 10000 := by have h := congrArg List.length hx6; rw [con_len, List.length_append] at h; have h2 := NTX.out; simp at h; omega
    rw [← hX]
    have HX7 := Lib.hid hX
    have OWX := Lib.hid (show w6.ownsRow w.heap.size 22 1 (.slice XA X xc) X (xs.map rwv) from by rw [HX7.out]; exact O6.out.own)
    have OWT := Lib.hid (show w6.ownsRow _ 22 1 (.slice TA (K + 1) tc) (K + 1) ((ws ++ [t]).map rwv) from by have h := O56.out.own; rwa [WK.out] at h)
    clear o6 hx6 b6 hX
    go_wp2_with (first
      | (at_builtin; refine wpList_append_sl rfl (.tmp 87) (.tmp 88) 23 rfl w.heap.size 22 i0 _ 24 Tryd.underlying23 hi hz0 hz1 hz2 rfl (.slice XA X xc) X (xs.map rwv) rfl OWX.out TA (K + 1) tc ((ws ++ [t]).map rwv) rfl (own_sl OWT.out).2 (own_sl OWT.out).1 (rwv_one _) (by unfold maxLen; omega) (by omega) B6.out.size ?_; intro v7 w7 hown7 hgr7; have O7 := Lib.hid hown7; have B7 := Lib.hid (B6.out.grown hgr7 B6.out.size (own_rows OWX.out)); have PO7 := Lib.hid (show ∀ z ∈ xs ++ (ws ++ [t]), Po w7 z ∧ z.2.2.2.length ≤ 100 from fun z hz => (List.mem_append.1 hz).elim (fun h => ⟨(O6.out.pcs z h).1.grown OWX.out hgr7, (O6.out.pcs z h).2⟩) (fun h => ⟨(O56.out.pcs z h).1.grown OWX.out hgr7, (O56.out.pcs z h).2⟩)); obtain ⟨A7, c7, rfl, -, -, -, -, -⟩ := Sl.own hown7; clear hown7 hgr7)
      | (go_at_call 21; (with_reducible refine (Fixed_any _).mono ?_); rintro e w8 ⟨FA, fs, rfl, sf, pf, b8⟩; have SF := Lib.hid sf; have PF := Lib.hid pf; have B8 := Lib.hid (B7.out.trans (b8.mono B7.out.size)); have O8 := Lib.hid (own_below O7.out b8); have PO8 := Lib.hid (fun z hz => (show Po w8 z ∧ z.2.2.2.length ≤ 100 from ⟨(PO7.out z hz).1.below b8, (PO7.out z hz).2⟩)); clear sf pf b8)
      | (at_builtin; refine wpList_append_sl rfl (.tmp 89) (.tmp 90) 23 rfl w.heap.size 22 i0 _ 24 Tryd.underlying23 hi hz0 hz1 hz2 rfl (.slice A7 (X + (K + 1)) c7) (X + (K + 1)) (xs.map rwv ++ (ws ++ [t]).map rwv) rfl O8.out (some FA) 2 2 (fs.map rwv) rfl (fun h => by cases h) SF.out (rwv_one _) (by unfold maxLen; omega) (by omega) B8.out.size ?_; intro v9 w9 hown9 hgr9; have O9 := Lib.hid hown9; have B9 := Lib.hid (B8.out.grown hgr9 B8.out.size (own_rows O8.out)); have PO9 := Lib.hid (show ∀ z ∈ (xs ++ (ws ++ [t])) ++ fs, Po w9 z ∧ z.2.2.2.length ≤ 100 from fun z hz => (List.mem_append.1 hz).elim (fun h => ⟨(PO8.out z h).1.grown O8.out hgr9, (PO8.out z h).2⟩) (fun h => ⟨(PF.out z h).1.grown O8.out hgr9, (PF.out z h).2⟩)); obtain ⟨A9, c9, rfl, -, -, -, -, -⟩ := Sl.own hown9; clear hown9 hgr9))
    refine (KN.out _ B9.out).mono ?_
    rintro e wk ⟨rfl, bk⟩
    have BK := Lib.hid (B9.out.trans (bk.mono B9.out.size))
    have CT := Lib.hid (Clash_true (c := c9) (w := wk) (B := A9) (m := X + (K + 1) + 2) (P := (xs ++ (ws ++ [t])) ++ fs) (by omega) (by have h := (own_sl (own_below O9.out bk)).1; rwa [← List.map_append, ← List.map_append] at h) (fun r hr => po_small ⟨(PO9.out r hr).1.below bk, (PO9.out r hr).2⟩) (CLA.out.mono fun a ha => by
        rw [show con ((xs ++ (ws ++ [t])) ++ fs) = (con xs ++ (con ws ++ [t.2.2.2])) ++ con fs from by simp [con], HX6.out, H5.out.1, H5.out.2]
        exact List.mem_append_left _ ha))
    clear bk
    go_wp2_with fail
    refine CT.out.mono ?_
    rintro e wz ⟨rfl, bz⟩
    have BZ := Lib.hid (BK.out.trans (bz.mono BK.out.size))
    clear bz
    go_wp2_with fail
    go_ret
    exact ⟨rfl, BZ.out⟩
  rw [decide_eq_true hxy] at SM
  by_cases hqq : con Q = pathL ps p
  rotate_left
  · rw [decide_eq_false hqq] at SD
    have CLA := Lib.hid (OR.out.resolve_left (fun h => hqq h.2.2))
    go_wp2_with fail
    refine SM.out.mono ?_
    rintro e w3' ⟨rfl, rfl⟩
    go_wp2_with fail
    refine SD.out.mono ?_
    rintro e w4 ⟨rfl, b4⟩
    have B4' := Lib.hid (B3.out.trans (b4.below.mono B3.out.size))
    clear b4
    go_wp2_with fail
    refine (WY.out _ B4'.out).mono ?_
    rintro e w5 ⟨TA, K, tc, ws, t, fb, rfl, hfb, o5, hK, hK2, h5, b5⟩
    have B5 := Lib.hid (B4'.out.trans (b5.mono B4'.out.size))
    have O5 := Lib.hid o5
    have H5 := Lib.hid (h5 HL.out)
    have WK := Lib.hid (show (ws ++ [t]).length = K + 1 from by rw [List.length_append, hK]; rfl)
    clear hfb o5 hK h5 b5
    go_wp2_with fail
    refine (TX.out _ B5.out).mono ?_
    rintro e w6 ⟨XA, xc, xs, rfl, o6, hx6, b6⟩
    have B6 := Lib.hid (B5.out.trans (b6.mono B5.out.size))
    have O6 := Lib.hid (show OwnT w.heap.size w6 (.slice XA xs.length xc) xs from ⟨own_base o6.own B5.out.size, o6.pcs⟩)
    have O56 := Lib.hid (O5.out.below b6)
    have HX6 := Lib.hid hx6
    obtain ⟨X, hX⟩ : ∃ X, X = xs.length := ⟨_, rfl⟩
    have hX7 : X ≤ 10000 := by have h := congrArg List.length hx6; rw [con_len, List.length_append] at h; have h2 := NTX.out; simp at h; omega
    rw [← hX]
    have HX7 := Lib.hid hX
    have OWX := Lib.hid (show w6.ownsRow w.heap.size 22 1 (.slice XA X xc) X (xs.map rwv) from by rw [HX7.out]; exact O6.out.own)
    have OWT := Lib.hid (show w6.ownsRow _ 22 1 (.slice TA (K + 1) tc) (K + 1) ((ws ++ [t]).map rwv) from by have h := O56.out.own; rwa [WK.out] at h)
    clear o6 hx6 b6 hX
    go_wp2_with (first
      | (at_builtin; refine wpList_append_sl rfl (.tmp 87) (.tmp 88) 23 rfl w.heap.size 22 i0 _ 24 Tryd.underlying23 hi hz0 hz1 hz2 rfl (.slice XA X xc) X (xs.map rwv) rfl OWX.out TA (K + 1) tc ((ws ++ [t]).map rwv) rfl (own_sl OWT.out).2 (own_sl OWT.out).1 (rwv_one _) (by unfold maxLen; omega) (by omega) B6.out.size ?_; intro v7 w7 hown7 hgr7; have O7 := Lib.hid hown7; have B7 := Lib.hid (B6.out.grown hgr7 B6.out.size (own_rows OWX.out)); have PO7 := Lib.hid (show ∀ z ∈ xs ++ (ws ++ [t]), Po w7 z ∧ z.2.2.2.length ≤ 100 from fun z hz => (List.mem_append.1 hz).elim (fun h => ⟨(O6.out.pcs z h).1.grown OWX.out hgr7, (O6.out.pcs z h).2⟩) (fun h => ⟨(O56.out.pcs z h).1.grown OWX.out hgr7, (O56.out.pcs z h).2⟩)); obtain ⟨A7, c7, rfl, -, -, -, -, -⟩ := Sl.own hown7; clear hown7 hgr7)
      | (go_at_call 21; (with_reducible refine (Fixed_any _).mono ?_); rintro e w8 ⟨FA, fs, rfl, sf, pf, b8⟩; have SF := Lib.hid sf; have PF := Lib.hid pf; have B8 := Lib.hid (B7.out.trans (b8.mono B7.out.size)); have O8 := Lib.hid (own_below O7.out b8); have PO8 := Lib.hid (fun z hz => (show Po w8 z ∧ z.2.2.2.length ≤ 100 from ⟨(PO7.out z hz).1.below b8, (PO7.out z hz).2⟩)); clear sf pf b8)
      | (at_builtin; refine wpList_append_sl rfl (.tmp 89) (.tmp 90) 23 rfl w.heap.size 22 i0 _ 24 Tryd.underlying23 hi hz0 hz1 hz2 rfl (.slice A7 (X + (K + 1)) c7) (X + (K + 1)) (xs.map rwv ++ (ws ++ [t]).map rwv) rfl O8.out (some FA) 2 2 (fs.map rwv) rfl (fun h => by cases h) SF.out (rwv_one _) (by unfold maxLen; omega) (by omega) B8.out.size ?_; intro v9 w9 hown9 hgr9; have O9 := Lib.hid hown9; have B9 := Lib.hid (B8.out.grown hgr9 B8.out.size (own_rows O8.out)); have PO9 := Lib.hid (show ∀ z ∈ (xs ++ (ws ++ [t])) ++ fs, Po w9 z ∧ z.2.2.2.length ≤ 100 from fun z hz => (List.mem_append.1 hz).elim (fun h => ⟨(PO8.out z h).1.grown O8.out hgr9, (PO8.out z h).2⟩) (fun h => ⟨(PF.out z h).1.grown O8.out hgr9, (PF.out z h).2⟩)); obtain ⟨A9, c9, rfl, -, -, -, -, -⟩ := Sl.own hown9; clear hown9 hgr9))
    refine (KN.out _ B9.out).mono ?_
    rintro e wk ⟨rfl, bk⟩
    have BK := Lib.hid (B9.out.trans (bk.mono B9.out.size))
    have CT := Lib.hid (Clash_true (c := c9) (w := wk) (B := A9) (m := X + (K + 1) + 2) (P := (xs ++ (ws ++ [t])) ++ fs) (by omega) (by have h := (own_sl (own_below O9.out bk)).1; rwa [← List.map_append, ← List.map_append] at h) (fun r hr => po_small ⟨(PO9.out r hr).1.below bk, (PO9.out r hr).2⟩) (CLA.out.mono fun a ha => by
        rw [show con ((xs ++ (ws ++ [t])) ++ fs) = (con xs ++ (con ws ++ [t.2.2.2])) ++ con fs from by simp [con], HX6.out, H5.out.1, H5.out.2]
        exact List.mem_append_left _ ha))
    clear bk
    go_wp2_with fail
    refine CT.out.mono ?_
    rintro e wz ⟨rfl, bz⟩
    have BZ := Lib.hid (BK.out.trans (bz.mono BK.out.size))
    clear bz
    go_wp2_with fail
    go_ret
    exact ⟨rfl, BZ.out⟩
  rw [decide_eq_true hqq] at SD
  go_wp2_with fail
  refine SM.out.mono ?_
  rintro e w3' ⟨rfl, rfl⟩
  go_wp2_with fail
  refine SD.out.mono ?_
  rintro e w4 ⟨rfl, b4⟩
  have B4' := Lib.hid (B3.out.trans (b4.below.mono B3.out.size))
  clear b4
  go_wp2_with fail
  refine (WY.out _ B4'.out).mono ?_
  rintro e w5 ⟨TA, K, tc, ws, t, fb, rfl, hfb, o5, hK, hK2, h5, b5⟩
  have B5 := Lib.hid (B4'.out.trans (b5.mono B4'.out.size))
  have O5 := Lib.hid o5
  have H5 := Lib.hid (h5 HL.out)
  have WK := Lib.hid (show (ws ++ [t]).length = K + 1 from by rw [List.length_append, hK]; rfl)
  clear hfb o5 hK h5 b5
  go_wp2_with fail
  refine (TX.out _ B5.out).mono ?_
  rintro e w6 ⟨XA, xc, xs, rfl, o6, hx6, b6⟩
  have B6 := Lib.hid (B5.out.trans (b6.mono B5.out.size))
  have O6 := Lib.hid (show OwnT w.heap.size w6 (.slice XA xs.length xc) xs from ⟨own_base o6.own B5.out.size, o6.pcs⟩)
  have O56 := Lib.hid (O5.out.below b6)
  have HX6 := Lib.hid hx6
  obtain ⟨X, hX⟩ : ∃ X, X = xs.length := ⟨_, rfl⟩
  have hX7 : X ≤ 10000 := by have h := congrArg List.length hx6; rw [con_len, List.length_append] at h; have h2 := NTX.out; simp at h; omega
  rw [← hX]
  have HX7 := Lib.hid hX
  have OWX := Lib.hid (show w6.ownsRow w.heap.size 22 1 (.slice XA X xc) X (xs.map rwv) from by rw [HX7.out]; exact O6.out.own)
  have OWT := Lib.hid (show w6.ownsRow _ 22 1 (.slice TA (K + 1) tc) (K + 1) ((ws ++ [t]).map rwv) from by have h := O56.out.own; rwa [WK.out] at h)
  clear o6 hx6 b6 hX
  go_wp2_with (first
    | (at_builtin; refine wpList_append_sl rfl (.tmp 87) (.tmp 88) 23 rfl w.heap.size 22 i0 _ 24 Tryd.underlying23 hi hz0 hz1 hz2 rfl (.slice XA X xc) X (xs.map rwv) rfl OWX.out TA (K + 1) tc ((ws ++ [t]).map rwv) rfl (own_sl OWT.out).2 (own_sl OWT.out).1 (rwv_one _) (by unfold maxLen; omega) (by omega) B6.out.size ?_; intro v7 w7 hown7 hgr7; have O7 := Lib.hid hown7; have B7 := Lib.hid (B6.out.grown hgr7 B6.out.size (own_rows OWX.out)); have PO7 := Lib.hid (show ∀ z ∈ xs ++ (ws ++ [t]), Po w7 z ∧ z.2.2.2.length ≤ 100 from fun z hz => (List.mem_append.1 hz).elim (fun h => ⟨(O6.out.pcs z h).1.grown OWX.out hgr7, (O6.out.pcs z h).2⟩) (fun h => ⟨(O56.out.pcs z h).1.grown OWX.out hgr7, (O56.out.pcs z h).2⟩)); obtain ⟨A7, c7, rfl, -, -, -, -, -⟩ := Sl.own hown7; clear hown7 hgr7)
    | (go_at_call 21; (with_reducible refine (Fixed_any _).mono ?_); rintro e w8 ⟨FA, fs, rfl, sf, pf, b8⟩; have SF := Lib.hid sf; have PF := Lib.hid pf; have B8 := Lib.hid (B7.out.trans (b8.mono B7.out.size)); have O8 := Lib.hid (own_below O7.out b8); have PO8 := Lib.hid (fun z hz => (show Po w8 z ∧ z.2.2.2.length ≤ 100 from ⟨(PO7.out z hz).1.below b8, (PO7.out z hz).2⟩)); clear sf pf b8)
    | (at_builtin; refine wpList_append_sl rfl (.tmp 89) (.tmp 90) 23 rfl w.heap.size 22 i0 _ 24 Tryd.underlying23 hi hz0 hz1 hz2 rfl (.slice A7 (X + (K + 1)) c7) (X + (K + 1)) (xs.map rwv ++ (ws ++ [t]).map rwv) rfl O8.out (some FA) 2 2 (fs.map rwv) rfl (fun h => by cases h) SF.out (rwv_one _) (by unfold maxLen; omega) (by omega) B8.out.size ?_; intro v9 w9 hown9 hgr9; have O9 := Lib.hid hown9; have B9 := Lib.hid (B8.out.grown hgr9 B8.out.size (own_rows O8.out)); have PO9 := Lib.hid (show ∀ z ∈ (xs ++ (ws ++ [t])) ++ fs, Po w9 z ∧ z.2.2.2.length ≤ 100 from fun z hz => (List.mem_append.1 hz).elim (fun h => ⟨(PO8.out z h).1.grown O8.out hgr9, (PO8.out z h).2⟩) (fun h => ⟨(PF.out z h).1.grown O8.out hgr9, (PF.out z h).2⟩)); obtain ⟨A9, c9, rfl, -, -, -, -, -⟩ := Sl.own hown9; clear hown9 hgr9))
  refine (KN.out _ B9.out).mono ?_
  rintro e wk ⟨rfl, bk⟩
  have BK := Lib.hid (B9.out.trans (bk.mono B9.out.size))
  clear bk
  go_wp2_with fail
  go_ret
  exact ⟨rfl, BK.out⟩
end Go.Proofs.YtnnfpmebopgogaaDoor.Mk
