/- Joined texts. -/
import Derived.Laws.CopyOwn
import Derived.Deep.Cut
import Derived.Test.YtjimhjfjfpeojaaGreatDoorQvRaA
set_option maxRecDepth 100000
set_option maxHeartbeats 8000000
set_option linter.unusedVariables false
namespace Go.Proofs.YtjimhjfjfpeojaaGreatDoor.Fd
open Go.RowKit Go.Proofs.YtjimhjfjfpeojaaGreatDoor.Gn Go.Deep
theorem size64:(Tryz.prog.info? 24).map (·.size)=some 1:=by kernel_rfl
theorem Zai(w:World):Calls Tryz.prog 87 #[] w (RetN pp w):=by
 have B:=Lib.hid (Bl.new_ w 24 (nl ppl).toArray)
 have D:=Lib.hid ((Below.refl w.heap.size w).alloc (Nat.le_refl _) (.cells (nl ppl).toArray 24))
 have HE:=Lib.hid Z69
 go_enter Tryz.func87,Tryz.ntmps87
 go_wp2
 go_ret
 exact⟨_,16,16,rfl,by rw[HE.out];exact Z32 B.out rfl,Nat.le_refl _,D.out⟩
theorem Zlu(ad:Addr):ad.add 15=⟨ad.block,ad.off+15,none⟩:=rfl
theorem Z0g{W a b:World}{n:Nat}(h:Below n W a)(hn:n≤W.heap.size)(k:Below a.heap.size a b):Below n W b:=h.trans (k.mono (Nat.le_trans hn h.size))
theorem Z0y{a b:Nat}(h:a≤b):(dg a).length≤(dg b).length:=Z1c (Nat.lt_of_le_of_lt h ((dg_len b _).1 (Nat.le_refl _)))
def Zk3(M:Nat)(w0:World)(n:Nat)(a:Value)(wr:World):Prop :=
 ∃(m k c:Nat) (A:Option Addr),a=.slice A k c∧Sl wr A k (nl (dg m))∧k≤c∧k≤1000∧m%pp=M%pp∧m < n∧Below w0.heap.size w0 wr
def Zp8(Q N k g:Nat)(w0:World)(i:Value)(wr:World):Prop :=
 ∃j:Nat,15≤j∧j≤k∧i=.int .i64 (j:Int)∧Bl wr g 24 (nl (dgk Q N (j - 15))).toArray∧Below g w0 wr
theorem Zaj (A : Option Addr) (n c : Nat) (M : Nat) (w : World) (hn : n ≤ 1000) (hc : n ≤ c) (ha : Sl w A n (nl (dg M))) :
    Calls Tryz.prog 93 #[.slice A n c] w (RetN (M % pp) w) := by
  have R0 := Lib.hid (show Zk3 M w (M + 1) (.slice A n c) w from ⟨M, n, c, A, rfl, ha, hc, hn, rfl, Nat.lt_succ_self _, Below.refl _ _⟩)
  have hmk16 := fun w => (show Sem.run Tryz.prog (Instr.makeSlice 32 (.int .i64 16) (.int .i64 16)) w = _ from Z6d 16 (by decide) w)
  clear ha hc hn
  go_enter Tryz.func93, Tryz.ntmps93
  go_wp2_with fail
  go_loopg [0] (M + 1) (fun n a wr => Zk3 M w n a wr)
  case atStart => exact R0.out
  case round =>
    clear R0
    obtain ⟨wo, rfl⟩ : ∃ wo : World, wo = wr := ⟨_, rfl⟩
    obtain ⟨go, rfl⟩ : ∃ go : Nat, go = gk := ⟨_, rfl⟩
    obtain ⟨m, k, c, A, rfl, hsl, hkc, hk, hmod, hmn, hbw⟩ := hrel
    have S0 := Lib.hid hsl
    have HM := Lib.hid hmod
    have HMN := Lib.hid hmn
    have W0 := Lib.hid hbw
    have HK := Lib.hid (Z09 hsl)
    clear hsl hmod hmn hbw
    by_cases hbig : P255 ≤ m
    · have k16 : 16 ≤ k := by
        rcases Nat.lt_or_ge k 16 with h | h
        · have h1 := Z4i (m := m) (by rw [HK.out]; exact h)
          have := Z3f; omega
        · exact h
      have HB := Lib.hid hbig
      clear hbig
      cases A with
      | none => obtain ⟨ad, h, -⟩ := S0.out.at_ (k := 0) (by omega); cases h
      | some ad =>
      obtain ⟨x, hx⟩ : ∃ x, x = (dg m).getD 15 0 := ⟨_, rfl⟩
      have c15 := sl_num S0.out (p := 15) (by omega)
      rw [← hx, Zlu] at c15
      have hxb : x < 65536 := by rw [hx]; exact (Z0o m).get 15
      have HX := Lib.hid hx
      clear hx
      have hcase : 16 < k ∨ (k = 16 ∧ 32767 < x) := by
        rcases Nat.lt_or_ge 16 k with h | h
        · exact .inl h
        · refine .inr ⟨by omega, ?_⟩
          rcases Nat.lt_or_ge 32767 x with h1 | h1
          · exact h1
          · have h2 := Zej (m := m) (by rw [HK.out]; exact h) (by rw [← HX.out]; exact h1)
            have := HB.out; omega
      have i15 : (15 : Int) < (k : Int) := by omega
      have i16 : (16 : Int) ≤ (c : Int) := by omega
      have c16 : 16 ≤ c := by omega
      obtain ⟨g1, hg1⟩ : ∃ g, g = wo.heap.size := ⟨_, rfl⟩
      have G1 := Lib.hid hg1
      have B1 := Lib.hid (show Bl (wo.alloc (.cells (nl ([0, 0, 0, 0, 0, 0, 0, 0, 0, 0, 0, 0, 0, 0, 0, 0])).toArray 24)) g1 24 (nl ([0, 0, 0, 0, 0, 0, 0, 0, 0, 0, 0, 0, 0, 0, 0, 0])).toArray from hg1 ▸ Bl.new_ wo 24 (nl ([0, 0, 0, 0, 0, 0, 0, 0, 0, 0, 0, 0, 0, 0, 0, 0])).toArray)
      have S1 := Lib.hid (show Sl (wo.alloc (.cells (nl ([0, 0, 0, 0, 0, 0, 0, 0, 0, 0, 0, 0, 0, 0, 0, 0])).toArray 24)) (some ad) 16 (nl ((dg m).take 16)) by
        rw [← Zer]
        exact (S0.out.take_ 16 k16).below ((Below.refl _ _).alloc (Nat.le_refl _) _))
      obtain ⟨r, hr⟩ : ∃ r, r = x % 32768 := ⟨_, rfl⟩
      have er : (x : Int) % 32768 = (r : Int) := by omega
      obtain ⟨low, hlow⟩ : ∃ low, low = ((dg m).take 16).set 15 r := ⟨_, rfl⟩
      have LOWV := Lib.hid (show vl low = m % P255 by rw [hlow, hr, HX.out]; exact Zli m (by rw [HK.out]; exact k16))
      have LOWD := Lib.hid (show Dg low by rw [hlow]; exact ((Z0o m).take 16).set _ _ (by omega))
      have LOWL := Lib.hid (show low.length = 16 by rw [hlow, List.length_set, List.length_take, HK.out]; omega)
      have HLOW := Lib.hid hlow
      obtain ⟨N, hN⟩ : ∃ N, N = k - 15 := ⟨_, rfl⟩
      have eN : (k : Int) - 15 = (N : Int) := by omega
      have HN := Lib.hid hN
      have Nb : N ≤ 1000 := by omega
      have hmkN := Z6d N (by omega)
      have F15 : ∀ w3 : World, Below wo.heap.size wo w3 → w3.cell? ⟨ad.block, ad.off + 15, none⟩ = some (.int .u64 (x : Int)) := fun w3 h3 => by
        have := sl_num (S0.out.below h3) (p := 15) (by omega)
        rw [← HX.out, Zlu] at this
        exact this
      replace F15 := Lib.hid F15
      clear hr hlow hN hg1
      rcases hcase with hgt | ⟨heq, htop⟩
      · have tg : decide ((16 : Int) < (k : Int)) = true := by simp; omega
        clear hgt
        go_upto_region 4 with (with_reducible refine Z1t rfl (.tmp 22) (.tmp 24) 32 32 rfl 24 Tryz.underlying32 size64 wo.heap.size 0 16 16 ad 16 c rfl rfl 24 (nl ([0, 0, 0, 0, 0, 0, 0, 0, 0, 0, 0, 0, 0, 0, 0, 0])).toArray (by rw [← G1.out]; exact B1.out) (nl ((dg m).take 16)) S1.out 16 rfl (by simp [nl]) (nl_one _) ?_; intro w2 hb2 hg2)
        have D2 := Lib.hid (show Below wo.heap.size wo w2 from ((Below.refl wo.heap.size wo).alloc (Nat.le_refl _) (.cells (nl [0, 0, 0, 0, 0, 0, 0, 0, 0, 0, 0, 0, 0, 0, 0, 0]).toArray 24)).grown hg2 (by simp) (by simp))
        have L2 := Lib.hid (show Bl w2 g1 24 (nl ((dg m).take 16)).toArray by
          rw [G1.out]
          have e : spl (nl [0, 0, 0, 0, 0, 0, 0, 0, 0, 0, 0, 0, 0, 0, 0, 0]).toArray 0 ((nl ((dg m).take 16)).take 16) = (nl ((dg m).take 16)).toArray := by
            rw [List.take_of_length_le (by rw [nl_length, List.length_take]; omega)]
            exact Z1g _ _ (by rw [nl_length, List.length_take, HK.out]; simp [nl]; omega)
          rw [← e]; exact hb2)
        clear hb2 hg2 c15 B1 S1 hmk16
        have c15 := F15.out w2 D2.out
        have cl := Z0u (k := 15) L2.out (by rw [List.length_take, HK.out]; omega)
        have fl := L2.out.frozen 15
        rw [G1.out] at cl fl
        go_upto_region 5 with fail
        have D3 := Lib.hid (show Below wo.heap.size wo (w2.setCell ⟨wo.heap.size, 15, none⟩ (.int .u64 (r : Int))) from D2.out.setCell (p := ⟨wo.heap.size, 15, none⟩) (Nat.le_refl _) _)
        have L3 := Lib.hid (show Bl (w2.setCell ⟨wo.heap.size, 15, none⟩ (.int .u64 (r : Int))) g1 24 (nl low).toArray by
          rw [HLOW.out, ← Z0t]
          have := L2.out.set_ 15 (.int .u64 (r : Int))
          rwa [G1.out] at this ⊢)
        clear c15 cl fl er D2 L2 F15
        generalize w2.setCell ⟨wo.heap.size, 15, none⟩ (.int .u64 (r : Int)) = w3 at D3 L3 ⊢
        go_wp2_with fail
        clear hmkN eN
        have B4 := Lib.hid (Bl.new_ w3 24 (nl (List.replicate N 0)).toArray)
        have D4 := Lib.hid ((Below.refl w3.heap.size w3).alloc (Nat.le_refl _) (.cells (nl (List.replicate N 0)).toArray 24))
        obtain ⟨g2, hg2⟩ : ∃ g, g = w3.heap.size := ⟨_, rfl⟩
        have G2 := Lib.hid hg2
        rw [← hg2] at B4 D4 ⊢
        generalize w3.alloc _ = w4 at B4 D4 ⊢
        clear hg2
        go_loopw [5] (fun i wx => Zp8 (m / P255) N k g2 w4 i wx) (fun i _ => k - (intOf i).toNat)
        case atStart => exact ⟨15, Nat.le_refl _, by omega, rfl, by rw [Nat.sub_self, Zbm]; exact B4.out, Below.refl _ _⟩
        case round =>
          obtain ⟨j, hj15, hjk, rfl, hbl, hbw⟩ := hrel
          have BL := Lib.hid hbl
          have BW := Lib.hid hbw
          have W3 := Lib.hid (show Below w3.heap.size w3 wr from by have h1 := D4.out; have h2 := G2.out; subst h2; exact h1.trans hbw)
          have WO := Lib.hid (show Below wo.heap.size wo wr from Z0g D3.out (Nat.le_refl _) W3.out)
          clear hbl hbw
          by_cases hlt : j < k
          · obtain ⟨p, hp⟩ : ∃ p, p = j - 15 := ⟨_, rfl⟩
            have ep : (j : Int) - 15 = (p : Int) := by omega
            have pN : (p : Int) < (N : Int) := by have := HN.out; omega
            obtain ⟨j1, hj1⟩ : ∃ j1, j1 = j + 1 := ⟨_, rfl⟩
            have ej1 : (j : Int) + 1 = (j1 : Int) := by omega
            obtain ⟨a, ha⟩ : ∃ a, a = (dg m).getD j 0 := ⟨_, rfl⟩
            have ca := sl_num (S0.out.below WO.out) hlt
            rw [← ha] at ca
            have ab : a < 65536 := by rw [ha]; exact (Z0o m).get j
            obtain ⟨a1, ha1⟩ : ∃ a1, a1 = a / 32768 := ⟨_, rfl⟩
            have ea1 : (a : Int) / 32768 = (a1 : Int) := by omega
            have a1b : a1 ≤ 1 := by omega
            have cp := Z0u BL.out (k := p) (by rw [Z31]; have := HN.out; omega)
            have fp := BL.out.frozen p
            have DG := Z8x m p
            rw [show 15 + p = j by omega, ← ha, ← ha1, ← hj1] at DG
            by_cases hlt1 : j1 < k
            · obtain ⟨b, hb⟩ : ∃ b, b = (dg m).getD j1 0 := ⟨_, rfl⟩
              have cb := sl_num (S0.out.below WO.out) hlt1
              rw [← hb] at cb
              have bb : b < 65536 := by rw [hb]; exact (Z0o m).get j1
              obtain ⟨b1, hb1⟩ : ∃ b1, b1 = b % 32768 := ⟨_, rfl⟩
              have eb1 : (b : Int) % 32768 = (b1 : Int) := by omega
              obtain ⟨b2, hb2⟩ : ∃ b2, b2 = b1 * 2 := ⟨_, rfl⟩
              have eb2 : (b1 : Int) * 2 = (b2 : Int) := by omega
              obtain ⟨v, hv⟩ : ∃ v, v = a1 + b2 := ⟨_, rfl⟩
              have ev : (a1 : Int) + (b2 : Int) = (v : Int) := by omega
              have b1b : b1 < 32768 := by omega
              have b2b : b2 < 65536 := by omega
              have ST := Lib.hid (show (dgk (m / P255) N (j - 15)).set p v = dgk (m / P255) N (j1 - 15) by
                rw [← hp, show j1 - 15 = p + 1 by omega]
                exact Z7y _ _ _ _ (by rw [DG, ← hb, ← hb1, hv, hb2]))
              have HJ1 := Lib.hid hj1
              clear hp hj1 ha ha1 hb hb1 hb2 hv DG
              go_wp2
              go_roundw
              case rel => exact ⟨j1, by have := HJ1.out; omega, by omega, rfl, by rw [← ST.out, ← Z0t]; exact BL.out.set_ p _, BW.out.setCell (p := ⟨g2, p, none⟩) (Nat.le_refl _) _⟩
              case measure => have := HJ1.out; simp [intOf]; omega
            · have ST := Lib.hid (show (dgk (m / P255) N (j - 15)).set p a1 = dgk (m / P255) N (j1 - 15) by
                rw [← hp, show j1 - 15 = p + 1 by omega]
                exact Z7y _ _ _ _ (by rw [DG, Z4h (dg m) j1 (by rw [HK.out]; omega)]; simp))
              have HJ1 := Lib.hid hj1
              clear hp hj1 ha ha1 DG
              go_wp2
              go_roundw
              case rel => exact ⟨j1, by have := HJ1.out; omega, by omega, rfl, by rw [← ST.out, ← Z0t]; exact BL.out.set_ p _, BW.out.setCell (p := ⟨g2, p, none⟩) (Nat.le_refl _) _⟩
              case measure => have := HJ1.out; simp [intOf]; omega
          · obtain rfl : j = k := by omega
            have hmle : m / P255 < 65536 ^ N := Zbq m N (by rw [HK.out, HN.out]; omega)
            have HV := Lib.hid (show vl (dgk (m / P255) N N) = m / P255 from Z66 hmle)
            have BH := Lib.hid (show Sl wr (some ⟨g2, 0, none⟩) N (nl (dgk (m / P255) N N)) by
              have h := BL.out
              rw [← HN.out] at h
              exact Z32 h (Z31 _ _ _))
            have LW := Lib.hid (show Sl wr (some ⟨wo.heap.size, 0, none⟩) 16 (nl low) by
              rw [← G1.out]
              exact (Z32 L3.out LOWL.out).below W3.out)
            clear hmle
            go_wp2_with fail
            (with_reducible refine (Z1u _ 16 16 low _ (by decide) (Nat.le_refl _) LOWD.out LW.out).mono ?_)
            rintro e w5 ⟨A5, k5, c5, rfl, h51, h52, h53⟩
            have T5 := Lib.hid h51
            have W5 := Lib.hid h53
            have BH5 := Lib.hid (BH.out.below h53)
            have K5 := Lib.hid (show k5 ≤ 16 by rw [← Z09 h51]; refine Z1c ?_; rw [← LOWL.out]; exact Z3z low LOWD.out)
            clear h51 h53
            go_wp2_with fail
            (with_reducible refine (Z1u _ N N _ _ (by omega) (Nat.le_refl _) (Zbn _ _ _) BH5.out).mono ?_)
            rintro e w6 ⟨A6, k6, c6, rfl, h61, h62, h63⟩
            rw [HV.out] at h61
            have K6 := Lib.hid (show k6 ≤ N by rw [← Z09 h61]; exact Z1c (by rw [← HV.out]; have := Z3z _ (Zbn (m / P255) N N); rwa [Z31] at this))
            have W6 := Lib.hid (Z0g W5.out (Nat.le_refl _) h63)
            have T56 := Lib.hid (T5.out.below h63)
            have A19 := (Below.refl w6.heap.size w6).alloc (Nat.le_refl _) (.cells #[.int .u64 19] 24)
            have T6 := Lib.hid (h61.below A19)
            have T57 := Lib.hid (T56.out.below A19)
            have S19 := Lib.hid (show Sl (w6.alloc (.cells #[.int .u64 19] 24)) (some ⟨w6.heap.size, 0, none⟩) 1 (nl [19]) from Z32 (Bl.new_ w6 24 (nl [19]).toArray) rfl)
            have W7 := Lib.hid (W6.out.trans (A19.mono W6.out.size))
            clear h61 h63 A19
            go_wp2_with fail
            (with_reducible refine (Z90 _ _ k6 1 c6 1 (dg (m / P255)) [19] _ (by have := K6.out; omega) (by decide) (Z0o _) (by unfold Dg; decide) T6.out S19.out).mono ?_)
            rintro e w8 ⟨A8, k8, c8, rfl, h81, h82, h83⟩
            rw [Z0l, show vl [19] = 19 from rfl] at h81
            have HLT := Lib.hid (Zbp m HB.out)
            have K8 := Lib.hid (show k8 ≤ 1000 by
              rw [← Z09 h81]
              refine Nat.le_trans (Z0y (b := m) ?_) (by rw [HK.out]; exact hk)
              have := HLT.out; omega)
            have T8 := Lib.hid h81
            have T58 := Lib.hid (T57.out.below h83)
            have W8 := Lib.hid (W7.out.trans (h83.mono W7.out.size))
            rw [LOWV.out] at T58
            clear h81 h83
            go_wp2_with fail
            (with_reducible refine (Z48 _ _ k5 k8 c5 c8 (dg (m % P255)) (dg (m / P255 * 19)) _ (by have := K5.out; omega) (by have := K8.out; omega) (Z0o _) (Z0o _) T58.out T8.out).mono ?_)
            rintro e w9 ⟨A9, k9, c9, rfl, h91, h92, h93⟩
            rw [Z0l, Z0l] at h91
            have K9 := Lib.hid (show k9 ≤ 1000 by
              rw [← Z09 h91]
              exact Nat.le_trans (Z0y (b := m) (Nat.le_of_lt HLT.out)) (by rw [HK.out]; exact hk))
            have T9 := Lib.hid h91
            have W9 := Lib.hid (W8.out.trans (h93.mono W8.out.size))
            clear h91 h93
            go_wp2_with fail
            go_roundg (go - 1)
            case rel => exact ⟨_, k9, c9, A9, rfl, T9.out, h92, K9.out, by rw [Zbo]; exact HM.out, by have := HLT.out; have := HMN.out; omega, Z0g W0.out (Nat.le_refl _) (Z0g WO.out (Nat.le_refl _) W9.out)⟩
            case measure => have := HMN.out; omega
      · have tg : decide ((16 : Int) < (k : Int)) = false := by simp; omega
        have tq : ((k : Int) == 16) = true := by simp; omega
        have tx : decide ((32767 : Int) < (x : Int)) = true := by simp; omega
        clear heq htop
        go_upto_region 4 with (with_reducible refine Z1t rfl (.tmp 22) (.tmp 24) 32 32 rfl 24 Tryz.underlying32 size64 wo.heap.size 0 16 16 ad 16 c rfl rfl 24 (nl ([0, 0, 0, 0, 0, 0, 0, 0, 0, 0, 0, 0, 0, 0, 0, 0])).toArray (by rw [← G1.out]; exact B1.out) (nl ((dg m).take 16)) S1.out 16 rfl (by simp [nl]) (nl_one _) ?_; intro w2 hb2 hg2)
        have D2 := Lib.hid (show Below wo.heap.size wo w2 from ((Below.refl wo.heap.size wo).alloc (Nat.le_refl _) (.cells (nl [0, 0, 0, 0, 0, 0, 0, 0, 0, 0, 0, 0, 0, 0, 0, 0]).toArray 24)).grown hg2 (by simp) (by simp))
        have L2 := Lib.hid (show Bl w2 g1 24 (nl ((dg m).take 16)).toArray by
          rw [G1.out]
          have e : spl (nl [0, 0, 0, 0, 0, 0, 0, 0, 0, 0, 0, 0, 0, 0, 0, 0]).toArray 0 ((nl ((dg m).take 16)).take 16) = (nl ((dg m).take 16)).toArray := by
            rw [List.take_of_length_le (by rw [nl_length, List.length_take]; omega)]
            exact Z1g _ _ (by rw [nl_length, List.length_take, HK.out]; simp [nl]; omega)
          rw [← e]; exact hb2)
        clear hb2 hg2 c15 B1 S1 hmk16
        have c15 := F15.out w2 D2.out
        have cl := Z0u (k := 15) L2.out (by rw [List.length_take, HK.out]; omega)
        have fl := L2.out.frozen 15
        rw [G1.out] at cl fl
        go_upto_region 5 with fail
        have D3 := Lib.hid (show Below wo.heap.size wo (w2.setCell ⟨wo.heap.size, 15, none⟩ (.int .u64 (r : Int))) from D2.out.setCell (p := ⟨wo.heap.size, 15, none⟩) (Nat.le_refl _) _)
        have L3 := Lib.hid (show Bl (w2.setCell ⟨wo.heap.size, 15, none⟩ (.int .u64 (r : Int))) g1 24 (nl low).toArray by
          rw [HLOW.out, ← Z0t]
          have := L2.out.set_ 15 (.int .u64 (r : Int))
          rwa [G1.out] at this ⊢)
        clear c15 cl fl er D2 L2 F15
        generalize w2.setCell ⟨wo.heap.size, 15, none⟩ (.int .u64 (r : Int)) = w3 at D3 L3 ⊢
        go_wp2_with fail
        clear hmkN eN
        have B4 := Lib.hid (Bl.new_ w3 24 (nl (List.replicate N 0)).toArray)
        have D4 := Lib.hid ((Below.refl w3.heap.size w3).alloc (Nat.le_refl _) (.cells (nl (List.replicate N 0)).toArray 24))
        obtain ⟨g2, hg2⟩ : ∃ g, g = w3.heap.size := ⟨_, rfl⟩
        have G2 := Lib.hid hg2
        rw [← hg2] at B4 D4 ⊢
        generalize w3.alloc _ = w4 at B4 D4 ⊢
        clear hg2
        go_loopw [5] (fun i wx => Zp8 (m / P255) N k g2 w4 i wx) (fun i _ => k - (intOf i).toNat)
        case atStart => exact ⟨15, Nat.le_refl _, by omega, rfl, by rw [Nat.sub_self, Zbm]; exact B4.out, Below.refl _ _⟩
        case round =>
          obtain ⟨j, hj15, hjk, rfl, hbl, hbw⟩ := hrel
          have BL := Lib.hid hbl
          have BW := Lib.hid hbw
          have W3 := Lib.hid (show Below w3.heap.size w3 wr from by have h1 := D4.out; have h2 := G2.out; subst h2; exact h1.trans hbw)
          have WO := Lib.hid (show Below wo.heap.size wo wr from Z0g D3.out (Nat.le_refl _) W3.out)
          clear hbl hbw
          by_cases hlt : j < k
          · obtain ⟨p, hp⟩ : ∃ p, p = j - 15 := ⟨_, rfl⟩
            have ep : (j : Int) - 15 = (p : Int) := by omega
            have pN : (p : Int) < (N : Int) := by have := HN.out; omega
            obtain ⟨j1, hj1⟩ : ∃ j1, j1 = j + 1 := ⟨_, rfl⟩
            have ej1 : (j : Int) + 1 = (j1 : Int) := by omega
            obtain ⟨a, ha⟩ : ∃ a, a = (dg m).getD j 0 := ⟨_, rfl⟩
            have ca := sl_num (S0.out.below WO.out) hlt
            rw [← ha] at ca
            have ab : a < 65536 := by rw [ha]; exact (Z0o m).get j
            obtain ⟨a1, ha1⟩ : ∃ a1, a1 = a / 32768 := ⟨_, rfl⟩
            have ea1 : (a : Int) / 32768 = (a1 : Int) := by omega
            have a1b : a1 ≤ 1 := by omega
            have cp := Z0u BL.out (k := p) (by rw [Z31]; have := HN.out; omega)
            have fp := BL.out.frozen p
            have DG := Z8x m p
            rw [show 15 + p = j by omega, ← ha, ← ha1, ← hj1] at DG
            by_cases hlt1 : j1 < k
            · obtain ⟨b, hb⟩ : ∃ b, b = (dg m).getD j1 0 := ⟨_, rfl⟩
              have cb := sl_num (S0.out.below WO.out) hlt1
              rw [← hb] at cb
              have bb : b < 65536 := by rw [hb]; exact (Z0o m).get j1
              obtain ⟨b1, hb1⟩ : ∃ b1, b1 = b % 32768 := ⟨_, rfl⟩
              have eb1 : (b : Int) % 32768 = (b1 : Int) := by omega
              obtain ⟨b2, hb2⟩ : ∃ b2, b2 = b1 * 2 := ⟨_, rfl⟩
              have eb2 : (b1 : Int) * 2 = (b2 : Int) := by omega
              obtain ⟨v, hv⟩ : ∃ v, v = a1 + b2 := ⟨_, rfl⟩
              have ev : (a1 : Int) + (b2 : Int) = (v : Int) := by omega
              have b1b : b1 < 32768 := by omega
              have b2b : b2 < 65536 := by omega
              have ST := Lib.hid (show (dgk (m / P255) N (j - 15)).set p v = dgk (m / P255) N (j1 - 15) by
                rw [← hp, show j1 - 15 = p + 1 by omega]
                exact Z7y _ _ _ _ (by rw [DG, ← hb, ← hb1, hv, hb2]))
              have HJ1 := Lib.hid hj1
              clear hp hj1 ha ha1 hb hb1 hb2 hv DG
              go_wp2
              go_roundw
              case rel => exact ⟨j1, by have := HJ1.out; omega, by omega, rfl, by rw [← ST.out, ← Z0t]; exact BL.out.set_ p _, BW.out.setCell (p := ⟨g2, p, none⟩) (Nat.le_refl _) _⟩
              case measure => have := HJ1.out; simp [intOf]; omega
            · have ST := Lib.hid (show (dgk (m / P255) N (j - 15)).set p a1 = dgk (m / P255) N (j1 - 15) by
                rw [← hp, show j1 - 15 = p + 1 by omega]
                exact Z7y _ _ _ _ (by rw [DG, Z4h (dg m) j1 (by rw [HK.out]; omega)]; simp))
              have HJ1 := Lib.hid hj1
              clear hp hj1 ha ha1 DG
              go_wp2
              go_roundw
              case rel => exact ⟨j1, by have := HJ1.out; omega, by omega, rfl, by rw [← ST.out, ← Z0t]; exact BL.out.set_ p _, BW.out.setCell (p := ⟨g2, p, none⟩) (Nat.le_refl _) _⟩
              case measure => have := HJ1.out; simp [intOf]; omega
          · obtain rfl : j = k := by omega
            have hmle : m / P255 < 65536 ^ N := Zbq m N (by rw [HK.out, HN.out]; omega)
            have HV := Lib.hid (show vl (dgk (m / P255) N N) = m / P255 from Z66 hmle)
            have BH := Lib.hid (show Sl wr (some ⟨g2, 0, none⟩) N (nl (dgk (m / P255) N N)) by
              have h := BL.out
              rw [← HN.out] at h
              exact Z32 h (Z31 _ _ _))
            have LW := Lib.hid (show Sl wr (some ⟨wo.heap.size, 0, none⟩) 16 (nl low) by
              rw [← G1.out]
              exact (Z32 L3.out LOWL.out).below W3.out)
            clear hmle
            go_wp2_with fail
            (with_reducible refine (Z1u _ 16 16 low _ (by decide) (Nat.le_refl _) LOWD.out LW.out).mono ?_)
            rintro e w5 ⟨A5, k5, c5, rfl, h51, h52, h53⟩
            have T5 := Lib.hid h51
            have W5 := Lib.hid h53
            have BH5 := Lib.hid (BH.out.below h53)
            have K5 := Lib.hid (show k5 ≤ 16 by rw [← Z09 h51]; refine Z1c ?_; rw [← LOWL.out]; exact Z3z low LOWD.out)
            clear h51 h53
            go_wp2_with fail
            (with_reducible refine (Z1u _ N N _ _ (by omega) (Nat.le_refl _) (Zbn _ _ _) BH5.out).mono ?_)
            rintro e w6 ⟨A6, k6, c6, rfl, h61, h62, h63⟩
            rw [HV.out] at h61
            have K6 := Lib.hid (show k6 ≤ N by rw [← Z09 h61]; exact Z1c (by rw [← HV.out]; have := Z3z _ (Zbn (m / P255) N N); rwa [Z31] at this))
            have W6 := Lib.hid (Z0g W5.out (Nat.le_refl _) h63)
            have T56 := Lib.hid (T5.out.below h63)
            have A19 := (Below.refl w6.heap.size w6).alloc (Nat.le_refl _) (.cells #[.int .u64 19] 24)
            have T6 := Lib.hid (h61.below A19)
            have T57 := Lib.hid (T56.out.below A19)
            have S19 := Lib.hid (show Sl (w6.alloc (.cells #[.int .u64 19] 24)) (some ⟨w6.heap.size, 0, none⟩) 1 (nl [19]) from Z32 (Bl.new_ w6 24 (nl [19]).toArray) rfl)
            have W7 := Lib.hid (W6.out.trans (A19.mono W6.out.size))
            clear h61 h63 A19
            go_wp2_with fail
            (with_reducible refine (Z90 _ _ k6 1 c6 1 (dg (m / P255)) [19] _ (by have := K6.out; omega) (by decide) (Z0o _) (by unfold Dg; decide) T6.out S19.out).mono ?_)
            rintro e w8 ⟨A8, k8, c8, rfl, h81, h82, h83⟩
            rw [Z0l, show vl [19] = 19 from rfl] at h81
            have HLT := Lib.hid (Zbp m HB.out)
            have K8 := Lib.hid (show k8 ≤ 1000 by
              rw [← Z09 h81]
              refine Nat.le_trans (Z0y (b := m) ?_) (by rw [HK.out]; exact hk)
              have := HLT.out; omega)
            have T8 := Lib.hid h81
            have T58 := Lib.hid (T57.out.below h83)
            have W8 := Lib.hid (W7.out.trans (h83.mono W7.out.size))
            rw [LOWV.out] at T58
            clear h81 h83
            go_wp2_with fail
            (with_reducible refine (Z48 _ _ k5 k8 c5 c8 (dg (m % P255)) (dg (m / P255 * 19)) _ (by have := K5.out; omega) (by have := K8.out; omega) (Z0o _) (Z0o _) T58.out T8.out).mono ?_)
            rintro e w9 ⟨A9, k9, c9, rfl, h91, h92, h93⟩
            rw [Z0l, Z0l] at h91
            have K9 := Lib.hid (show k9 ≤ 1000 by
              rw [← Z09 h91]
              exact Nat.le_trans (Z0y (b := m) (Nat.le_of_lt HLT.out)) (by rw [HK.out]; exact hk))
            have T9 := Lib.hid h91
            have W9 := Lib.hid (W8.out.trans (h93.mono W8.out.size))
            clear h91 h93
            go_wp2_with fail
            go_roundg (go - 1)
            case rel => exact ⟨_, k9, c9, A9, rfl, T9.out, h92, K9.out, by rw [Zbo]; exact HM.out, by have := HLT.out; have := HMN.out; omega, Z0g W0.out (Nat.le_refl _) (Z0g WO.out (Nat.le_refl _) W9.out)⟩
            case measure => have := HMN.out; omega
    · have hsm : m < P255 := by omega
      have HS := Lib.hid hsm
      have hk16 : k ≤ 16 := by
        have h2 : m < 65536 ^ 16 := by have := Zlh; omega
        have := Z1c h2
        rw [HK.out] at this
        exact this
      have t0 : decide ((16 : Int) < (k : Int)) = false := by simp; omega
      clear hbig hsm hmk16
      by_cases h16 : k = 16
      · have tq : ((k : Int) == 16) = true := by simp; omega
        have tk : decide ((k : Int) < 16) = false := by simp; omega
        have i15 : (15 : Int) < (k : Int) := by omega
        cases A with
        | none => obtain ⟨ad, h, -⟩ := S0.out.at_ (k := 0) (by omega); cases h
        | some ad =>
        obtain ⟨x, hx⟩ : ∃ x, x = (dg m).getD 15 0 := ⟨_, rfl⟩
        have c15 := sl_num S0.out (p := 15) (by omega)
        rw [← hx, Zlu] at c15
        have hx7 : x ≤ 32767 := by
          rcases Nat.lt_or_ge 32767 x with h1 | h1
          · have h2 := Zac (m := m) (by rw [← hx]; exact h1)
            have := HS.out; omega
          · exact h1
        have tx : decide ((32767 : Int) < (x : Int)) = false := by simp; omega
        have HX := Lib.hid hx
        clear hx h16
        by_cases hx6 : x < 32767
        · have ty : decide ((x : Int) < 32767) = true := by simp; omega
          have HV := Lib.hid (show M % pp = m by rw [← HM.out]; exact Z68 (Z7z (by rw [HK.out]; exact hk16) (by rw [← HX.out]; exact hx6)))
          clear hx6 hx7
          go_wp2
          go_ret
          exact ⟨_, k, c, rfl, by rw [HV.out]; exact S0.out, hkc, W0.out⟩
        · have ty : decide ((x : Int) < 32767) = false := by simp; omega
          clear hx6 hx7
          go_wp2_with fail
          refine (Zai wo).mono ?_
          rintro e w5 ⟨A5, k5, c5, rfl, h51, h52, h53⟩
          have T5 := Lib.hid h51
          have W5 := Lib.hid h53
          have S5 := Lib.hid (S0.out.below h53)
          have K5 := Lib.hid (show k5 = 16 by rw [← Z09 h51, Z69]; rfl)
          clear h51 h53
          obtain ⟨b, hb⟩ : ∃ b, decide (m < pp) = b := ⟨_, rfl⟩
          have L := Z26 (some ad) A5 k k5 c c5 m pp w5 (by omega) (by have := K5.out; omega) S5.out T5.out
          rw [hb] at L
          have L := Lib.hid L
          have HBB := Lib.hid hb
          clear hb
          go_wp2_with fail
          (with_reducible refine L.out.mono ?_)
          rintro e w6 ⟨rfl, h6⟩
          have W6 := Lib.hid (Z0g W5.out (Nat.le_refl _) h6)
          clear h6 L
          cases b
          · have HGE := Lib.hid (show ¬ m < pp from of_decide_eq_false HBB.out)
            go_wp2_with fail
            refine (Zai w6).mono ?_
            rintro e w7 ⟨A7, k7, c7, rfl, h71, h72, h73⟩
            have T7 := Lib.hid h71
            have W7 := Lib.hid (Z0g W6.out (Nat.le_refl _) h73)
            have S7 := Lib.hid (S0.out.below W7.out)
            have K7 := Lib.hid (show k7 = 16 by rw [← Z09 h71, Z69]; rfl)
            clear h71 h73
            have MM := Z2n (some ad) A7 k k7 c c7 (dg m) (dg pp) w7 (by omega) (by
              have h1 := Z0y (a := pp) (b := m) (by have := HGE.out; omega)
              rw [HK.out, Z69] at h1
              have h2 : ppl.length = 16 := rfl
              have := K7.out
              omega) (Z0o _) (Z0o _) (by rw [Z0l, Z0l]; have := HGE.out; omega) S7.out T7.out
            rw [Z0l, Z0l] at MM
            have MM := Lib.hid MM
            have HV := Lib.hid (show m - pp = M % pp by rw [← HM.out]; exact (Zek HGE.out HS.out).symm)
            go_wp2_with fail
            (with_reducible refine MM.out.mono ?_)
            intro e w8 h8
            have R8 := Lib.hid (h8.of HV.out (Z0g W0.out (Nat.le_refl _) W7.out))
            clear h8 MM
            obtain ⟨A8, k8, c8, rfl, h3, h4, h5⟩ := R8.out
            have R9 := Lib.hid (show RetN (M % pp) w (.returned (.slice A8 k8 c8)) w8 from R8.out)
            clear R8 h3 h4 h5
            go_wp2
            go_ret
            exact R9.out
          · have HV := Lib.hid (show M % pp = m by rw [← HM.out]; exact Z68 (of_decide_eq_true HBB.out))
            have S6 := Lib.hid (S0.out.below W6.out)
            go_wp2
            go_ret
            exact ⟨_, k, c, rfl, by rw [HV.out]; exact S6.out, hkc, Z0g W0.out (Nat.le_refl _) W6.out⟩
      · have tq : ((k : Int) == 16) = false := by simp; omega
        have tk : decide ((k : Int) < 16) = true := by simp; omega
        have HV := Lib.hid (show M % pp = m by rw [← HM.out]; exact Z68 (Z4i (by rw [HK.out]; omega)))
        clear h16 hk16
        go_wp2
        go_ret
        exact ⟨_, k, c, rfl, by rw [HV.out]; exact S0.out, hkc, W0.out⟩
end Go.Proofs.YtjimhjfjfpeojaaGreatDoor.Fd
