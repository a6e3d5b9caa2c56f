/-
  An element to a number.
-/
import Derived.Test.YteechlkccmcpfaaDoorFdPow
import Derived.StillTailTactics
namespace Go.Proofs.YteechlkccmcpfaaDoor.Fd
open Go.RowKit Go.Proofs.YteechlkccmcpfaaDoor.Gn Go.Deep
set_option linter.unusedVariables false

theorem and15 (x : Nat) (hx : x < 256) : bits .and .u8 (x : Int) 15 = ((x % 16 : Nat) : Int) := by
  have h : ∀ y : Fin 256, bits .and .u8 ((y.val : Nat) : Int) 15 = ((y.val % 16 : Nat) : Int) := by decide +kernel
  exact h ⟨x, hx⟩
theorem pow_long (x : E5) (A : Option Addr) (n c : Nat) (w : World) (hn : 64 < n) :
    Calls Tryd.prog 34 #[.agg x.v, .slice A n c] w fun e w' => DecR e ⟨0, 0, 0, 0, 0⟩ 1 ∧ Below w.heap.size w w' := by
  have g : decide ((64 : Int) < (n : Int)) = true := by simp; omega
  clear hn
  go_enter Tryd.func34, Tryd.ntmps34
  go_wp2
  refine bodyPost_ret (v := .tuple #[.agg z5, .int .i64 1]) ?_ rfl ⟨rfl, (((Below.refl _ _).alloc (Nat.le_refl _) _).alloc (by simp) _)⟩
  simp [results, Tryd.results34, go_sem, z5]
def InR (v F g : Nat) (w0 : World) (i : Value) (wr : World) : Prop :=
  ∃ m : Nat, m ≤ 4 ∧ i = .int .i64 (m : Int) ∧ Bl wr g 24 (el (v ^ (F * 2 ^ m) % pp)).v ∧ w0.grownBy wr (some g)
def MidR (v E hi lo g : Nat) (w0 : World) (i : Value) (wr : World) : Prop :=
  ∃ j : Nat, j ≤ 2 ∧ i = .int .i64 (j : Int) ∧ Bl wr g 24 (el (v ^ (if j = 0 then E else if j = 1 then E * 16 + hi else (E * 16 + hi) * 16 + lo) % pp)).v ∧ w0.grownBy wr (some g)
def OutR (v : Nat) (l : List Nat) (g : Nat) (w0 : World) (i : Value) (wr : World) : Prop :=
  ∃ r : Nat, r ≤ l.length ∧ i = .int .i64 ((r : Int) - 1) ∧ Bl wr g 24 (el (v ^ (le (l.drop r)) % pp)).v ∧ w0.grownBy wr (some g)
theorem sq_pow (v E : Nat) : (v ^ E % pp) * (v ^ E % pp) % pp = v ^ (E * 2) % pp := by
  rw [← Nat.mul_mod, Nat.mul_comm E 2, Nat.pow_mul, Nat.pow_two, Nat.mul_pow]
theorem mul_pow' (v E h : Nat) : (v ^ E % pp) * (v ^ h % pp) % pp = v ^ (E + h) % pp := by
  rw [← Nat.mul_mod, Nat.pow_add]
set_option maxRecDepth 100000 in
set_option maxHeartbeats 4000000 in
theorem pow_any (x : E5) (A : Option Addr) (n c : Nat) (l : List Nat) (w : World) (hx : x.ok) (hn : n ≤ 64) (hl : ∀ y ∈ l, y < 256) (hs : Sl w A n (bl l)) :
    Calls Tryd.prog 34 #[.agg x.v, .slice A n c] w fun e w' => DecR e (el (x.val ^ (le l) % pp)) 0 ∧ Below w.heap.size w w' := by
  have hln : l.length = n := by simpa [bl] using hs.1
  have P := Lib.hid (show ∀ w, Calls Tryd.prog 61 #[.agg #[.int .u64 (x.a : Int), .int .u64 (x.b : Int), .int .u64 (x.c : Int), .int .u64 (x.d : Int), .int .u64 (x.e : Int)]] w fun e w' => e = .returned (.agg (nl (pwl x.val)).toArray) ∧ Below w.heap.size w w' from fun w => powersOf_any x w hx)
  have S1 := Lib.hid (fun w => Small_any 1 w (by decide))
  obtain ⟨v, hv⟩ : ∃ v, x.val = v := ⟨_, rfl⟩
  rw [hv] at P
  rw [hv]
  have g0 : decide ((64 : Int) < (n : Int)) = false := by simp; omega
  have hzz : Tryd.zeroCells75 = (nl (List.replicate 80 0)).toArray := by kernel_rfl
  have hzs : Tryd.zeroCells75.size = 80 := by rw [hzz]; simp [nl]
  have HONE := Lib.hid (show ∀ l : List Nat, ∀ u ∈ nl l, u.oneCell' = true from fun l u hu => by simp [nl] at hu; obtain ⟨y, -, rfl⟩ := hu; rfl)
  have HL := Lib.hid hl
  have HS := Lib.hid hs
  have HLN := Lib.hid hln
  have hx0 := (Bl.new_ w 24 x.v).alloc (.cells z5 24)
  have hr0 := Bl.new' (w := w.alloc (.cells x.v 24)) (g := w.heap.size + 1) 24 z5 (by simp)
  have hB0 := ((Below.refl w.heap.size w).alloc (Nat.le_refl _) (.cells x.v 24)).alloc (by simp) (.cells z5 24)
  have HR0 := Lib.hid hr0
  have HB0 := Lib.hid hB0
  obtain ⟨a0, a1, a2, a3, a4⟩ := c5_of hx0
  clear hx0 hr0 hB0 hzz hv hl hs hln hx
  unfold z5 at a0 a1 a2 a3 a4
  go_enter Tryd.func34, Tryd.ntmps34
  go_wp2_with fail
  refine (P.out _).mono ?_
  rintro e w1 ⟨rfl, hb1⟩
  have HR1 := Lib.hid (HR0.out.below' hb1)
  have HB1 := Lib.hid (below_nx HB0.out (Nat.le_refl _) hb1)
  clear hb1 HB0 HR0 a0 a1 a2 a3 a4
  have hlt1 := HR1.out.lt
  have hs1 := HB1.out.size
  have hps : (nl (pwl v)).length = 80 := by simp [nl, pwl_len]
  obtain ⟨w2, hrun, hb2, hg2⟩ := run_store_bl Tryd.prog (Bl.new_ w1 75 Tryd.zeroCells75) 0 (nl (pwl v)) (by rw [hzs, hps]; decide) (HONE.out _)
  rw [spl_all _ _ (by rw [hzs, hps])] at hb2
  have HP2 := Lib.hid hb2
  have HR2 := Lib.hid ((HR1.out.alloc (.cells Tryd.zeroCells75 75)).grown hg2 (by simp; omega))
  have HB2 := Lib.hid ((HB1.out.alloc hs1 (.cells Tryd.zeroCells75 75)).grown hg2 (Nat.le_trans hs1 (by simp)) (by simp; omega))
  have hl2 : w1.heap.size < w2.heap.size := hb2.lt
  clear hg2 hb2 HR1 HB1
  have HPS := Lib.hid hps
  go_wp2_with fail
  clear hrun
  refine (S1.out _).mono ?_
  rintro e w3 ⟨he, hb3⟩
  obtain rfl : e = .returned (.agg #[.int .u64 1, .int .u64 0, .int .u64 0, .int .u64 0, .int .u64 0]) := he
  -- the world at the loop's head
  obtain ⟨gp, hgp⟩ : ∃ gp, w1.heap.size = gp := ⟨_, rfl⟩
  obtain ⟨gr, hgr⟩ : ∃ gr, w3.heap.size = gr := ⟨_, rfl⟩
  rw [hgp] at HP2 hl2 hlt1 ⊢
  have hl3 : gp < gr := by have := hb3.size; omega
  have HE := Lib.hid (show (el 1).v = #[.int .u64 1, .int .u64 0, .int .u64 0, .int .u64 0, .int .u64 0] from rfl)
  have HA := Lib.hid (show Bl (w3.alloc (.cells (el 1).v 24)) gr 24 (el 1).v from Bl.new' _ _ hgr)
  have HP := Lib.hid ((HP2.out.below' hb3).alloc (.cells (el 1).v 24))
  have HR := Lib.hid ((HR2.out.below' hb3).alloc (.cells (el 1).v 24))
  have HB := Lib.hid ((below_nx HB2.out (Nat.le_refl _) hb3).alloc (by have := HB2.out.size; have := hb3.size; omega) (.cells (el 1).v 24))
  clear hb3 HP2 HR2 HB2 hgp
  rw [HE.out] at HA HP HR HB
  obtain ⟨W, hW⟩ : ∃ W, w3.alloc (.cells #[.int .u64 1, .int .u64 0, .int .u64 0, .int .u64 0, .int .u64 0] 24) = W := ⟨_, rfl⟩
  rw [hW] at HA HP HR HB
  have HW := Lib.hid hW
  clear hW
  have en : (n : Int) - 1 = (n : Int) - 1 := rfl
  go_wp2_with fail
  rw [HW.out]
  clear hgr en
  have hwg : w.heap.size + 1 < gr := by omega
  go_loopw [8] (fun i wr => OutR v l gr W i wr) (fun i _ => (intOf i + 1).toNat)
  case atStart =>
    refine ⟨n, by rw [HLN.out]; exact Nat.le_refl _, rfl, ?_, World.grownBy.refl _ _⟩
    rw [List.drop_of_length_le (by rw [HLN.out]; exact Nat.le_refl _), le_nil, Nat.pow_zero, Nat.mod_eq_of_lt pp_one, HE.out]
    exact HA.out
  case round =>
    obtain ⟨r, hr, rfl, hb, hg⟩ := hrel
    rw [HLN.out] at hr
    have HRB := Lib.hid hb
    have HG := Lib.hid hg
    clear hb hg
    rcases Nat.eq_zero_or_pos r with h0 | h0
    · subst h0
      rw [show ((0 : Nat) : Int) - 1 = -1 by omega]
      rw [List.drop_zero] at HRB
      obtain ⟨re, hre⟩ : ∃ re, el (v ^ le l % pp) = re := ⟨_, rfl⟩
      rw [hre] at HRB
      have HRE := Lib.hid hre
      obtain ⟨⟨a0, a1, a2, a3, a4⟩, -⟩ := cells5 HRB.out
      obtain ⟨⟨r0, r1, r2, r3, r4⟩, f0, f1, f2, f3, f4⟩ := cells5 (HR.out.grown HG.out (by simp; omega))
      have HF := Lib.hid (HB.out.grown HG.out HB.out.size (by simp; omega))
      clear hre
      go_wp2_with fail
      refine bodyPost_ret (v := .tuple #[.agg re.v, .int .i64 0]) ?_ rfl ⟨by rw [HRE.out]; rfl, set5_below HF.out (by omega) _ _ _ _ _⟩
      simp [results, Tryd.results34, go_sem, E5.v, r0, r1, r2, r3, r4]
    · obtain ⟨q, rfl⟩ : ∃ q, r = q + 1 := ⟨r - 1, by omega⟩
      rw [show ((q + 1 : Nat) : Int) - 1 = (q : Int) by omega]
      obtain ⟨y, hy⟩ : ∃ y, l[q]? = some y := ⟨l[q]'(by have := HLN.out; omega), List.getElem?_eq_getElem _⟩
      have hy8 := HL.out y (List.mem_of_getElem? hy)
      have hqn : q < n := by omega
      obtain ⟨ad, rfl, hcell⟩ := HS.out.at_ hqn
      have h1 : w.cell? (ad.add q) = some (.int .u8 (y : Int)) := by rw [hcell]; simp [bl, hy]
      have h2 := cell_lt h1
      have h3 : W.cell? (ad.add q) = some (.int .u8 (y : Int)) := (HB.out.cell h2).trans h1
      have c1 : wr.cell? (ad.add q) = some (.int .u8 (y : Int)) := by
        rw [only_cell HG.out (cell_lt h3) (by intro e; simp at e; omega)]
        exact h3
      obtain ⟨hi, hhi⟩ : ∃ hi, y / 16 = hi := ⟨_, rfl⟩
      obtain ⟨lo, hlo⟩ : ∃ lo, y % 16 = lo := ⟨_, rfl⟩
      have e1 : bits .and .u8 (y : Int) 15 = (lo : Int) := by rw [and15 y hy8, hlo]
      have e2 : (y : Int) / 16 = (hi : Int) := by omega
      have bq : (q : Int) < (n : Int) := by omega
      have HLE := Lib.hid (show ((le (l.drop (q + 1))) * 16 + hi) * 16 + lo = le (l.drop q) by
        have hql : q < l.length := by rw [HLN.out]; exact hqn
        have hyq : l[q] = y := by rw [List.getElem?_eq_getElem hql] at hy; exact Option.some.inj hy
        rw [List.drop_eq_getElem_cons hql, le_cons, hyq]; omega)
      have bhi : hi < 16 := by omega
      have blo : lo < 16 := by omega
      clear hy hcell h1 h2 h3 hhi hlo
      go_wp2_with fail
      go_quiet (fail)
      clear e1 e2 c1 bq
      have HRB2 := Lib.hid (HRB.out.drewN nq)
      have HG2 := Lib.hid (only_drewN HG.out nq)
      obtain ⟨wa, hwa⟩ : ∃ wa, wr.drewN nq = wa := ⟨_, rfl⟩
      rw [hwa] at HRB2 HG2 ⊢
      clear hwa HRB HG
      obtain ⟨E, hE⟩ : ∃ E, le (l.drop (q + 1)) = E := ⟨_, rfl⟩
      rw [hE] at HRB2 HLE
      clear hE
      go_wp2_with fail
      go_loopw [36] (fun j wi => MidR v E hi lo gr wa j wi) (fun j _ => 2 - (intOf j).toNat)
      case atStart => exact ⟨0, by decide, rfl, HRB2.out, World.grownBy.refl _ _⟩
      case round =>
        obtain ⟨j, hj, rfl, hb, hg⟩ := hrel
        have HJB := Lib.hid hb
        have HJG := Lib.hid hg
        clear hb hg
        by_cases hlt : j < 2
        · obtain ⟨d, hd⟩ : ∃ d, (if j = 0 then hi else lo) = d := ⟨_, rfl⟩
          obtain ⟨F, hF⟩ : ∃ F, (if j = 0 then E else if j = 1 then E * 16 + hi else (E * 16 + hi) * 16 + lo) = F := ⟨_, rfl⟩
          rw [hF] at HJB
          have bd : d < 16 := by rw [← hd]; split <;> assumption
          have i0 := fun w => run_index_agg (P := Tryd.prog) (t := 77) (e := 5) (n := 2) (ik := .u8) Tryd.underlying77 Tryd.underlying5 (by kernel_rfl) #[.int .u8 (hi : Int), .int .u8 (lo : Int)] j (.int .u8 (d : Int)) hlt (by
            rw [← hd]
            match j, hlt with
            | 0, _ => rfl
            | 1, _ => rfl) w
          have HN := Lib.hid (show F * 16 + d = (if j + 1 = 0 then E else if j + 1 = 1 then E * 16 + hi else (E * 16 + hi) * 16 + lo) by
            rw [← hF, ← hd]
            match j, hlt with
            | 0, _ => rfl
            | 1, _ => rfl)
          clear hd hF
          obtain ⟨wb, hwb⟩ : ∃ wb, wr = wb := ⟨_, rfl⟩
          rw [hwb] at HJB HJG ⊢
          clear hwb
          have tj : decide ((j : Int) < 2) = true := by simp; omega
          go_wp2_with fail
          clear i0
          go_loopw [39] (fun m wi => InR v F gr wb m wi) (fun m _ => 4 - (intOf m).toNat)
          case atStart => exact ⟨0, by decide, rfl, by rw [Nat.pow_zero, Nat.mul_one]; exact HJB.out, World.grownBy.refl _ _⟩
          case round =>
            obtain ⟨m, hm, rfl, hb, hg⟩ := hrel
            have HMB := Lib.hid hb
            have HMG := Lib.hid hg
            have hC := cells5 hb
            clear hg
            by_cases hlm : m < 4
            · have SQ := fun w => Square_any (el (v ^ (F * 2 ^ m) % pp)) w (el_ok (mod_lt _))
              have e0 : (el (v ^ (F * 2 ^ m) % pp)).val * (el (v ^ (F * 2 ^ m) % pp)).val % pp = v ^ (F * 2 ^ (m + 1)) % pp := by rw [el_val, sq_pow, Nat.pow_succ, Nat.mul_assoc]
              simp only [e0] at SQ
              obtain ⟨r1, hr1⟩ : ∃ r, el (v ^ (F * 2 ^ m) % pp) = r := ⟨_, rfl⟩
              obtain ⟨r2, hr2⟩ : ∃ r, el (v ^ (F * 2 ^ (m + 1)) % pp) = r := ⟨_, rfl⟩
              simp only [hr1, hr2] at SQ
              rw [hr1] at hC
              obtain ⟨⟨a0, a1, a2, a3, a4⟩, -⟩ := hC
              have SQ := Lib.hid (show ∀ w, Calls Tryd.prog 30 #[(.agg #[.int .u64 (r1.a : Int), .int .u64 (r1.b : Int), .int .u64 (r1.c : Int), .int .u64 (r1.d : Int), .int .u64 (r1.e : Int)])] w fun e w' => e = .returned (.agg #[.int .u64 (r2.a : Int), .int .u64 (r2.b : Int), .int .u64 (r2.c : Int), .int .u64 (r2.d : Int), .int .u64 (r2.e : Int)]) ∧ Below w.heap.size w w' from SQ)
              have HR2 := Lib.hid hr2
              clear hb e0 hr1 hr2
              go_wp2_with fail
              refine (SQ.out _).mono ?_
              rintro e w5 ⟨rfl, hb5⟩
              obtain ⟨⟨d0, d1, d2, d3, d4⟩, f0, f1, f2, f3, f4⟩ := cells5 (HMB.out.below' hb5)
              have H5 := Lib.hid hb5
              clear hb5 a0 a1 a2 a3 a4
              go_wp2_with fail
              go_roundw
              case rel =>
                refine ⟨m + 1, by omega, by go_num, ?_, ?_⟩
                · rw [HR2.out]; exact set5_bl (HMB.out.below' H5.out) rfl _ _ _ _ _
                · exact only_set (p := ⟨gr, 4, none⟩) (only_set (p := ⟨gr, 3, none⟩) (only_set (p := ⟨gr, 2, none⟩) (only_set (p := ⟨gr, 1, none⟩) (only_set (p := ⟨gr, 0, none⟩) (only_then HMG.out (H5.out.mono HMG.out.size)) (.inl rfl) _) (.inl rfl) _) (.inl rfl) _) (.inl rfl) _) (.inl rfl) _
              case measure => simp [intOf]; omega
            · obtain rfl : m = 4 := by omega
              clear hb
              have hPw := (((HP.out.grown HG2.out (by simp; omega)).grown HJG.out (by simp; omega)).grown HMG.out (by simp; omega))
              have ML := fun w => Mul_any (el (v ^ (F * 2 ^ 4) % pp)) (el (v ^ d % pp)) w (el_ok (mod_lt _)) (el_ok (mod_lt _))
              have e0 : (el (v ^ (F * 2 ^ 4) % pp)).val * (el (v ^ d % pp)).val % pp = v ^ (F * 16 + d) % pp := by rw [el_val, el_val, mul_pow']
              simp only [e0] at ML
              have hq : ∀ i, i < 5 → wr.cell? ⟨gp, d * 5 + i, none⟩ = some (.int .u64 (((el (v ^ d % pp)).l.getD i 0 : Nat) : Int)) := fun i hi => by
                refine hPw.cell_ ?_
                rw [List.getElem?_toArray, nl_get?, show d * 5 + i = 5 * d + i by omega, pwl_get v d i bd hi]; rfl
              obtain ⟨r1, hr1⟩ : ∃ r, el (v ^ (F * 2 ^ 4) % pp) = r := ⟨_, rfl⟩
              obtain ⟨r2, hr2⟩ : ∃ r, el (v ^ (F * 16 + d) % pp) = r := ⟨_, rfl⟩
              obtain ⟨rp, hrp⟩ : ∃ r, el (v ^ d % pp) = r := ⟨_, rfl⟩
              simp only [hr1, hr2, hrp] at ML hq
              rw [hr1] at hC
              obtain ⟨⟨a0, a1, a2, a3, a4⟩, -⟩ := hC
              have q0 : wr.cell? ⟨gp, d * 5, none⟩ = some (.int .u64 (rp.a : Int)) := hq 0 (by decide)
              have q1 : wr.cell? ⟨gp, d * 5 + 1, none⟩ = some (.int .u64 (rp.b : Int)) := hq 1 (by decide)
              have q2 : wr.cell? ⟨gp, d * 5 + 2, none⟩ = some (.int .u64 (rp.c : Int)) := hq 2 (by decide)
              have q3 : wr.cell? ⟨gp, d * 5 + 3, none⟩ = some (.int .u64 (rp.d : Int)) := hq 3 (by decide)
              have q4 : wr.cell? ⟨gp, d * 5 + 4, none⟩ = some (.int .u64 (rp.e : Int)) := hq 4 (by decide)
              have ML := Lib.hid (show ∀ w, Calls Tryd.prog 28 #[(.agg #[.int .u64 (r1.a : Int), .int .u64 (r1.b : Int), .int .u64 (r1.c : Int), .int .u64 (r1.d : Int), .int .u64 (r1.e : Int)]), (.agg #[.int .u64 (rp.a : Int), .int .u64 (rp.b : Int), .int .u64 (rp.c : Int), .int .u64 (rp.d : Int), .int .u64 (rp.e : Int)])] w fun e w' => e = .returned (.agg #[.int .u64 (r2.a : Int), .int .u64 (r2.b : Int), .int .u64 (r2.c : Int), .int .u64 (r2.d : Int), .int .u64 (r2.e : Int)]) ∧ Below w.heap.size w w' from ML)
              have HR2 := Lib.hid hr2
              have bdi : (d : Int) < 16 := by omega
              clear e0 hr1 hr2 hrp hq hPw
              go_wp2_with fail
              go_still_tail 4, (by kernel_rfl)
              go_wp2_with fail
              refine (ML.out _).mono ?_
              rintro e w5 ⟨rfl, hb5⟩
              obtain ⟨⟨d0, d1, d2, d3, d4⟩, f0, f1, f2, f3, f4⟩ := cells5 (HMB.out.drew.below' hb5)
              have H5 := Lib.hid hb5
              clear hb5 a0 a1 a2 a3 a4 q0 q1 q2 q3 q4 bdi
              go_wp2_with fail
              go_roundw
              case rel =>
                refine ⟨j + 1, by omega, by go_num, ?_, ?_⟩
                · rw [← HN.out, HR2.out]; exact set5_bl (HMB.out.drew.below' H5.out) rfl _ _ _ _ _
                · exact only_set (p := ⟨gr, 4, none⟩) (only_set (p := ⟨gr, 3, none⟩) (only_set (p := ⟨gr, 2, none⟩) (only_set (p := ⟨gr, 1, none⟩) (only_set (p := ⟨gr, 0, none⟩) (only_then (only_drew (only_trans HJG.out HMG.out)) (H5.out.mono (only_trans HJG.out HMG.out).size)) (.inl rfl) _) (.inl rfl) _) (.inl rfl) _) (.inl rfl) _) (.inl rfl) _
              case measure => simp [intOf]; omega
        · obtain rfl : j = 2 := by omega
          go_wp2_with fail
          go_roundw
          case rel =>
            refine ⟨q, by rw [HLN.out]; omega, by go_num, ?_, only_trans HG2.out HJG.out⟩
            rw [← HLE.out]; exact HJB.out
          case measure => first | (simp [intOf]; done) | (simp [intOf]; omega)
end Go.Proofs.YteechlkccmcpfaaDoor.Fd
