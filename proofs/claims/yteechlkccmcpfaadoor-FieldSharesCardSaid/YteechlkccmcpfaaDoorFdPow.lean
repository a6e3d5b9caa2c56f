/-
  Powers of elements.
-/
import Derived.Test.YteechlkccmcpfaaDoorFdProd
import Derived.Test.YteechlkccmcpfaaDoorFdCode
namespace Go.Proofs.YteechlkccmcpfaaDoor.Fd
open Go.RowKit Go.Proofs.YteechlkccmcpfaaDoor.Gn Go.Deep
set_option linter.unusedVariables false

/-- The limbs of a number's first sixteen powers. -/
def pwl (v : Nat) : List Nat := (List.range 16).flatMap fun j => (el (v ^ j % pp)).l
theorem el_len (x : E5) : x.l.length = 5 := rfl
theorem flat_len (f : Nat → List Nat) (hf : ∀ j, (f j).length = 5) : ∀ n, ((List.range n).flatMap f).length = 5 * n := by
  intro n
  induction n with
  | zero => rfl
  | succ n ih => rw [List.range_succ, List.flatMap_append, List.length_append, ih]; simp [hf]; omega
theorem flat_get (f : Nat → List Nat) (hf : ∀ j, (f j).length = 5) : ∀ n k i, k < n → i < 5 → ((List.range n).flatMap f)[5 * k + i]? = (f k)[i]? := by
  intro n
  induction n with
  | zero => intro k i h; omega
  | succ n ih =>
    intro k i hk hi
    have hl := flat_len f hf n
    rw [List.range_succ, List.flatMap_append]
    by_cases h : k < n
    · rw [List.getElem?_append_left (by omega), ih k i h hi]
    · have e : k = n := by omega
      rw [List.getElem?_append_right (by omega), hl, e, show 5 * n + i - 5 * n = i by omega]
      simp
theorem pwl_len (v : Nat) : (pwl v).length = 80 := flat_len _ (fun _ => rfl) 16
theorem pwl_get (v k i : Nat) (hk : k < 16) (hi : i < 5) : (pwl v)[5 * k + i]? = some ((el (v ^ k % pp)).l.getD i 0) := by
  rw [pwl, flat_get _ (fun _ => rfl) 16 k i hk hi]
  have : i < (el (v ^ k % pp)).l.length := hi
  rw [List.getD_eq_getElem?_getD, List.getElem?_eq_getElem this]; rfl
theorem lay_get_lt (L : List Nat) (k i : Nat) (h : i < k) (hk : k ≤ L.length) : (lay L k)[i]? = L[i]? := by
  unfold lay
  rw [List.getElem?_append_left (by rw [List.length_take]; omega), List.getElem?_take_of_lt h]
theorem lay_get_ge (L : List Nat) (k i : Nat) (h : k ≤ i) (hi : i < L.length) : (lay L k)[i]? = some 0 := by
  unfold lay
  rw [List.getElem?_append_right (by rw [List.length_take]; omega), List.length_take, List.getElem?_replicate, if_pos (by omega)]
/-- Five limbs laid behind the others. -/
theorem lay_five {w : World} {g : Nat} {t : TypeId} (L : List Nat) (k a b c d e : Nat) (h0 : L[5 * k]? = some a) (h1 : L[5 * k + 1]? = some b) (h2 : L[5 * k + 2]? = some c) (h3 : L[5 * k + 3]? = some d) (h4 : L[5 * k + 4]? = some e)
    (hb : Bl w g t (nl (lay L (5 * k))).toArray) :
    Bl (((((w.setCell ⟨g, 5 * k, none⟩ (.int .u64 (a : Int))).setCell ⟨g, 5 * k + 1, none⟩ (.int .u64 (b : Int))).setCell ⟨g, 5 * k + 2, none⟩ (.int .u64 (c : Int))).setCell ⟨g, 5 * k + 3, none⟩ (.int .u64 (d : Int))).setCell ⟨g, 5 * k + 4, none⟩ (.int .u64 (e : Int))) g t (nl (lay L (5 * (k + 1)))).toArray := by
  have := ((((hb.set_ (5 * k) (.int .u64 (a : Int))).set_ (5 * k + 1) (.int .u64 (b : Int))).set_ (5 * k + 2) (.int .u64 (c : Int))).set_ (5 * k + 3) (.int .u64 (d : Int))).set_ (5 * k + 4) (.int .u64 (e : Int))
  rw [nl_set, nl_set, nl_set, nl_set, nl_set, lay_set L _ a h0, lay_set L _ b h1, lay_set L _ c h2, lay_set L _ d h3, lay_set L _ e h4] at this
  exact this
theorem info_elem : (Tryd.prog.info? 24).map (·.size) = some 5 := by kernel_rfl
theorem info_16 : (Tryd.prog.info? 75).map (·.size) = some 80 := by kernel_rfl
/-- A result that lies in memory. -/
theorem results_cell {fn : Func} {a : Tmp} {t : TypeId} (h : fn.results = #[.cell a t]) (tmps : Array Value) (P : Program) (w : World) (ad : Addr) (v : Value) (ha : tmps.getD a undef = .pointer (some ad)) (hl : (loadVar t ad).run P w = .ok v w) :
    (results fn tmps).run P w = .ok v w := by
  have ha' : tmps[a]?.getD undef = .pointer (some ad) := by simpa using ha
  simp [results, h, ha', hl, asAddr]
def PwRel (x : E5) (g : Nat) (w0 : World) (i : Value) (wr : World) : Prop :=
  ∃ k : Nat, 1 ≤ k ∧ k ≤ 16 ∧ i = .int .i64 (k : Int) ∧ Bl wr g 75 (nl (lay (pwl x.val) (5 * k))).toArray ∧ w0.grownBy wr (some g)
theorem set5_cell {w : World} {g o : Nat} {p : Addr} (a b c d e : Value) (h : p.block = g → p.off < o) :
    (((((w.setCell ⟨g, o, none⟩ a).setCell ⟨g, o + 1, none⟩ b).setCell ⟨g, o + 2, none⟩ c).setCell ⟨g, o + 3, none⟩ d).setCell ⟨g, o + 4, none⟩ e).cell? p = w.cell? p := by
  have k : ∀ j, p ≠ ⟨g, o + j, none⟩ := fun j e => by
    have h1 := h (by rw [e])
    have h2 : p.off = o + j := by rw [e]
    omega
  rw [World.cell?_setCell_other _ _ _ _ (Ne.symm (k 4)), World.cell?_setCell_other _ _ _ _ (Ne.symm (k 3)), World.cell?_setCell_other _ _ _ _ (Ne.symm (k 2)), World.cell?_setCell_other _ _ _ _ (Ne.symm (k 1)), World.cell?_setCell_other _ _ _ _ (Ne.symm (show p ≠ ⟨g, o, none⟩ from k 0))]
theorem v_list (x : E5) : x.v.toList = nl x.l := rfl
set_option maxRecDepth 100000 in
set_option maxHeartbeats 4000000 in
theorem powersOf_any (x : E5) (w : World) (hx : x.ok) :
    Calls Tryd.prog 61 #[.agg x.v] w fun e w' => e = .returned (.agg (nl (pwl x.val)).toArray) ∧ Below w.heap.size w w' := by
  have HX := Lib.hid hx
  have S1 := Lib.hid (fun w => Small_any 1 w (by decide))
  obtain ⟨v, hv⟩ : ∃ v, x.val = v := ⟨_, rfl⟩
  have HV := Lib.hid hv
  have hzz : Tryd.zeroCells75 = (nl (List.replicate 80 0)).toArray := by kernel_rfl
  have L0 : (((((Tryd.zeroCells75.toList.set 0 (Value.int .u64 1)).set 1 (.int .u64 0)).set 2 (.int .u64 0)).set 3 (.int .u64 0)).set 4 (.int .u64 0)) = nl (lay (pwl v) (5 * 1)) := by
    have h0 : (pwl v)[0]? = some 1 := by
      have := pwl_get v 0 0 (by decide) (by decide)
      rw [Nat.pow_zero, Nat.mod_eq_of_lt pp_one] at this; exact this
    have h1 : ∀ i, 1 ≤ i → i < 5 → (pwl v)[i]? = some 0 := fun i a b => by
      have := pwl_get v 0 i (by decide) b
      rw [Nat.pow_zero, Nat.mod_eq_of_lt pp_one, Nat.mul_zero, Nat.zero_add] at this
      rw [this]
      match i, a, b with
      | 1, _, _ => rfl
      | 2, _, _ => rfl
      | 3, _, _ => rfl
      | 4, _, _ => rfl
    have e : List.replicate 80 0 = lay (pwl v) 0 := by rw [lay_zero, pwl_len]
    have ns : ∀ (l : List Nat) k (y : Nat) (z : Int), (y : Int) = z → (nl l).set k (.int .u64 z) = nl (l.set k y) := fun l k y z h => by subst h; simp [nl, List.map_set]
    rw [hzz]
    show (((((nl (List.replicate 80 0)).set 0 (Value.int .u64 1)).set 1 (.int .u64 0)).set 2 (.int .u64 0)).set 3 (.int .u64 0)).set 4 (.int .u64 0) = _
    rw [e, ns _ 0 1 1 rfl, ns _ 1 0 0 rfl, ns _ 2 0 0 rfl, ns _ 3 0 0 rfl, ns _ 4 0 0 rfl, lay_set _ _ _ h0, lay_set _ _ _ (h1 1 (by decide) (by decide)), lay_set _ _ _ (h1 2 (by decide) (by decide)), lay_set _ _ _ (h1 3 (by decide) (by decide)), lay_set _ _ _ (h1 4 (by decide) (by decide))]
  have one : ∀ l : List Nat, ∀ u ∈ nl l, u.oneCell' = true := fun l u hu => by simp [nl] at hu; obtain ⟨y, -, rfl⟩ := hu; rfl
  have HONE := Lib.hid one
  have HL0 := Lib.hid L0
  have hr0 := Bl.new' (w := w.alloc (.cells x.v 24)) (g := w.heap.size + 1) 75 Tryd.zeroCells75 (by simp)
  have hx0 := (Bl.new_ w 24 x.v).alloc (.cells Tryd.zeroCells75 75)
  have hB0 := ((Below.refl w.heap.size w).alloc (Nat.le_refl _) (.cells x.v 24)).alloc (by simp) (.cells Tryd.zeroCells75 75)
  have hzs : Tryd.zeroCells75.size = 80 := by rw [hzz]; simp [nl]
  have HR0 := Lib.hid hr0
  have HX0 := Lib.hid hx0
  have HB0 := Lib.hid hB0
  clear hr0 hx0 hB0 one L0 hv hx
  have HZZ := Lib.hid hzz
  clear hzz
  go_enter Tryd.func61, Tryd.ntmps61
  go_wp2_with fail
  refine (S1.out _).mono ?_
  rintro e w1 ⟨he, hb1⟩
  obtain rfl : e = .returned (.agg #[.int .u64 1, .int .u64 0, .int .u64 0, .int .u64 0, .int .u64 0]) := he
  have HR1 := Lib.hid (HR0.out.below' hb1)
  have HX1 := Lib.hid (HX0.out.below' hb1)
  have HB1 := Lib.hid (below_nx HB0.out (Nat.le_refl _) hb1)
  clear hb1 HB0 HX0 HR0
  have hlt1 := HR1.out.lt
  have hn := Bl.new_ w1 75 Tryd.zeroCells75
  obtain ⟨w2, hrun, hb2, hg2⟩ := run_store_bl Tryd.prog hn 0 (nl (lay (pwl v) (5 * 1))) (by rw [hzs]; simp [nl, lay_len, pwl_len]) (HONE.out _)
  rw [← HL0.out] at hrun
  rw [spl_all _ _ (by rw [hzs]; simp [nl, lay_len, pwl_len])] at hb2
  have HB2 := Lib.hid hb2
  have HR2 := Lib.hid ((HR1.out.alloc (.cells Tryd.zeroCells75 75)).grown hg2 (by simp; omega))
  have HX2 := Lib.hid ((HX1.out.alloc (.cells Tryd.zeroCells75 75)).grown hg2 (by simp; omega))
  have hs2 : w.heap.size ≤ w1.heap.size := HB1.out.size
  have HW2 := Lib.hid (show Below w.heap.size w w2 from (HB1.out.alloc hs2 (.cells Tryd.zeroCells75 75)).grown hg2 (Nat.le_trans hs2 (by simp)) (by simp; omega))
  clear hn hg2 HR1 HX1 HB1 hb2
  go_wp2_with fail
  clear hrun
  obtain ⟨g, hg⟩ : ∃ g, w1.heap.size = g := ⟨_, rfl⟩
  have hwg : w.heap.size + 1 < g := by omega
  rw [hg] at HB2
  have hg2 : g < w2.heap.size := HB2.out.lt
  rw [hg]
  clear hlt1 hs2
  go_loopw [4] (fun i wr => PwRel x g w2 i wr) (fun i _ => 16 - (intOf i).toNat)
  case atStart => exact ⟨1, by decide, by decide, rfl, by rw [HV.out]; exact HB2.out, World.grownBy.refl w2 _⟩
  case round =>
    obtain ⟨k, hk1, hk, rfl, hb, hgr⟩ := hrel
    rw [HV.out] at hb
    have HB := Lib.hid hb
    have HG := Lib.hid hgr
    clear hgr
    by_cases hlt : k < 16
    · obtain ⟨p, hp⟩ : ∃ p, k = p + 1 := ⟨k - 1, by omega⟩
      have hM := fun w => Mul_any (el (v ^ p % pp)) x w (el_ok (mod_lt _)) HX.out
      have e0 : (el (v ^ p % pp)).val * x.val % pp = v ^ k % pp := by rw [el_val, HV.out, hp, Nat.pow_succ, Nat.mul_mod, Nat.mod_mod, ← Nat.mul_mod]
      simp only [e0] at hM
      obtain ⟨rp, hrp⟩ : ∃ r, el (v ^ p % pp) = r := ⟨_, rfl⟩
      obtain ⟨rk, hrk⟩ : ∃ r, el (v ^ k % pp) = r := ⟨_, rfl⟩
      simp only [hrp, hrk] at hM
      have HM := Lib.hid (show ∀ w, Calls Tryd.prog 28 #[(.agg #[.int .u64 (rp.a : Int), .int .u64 (rp.b : Int), .int .u64 (rp.c : Int), .int .u64 (rp.d : Int), .int .u64 (rp.e : Int)]), (.agg #[.int .u64 (x.a : Int), .int .u64 (x.b : Int), .int .u64 (x.c : Int), .int .u64 (x.d : Int), .int .u64 (x.e : Int)])] w fun e w' => e = .returned (.agg #[.int .u64 (rk.a : Int), .int .u64 (rk.b : Int), .int .u64 (rk.c : Int), .int .u64 (rk.d : Int), .int .u64 (rk.e : Int)]) ∧ Below w.heap.size w w' from hM)
      have hc : ∀ i, i < 5 → wr.cell? ⟨g, p * 5 + i, none⟩ = some (.int .u64 ((rp.l.getD i 0 : Nat) : Int)) := fun i hi => by
        refine hb.cell_ ?_
        rw [List.getElem?_toArray, nl_get?, lay_get_lt _ _ _ (by omega) (by rw [pwl_len]; omega), show p * 5 + i = 5 * p + i by omega, pwl_get v p i (by omega) hi, hrp]; rfl
      have hz : ∀ i, i < 5 → wr.cell? ⟨g, k * 5 + i, none⟩ = some (.int .u64 0) := fun i hi => by
        refine hb.cell_ ?_
        rw [List.getElem?_toArray, nl_get?, lay_get_ge _ _ _ (by omega) (by rw [pwl_len]; omega)]; rfl
      have hfz := fun i => hb.frozen i
      have hx : C5 wr w.heap.size x := c5_of (HX2.out.grown HG.out (by simp; omega))
      have hgl : g < wr.heap.size := hb.lt
      have ep : IntKind.i64.wrap ((k : Int) - 1) = (p : Int) := by rw [IntKind.wrap_i64]; omega
      have ep' : (k : Int) - 1 = (p : Int) := by omega
      have ep2 : IntKind.i64.wrap (p : Int) = (p : Int) := by rw [IntKind.wrap_i64]; omega
      have bp : (p : Int) < 16 := by omega
      have bk : (k : Int) < 16 := by omega
      have bk0 : (0 : Int) ≤ (k : Int) := by omega
      have b0 : (0 : Int) ≤ (p : Int) := by omega
      have SK := Lib.hid (show ∀ z : World, (∀ a : Addr, a.block < wr.heap.size → (a.block = g → a.off < k * 5) → z.cell? a = wr.cell? a) → (z.cell? ⟨g, p * 5, none⟩ = some (.int .u64 (rp.a : Int)) ∧ z.cell? ⟨g, p * 5 + 1, none⟩ = some (.int .u64 (rp.b : Int)) ∧ z.cell? ⟨g, p * 5 + 2, none⟩ = some (.int .u64 (rp.c : Int)) ∧ z.cell? ⟨g, p * 5 + 3, none⟩ = some (.int .u64 (rp.d : Int)) ∧ z.cell? ⟨g, p * 5 + 4, none⟩ = some (.int .u64 (rp.e : Int))) ∧ C5 z w.heap.size x from fun z h =>
        ⟨⟨(h _ hgl (fun _ => by simp; omega)).trans (hc 0 (by decide)), (h _ hgl (fun _ => by simp; omega)).trans (hc 1 (by decide)), (h _ hgl (fun _ => by simp; omega)).trans (hc 2 (by decide)), (h _ hgl (fun _ => by simp; omega)).trans (hc 3 (by decide)), (h _ hgl (fun _ => by simp; omega)).trans (hc 4 (by decide))⟩,
         (h _ (by simp; omega) (fun e => by simp at e; omega)).trans hx.1, (h _ (by simp; omega) (fun e => by simp at e; omega)).trans hx.2.1, (h _ (by simp; omega) (fun e => by simp at e; omega)).trans hx.2.2.1, (h _ (by simp; omega) (fun e => by simp at e; omega)).trans hx.2.2.2.1, (h _ (by simp; omega) (fun e => by simp at e; omega)).trans hx.2.2.2.2⟩)
      have S0 := Lib.hid (SK.out wr.drew (fun a _ _ => World.cell?_drew wr a))
      have HZ := Lib.hid hz
      have HF := Lib.hid hfz
      have HRK := Lib.hid hrk
      clear hc hz hfz hx hrp hrk hb hM e0 hp
      go_wp2_with fail
      go_region_held3 (fun z => (z.cell? ⟨g, p * 5, none⟩ = some (.int .u64 (rp.a : Int)) ∧ z.cell? ⟨g, p * 5 + 1, none⟩ = some (.int .u64 (rp.b : Int)) ∧ z.cell? ⟨g, p * 5 + 2, none⟩ = some (.int .u64 (rp.c : Int)) ∧ z.cell? ⟨g, p * 5 + 3, none⟩ = some (.int .u64 (rp.d : Int)) ∧ z.cell? ⟨g, p * 5 + 4, none⟩ = some (.int .u64 (rp.e : Int))) ∧ C5 z w.heap.size x)
        (first | (with_reducible exact S0.out) | (with_reducible exact S1.out) | (with_reducible exact S2.out))
        ((go_at_call 28; (with_reducible refine (HM.out _).mono ?_); rintro e w3 ⟨rfl, hb2⟩; have S1 := Lib.hid (SK.out w3 (fun a ha _ => hb2.cell ha)); have S2 := Lib.hid (SK.out (((((w3.setCell ⟨g, k * 5, none⟩ (.int .u64 (rk.a : Int))).setCell ⟨g, k * 5 + 1, none⟩ (.int .u64 (rk.b : Int))).setCell ⟨g, k * 5 + 2, none⟩ (.int .u64 (rk.c : Int))).setCell ⟨g, k * 5 + 3, none⟩ (.int .u64 (rk.d : Int))).setCell ⟨g, k * 5 + 4, none⟩ (.int .u64 (rk.e : Int))) (fun a ha hao => (set5_cell _ _ _ _ _ hao).trans (hb2.cell ha))); have z0 := (hb2.cell (p := ⟨g, k * 5, none⟩) hgl).trans (HZ.out 0 (by decide)); have z1 := (hb2.cell (p := ⟨g, k * 5 + 1, none⟩) hgl).trans (HZ.out 1 (by decide)); have z2 := (hb2.cell (p := ⟨g, k * 5 + 2, none⟩) hgl).trans (HZ.out 2 (by decide)); have z3 := (hb2.cell (p := ⟨g, k * 5 + 3, none⟩) hgl).trans (HZ.out 3 (by decide)); have z4 := (hb2.cell (p := ⟨g, k * 5 + 4, none⟩) hgl).trans (HZ.out 4 (by decide)); have f0 := (hb2.frozen (p := ⟨g, k * 5, none⟩) hgl).trans (HF.out _); have f1 := (hb2.frozen (p := ⟨g, k * 5 + 1, none⟩) hgl).trans (HF.out _); have f2 := (hb2.frozen (p := ⟨g, k * 5 + 2, none⟩) hgl).trans (HF.out _); have f3 := (hb2.frozen (p := ⟨g, k * 5 + 3, none⟩) hgl).trans (HF.out _); have f4 := (hb2.frozen (p := ⟨g, k * 5 + 4, none⟩) hgl).trans (HF.out _)))
      all_goals
        rename_i hHeld
        clear hHeld S0 S1 S2 SK ep ep' ep2 bp bk bk0 b0 f0 f1 f2 f3 f4 z0 z1 z2 z3 z4
        have HD := Lib.hid hb2
        clear hb2
        go_wp2
        go_roundw
        case rel =>
          refine ⟨k + 1, by omega, by omega, by go_num, ?_, ?_⟩
          · have gk := fun i (hi : i < 5) => pwl_get v k i hlt hi
            rw [HRK.out] at gk
            have := lay_five (pwl v) k rk.a rk.b rk.c rk.d rk.e (gk 0 (by decide)) (gk 1 (by decide)) (gk 2 (by decide)) (gk 3 (by decide)) (gk 4 (by decide)) (HB.out.drew.below' HD.out)
            rw [Nat.mul_comm 5 k] at this
            rw [HV.out]
            exact this
          · exact only_set (p := ⟨g, k * 5 + 4, none⟩) (only_set (p := ⟨g, k * 5 + 3, none⟩) (only_set (p := ⟨g, k * 5 + 2, none⟩) (only_set (p := ⟨g, k * 5 + 1, none⟩) (only_set (p := ⟨g, k * 5, none⟩) (only_then (only_drew HG.out) (HD.out.mono HG.out.size)) (.inl rfl) _) (.inl rfl) _) (.inl rfl) _) (.inl rfl) _) (.inl rfl) _
        case measure => simp [intOf]; omega
    · obtain rfl : k = 16 := by omega
      have hb' := hb
      rw [show 5 * 16 = (pwl v).length by rw [pwl_len], lay_all] at hb'
      have hr := HR2.out.grown HG.out (by simp; omega)
      have hW := HW2.out.grown HG.out HW2.out.size (by simp; omega)
      obtain ⟨w4, hrun, hb4, hg4⟩ := run_store_bl Tryd.prog hr 0 (nl (pwl v)) (by rw [hzs]; simp [nl, pwl_len]) (HONE.out _)
      rw [spl_all _ _ (by rw [hzs]; simp [nl, pwl_len])] at hb4
      have HW4 := Lib.hid (hW.grown hg4 hW.size (by simp))
      have HB' := Lib.hid hb'
      have HB4 := Lib.hid hb4
      have hps : (nl (pwl v)).length = 80 := by simp [nl, pwl_len]
      have HPS := Lib.hid hps
      clear hb hb' hr hW hb4 hg4
      go_wp2_with (refine wpList_load_bl rfl 75 _ rfl g 0 80 rfl 75 _ HB'.out _ (by simp [HPS.out]) (nl (pwl v)).toArray (extract_all (by simp [HPS.out])) Tryd.underlying75 rfl info_16 ?_)
      refine bodyPost_ret (v := .agg (nl (pwl v)).toArray) ?_ rfl ⟨by rw [HV.out], HW4.out⟩
      have hld := run_loadVar_row (P := Tryd.prog) w4 (w.heap.size + 1) 75 75 (nl (pwl v)).toArray (0, 0) _ HB4.out Tryd.underlying75 rfl (by rw [info_16]; simp [HPS.out])
      clear hrun HB4 HW4 HB' hk1 hk hlt HB HG
      exact results_cell Tryd.results61 _ _ _ _ _ rfl hld
end Go.Proofs.YteechlkccmcpfaaDoor.Fd
