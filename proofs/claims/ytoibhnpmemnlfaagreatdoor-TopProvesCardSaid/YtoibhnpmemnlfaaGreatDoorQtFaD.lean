/- Joined texts. -/
import Derived.StillTailTactics
import Derived.Lib.MakeNoZero
import Derived.Laws.CopyOwn
import Derived.Test.YtoibhnpmemnlfaaGreatDoorQtFaB
import Derived.Test.YtoibhnpmemnlfaaGreatDoorQtFaC
import Derived.Test.YtoibhnpmemnlfaaGreatDoorQtPuA
set_option linter.unusedVariables false
namespace Go.Proofs.YtoibhnpmemnlfaaGreatDoor.Fd
open Go.RowKit Go.Proofs.YtoibhnpmemnlfaaGreatDoor.Gn Go.Deep
def pwl(v:Nat):List Nat:=(List.range 16).flatMap fun j=>(el (v ^ j%pp)).l
theorem flat_len(f:Nat→List Nat)(hf:∀j,(f j).length=5):∀n,((List.range n).flatMap f).length=5*n:=by
 intro n
 induction n with
 |zero=>rfl
 |succ n ih=>rw[List.range_succ,List.flatMap_append,List.length_append,ih];simp[hf];omega
theorem flat_get(f:Nat→List Nat)(hf:∀j,(f j).length=5):∀n k i,k < n→i < 5→((List.range n).flatMap f)[5*k+i]?=(f k)[i]?:=by
 intro n
 induction n with
 |zero=>intro k i h;omega
 |succ n ih =>
  intro k i hk hi
  have hl:=flat_len f hf n
  rw[List.range_succ,List.flatMap_append]
  by_cases h:k < n
  ·rw[List.getElem?_append_left (by omega),ih k i h hi]
  ·have e:k=n:=by omega
   rw[List.getElem?_append_right (by omega),hl,e,show 5*n+i - 5*n=i by omega]
   simp
theorem pwl_len(v:Nat):(pwl v).length=80:=flat_len _ (fun _=>rfl) 16
theorem pwl_get(v k i:Nat)(hk:k < 16)(hi:i < 5):(pwl v)[5*k+i]?=some ((el (v ^ k%pp)).l.getD i 0):=by
 rw[pwl,flat_get _ (fun _=>rfl) 16 k i hk hi]
 have:i < (el (v ^ k%pp)).l.length:=hi
 rw[List.getD_eq_getElem?_getD,List.getElem?_eq_getElem this];rfl
theorem lay_get_lt(L:List Nat)(k i:Nat)(h:i < k)(hk:k≤L.length):(lay L k)[i]?=L[i]?:=by
 unfold lay
 rw[List.getElem?_append_left (by rw[List.length_take];omega),List.getElem?_take_of_lt h]
theorem lay_get_ge(L:List Nat)(k i:Nat)(h:k≤i)(hi:i < L.length):(lay L k)[i]?=some 0:=by
 unfold lay
 rw[List.getElem?_append_right (by rw[List.length_take];omega),List.length_take,List.getElem?_replicate,if_pos (by omega)]
theorem lay_five{w:World}{g:Nat}{t:TypeId}(L:List Nat)(k a b c d e:Nat)(h0:L[5*k]?=some a)(h1:L[5*k+1]?=some b)(h2:L[5*k+2]?=some c)(h3:L[5*k+3]?=some d)(h4:L[5*k+4]?=some e)
  (hb:Bl w g t (nl (lay L (5*k))).toArray) :
  Bl (((((w.setCell ⟨g,5*k,none⟩ (.int .u64 (a:Int))).setCell ⟨g,5*k+1,none⟩ (.int .u64 (b:Int))).setCell ⟨g,5*k+2,none⟩ (.int .u64 (c:Int))).setCell ⟨g,5*k+3,none⟩ (.int .u64 (d:Int))).setCell ⟨g,5*k+4,none⟩ (.int .u64 (e:Int))) g t (nl (lay L (5*(k+1)))).toArray:=by
 have:=((((hb.set_ (5*k) (.int .u64 (a:Int))).set_ (5*k+1) (.int .u64 (b:Int))).set_ (5*k+2) (.int .u64 (c:Int))).set_ (5*k+3) (.int .u64 (d:Int))).set_ (5*k+4) (.int .u64 (e:Int))
 rw[nl_set,nl_set,nl_set,nl_set,nl_set,lay_set L _ a h0,lay_set L _ b h1,lay_set L _ c h2,lay_set L _ d h3,lay_set L _ e h4] at this
 exact this
theorem info_elem:(Tryz.prog.info? 31).map (·.size)=some 5:=by kernel_rfl
theorem info_16:(Tryz.prog.info? 119).map (·.size)=some 80:=by kernel_rfl
theorem results_cell{fn:Func}{a:Tmp}{t:TypeId}(h:fn.results = #[.cell a t])(tmps:Array Value)(P:Program)(w:World)(ad:Addr)(v:Value)(ha:tmps.getD a undef=.pointer (some ad))(hl:(loadVar t ad).run P w=.ok v w) :
  (results fn tmps).run P w=.ok v w:=by
 have ha':tmps[a]?.getD undef=.pointer (some ad):=by simpa using ha
 simp[results,h,ha',hl,asAddr]
def PwRel(x:E5)(g:Nat)(w0:World)(i:Value)(wr:World):Prop :=
 ∃k:Nat,1≤k∧k≤16∧i=.int .i64 (k:Int)∧Bl wr g 119 (nl (lay (pwl x.val) (5*k))).toArray∧w0.grownBy wr (some g)
theorem set5_cell{w:World}{g o:Nat}{p:Addr}(a b c d e:Value)(h:p.block=g→p.off < o) :
  (((((w.setCell ⟨g,o,none⟩ a).setCell ⟨g,o+1,none⟩ b).setCell ⟨g,o+2,none⟩ c).setCell ⟨g,o+3,none⟩ d).setCell ⟨g,o+4,none⟩ e).cell? p=w.cell? p:=by
 have k:∀j,p≠⟨g,o+j,none⟩:=fun j e=>by
  have h1:=h (by rw[e])
  have h2:p.off=o+j:=by rw[e]
  omega
 rw[World.cell?_setCell_other _ _ _ _ (Ne.symm (k 4)),World.cell?_setCell_other _ _ _ _ (Ne.symm (k 3)),World.cell?_setCell_other _ _ _ _ (Ne.symm (k 2)),World.cell?_setCell_other _ _ _ _ (Ne.symm (k 1)),World.cell?_setCell_other _ _ _ _ (Ne.symm (show p≠⟨g,o,none⟩ from k 0))]
set_option maxRecDepth 100000 in
set_option maxHeartbeats 4000000 in
theorem powersOf_any (x : E5) (w : World) (hx : x.ok) :
    Calls Tryz.prog 89 #[.agg x.v] w fun e w' => e = .returned (.agg (nl (pwl x.val)).toArray) ∧ Below w.heap.size w w' := by
  have HX := Lib.hid hx
  have S1 := Lib.hid (fun w => Small_any 1 w (by decide))
  obtain ⟨v, hv⟩ : ∃ v, x.val = v := ⟨_, rfl⟩
  have HV := Lib.hid hv
  have hzz : Tryz.zeroCells119 = (nl (List.replicate 80 0)).toArray := by kernel_rfl
  have L0 : (((((Tryz.zeroCells119.toList.set 0 (Value.int .u64 1)).set 1 (.int .u64 0)).set 2 (.int .u64 0)).set 3 (.int .u64 0)).set 4 (.int .u64 0)) = nl (lay (pwl v) (5 * 1)) := by
    have h0 : (pwl v)[0]? = some 1 := by
      have := pwl_get v 0 0 (by decide) (by decide)
      rw [Nat.pow_zero, Nat.mod_eq_of_lt pp_one] at this; exact this
    have h1 : ∀ i, 1 ≤ i → i < 5 → (pwl v)[i]? = some 0 := fun i a b => by
      have := pwl_get v 0 i (by decide) b
      rw [Nat.pow_zero, Nat.mod_eq_of_lt pp_one, Nat.mul_zero, Nat.zero_add] at this
      rw [this]
      match i, a, b with
      | 1, _, _ => rfl
      | 2, _, _ => rfl
      | 3, _, _ => rfl
      | 4, _, _ => rfl
    have e : List.replicate 80 0 = lay (pwl v) 0 := by rw [lay_zero, pwl_len]
    have ns : ∀ (l : List Nat) k (y : Nat) (z : Int), (y : Int) = z → (nl l).set k (.int .u64 z) = nl (l.set k y) := fun l k y z h => by subst h; simp [nl, List.map_set]
    rw [hzz]
    show (((((nl (List.replicate 80 0)).set 0 (Value.int .u64 1)).set 1 (.int .u64 0)).set 2 (.int .u64 0)).set 3 (.int .u64 0)).set 4 (.int .u64 0) = _
    rw [e, ns _ 0 1 1 rfl, ns _ 1 0 0 rfl, ns _ 2 0 0 rfl, ns _ 3 0 0 rfl, ns _ 4 0 0 rfl, lay_set _ _ _ h0, lay_set _ _ _ (h1 1 (by decide) (by decide)), lay_set _ _ _ (h1 2 (by decide) (by decide)), lay_set _ _ _ (h1 3 (by decide) (by decide)), lay_set _ _ _ (h1 4 (by decide) (by decide))]
  have one : ∀ l : List Nat, ∀ u ∈ nl l, u.oneCell' = true := fun l u hu => by simp [nl] at hu; obtain ⟨y, -, rfl⟩ := hu; rfl
  have HONE := Lib.hid one
  have HL0 := Lib.hid L0
  have hr0 := Bl.new' (w := w.alloc (.cells x.v 31)) (g := w.heap.size + 1) 119 Tryz.zeroCells119 (by simp)
  have hx0 := (Bl.new_ w 31 x.v).alloc (.cells Tryz.zeroCells119 119)
  have hB0 := ((Below.refl w.heap.size w).alloc (Nat.le_refl _) (.cells x.v 31)).alloc (by simp) (.cells Tryz.zeroCells119 119)
  have hzs : Tryz.zeroCells119.size = 80 := by rw [hzz]; simp [nl]
  have HR0 := Lib.hid hr0
  have HX0 := Lib.hid hx0
  have HB0 := Lib.hid hB0
  clear hr0 hx0 hB0 one L0 hv hx
  have HZZ := Lib.hid hzz
  clear hzz
  go_enter Tryz.func89, Tryz.ntmps89
  go_wp2_with fail
  refine (S1.out _).mono ?_
  rintro e w1 ⟨he, hb1⟩
  obtain rfl : e = .returned (.agg #[.int .u64 1, .int .u64 0, .int .u64 0, .int .u64 0, .int .u64 0]) := he
  have HR1 := Lib.hid (HR0.out.below' hb1)
  have HX1 := Lib.hid (HX0.out.below' hb1)
  have HB1 := Lib.hid (below_nx HB0.out (Nat.le_refl _) hb1)
  clear hb1 HB0 HX0 HR0
  have hlt1 := HR1.out.lt
  have hn := Bl.new_ w1 119 Tryz.zeroCells119
  obtain ⟨w2, hrun, hb2, hg2⟩ := run_store_bl Tryz.prog hn 0 (nl (lay (pwl v) (5 * 1))) (by rw [hzs]; simp [nl, lay_len, pwl_len]) (HONE.out _)
  rw [← HL0.out] at hrun
  rw [spl_all _ _ (by rw [hzs]; simp [nl, lay_len, pwl_len])] at hb2
  have HB2 := Lib.hid hb2
  have HR2 := Lib.hid ((HR1.out.alloc (.cells Tryz.zeroCells119 119)).grown hg2 (by simp; omega))
  have HX2 := Lib.hid ((HX1.out.alloc (.cells Tryz.zeroCells119 119)).grown hg2 (by simp; omega))
  have hs2 : w.heap.size ≤ w1.heap.size := HB1.out.size
  have HW2 := Lib.hid (show Below w.heap.size w w2 from (HB1.out.alloc hs2 (.cells Tryz.zeroCells119 119)).grown hg2 (Nat.le_trans hs2 (by simp)) (by simp; omega))
  clear hn hg2 HR1 HX1 HB1 hb2
  go_wp2_with fail
  clear hrun
  obtain ⟨g, hg⟩ : ∃ g, w1.heap.size = g := ⟨_, rfl⟩
  have hwg : w.heap.size + 1 < g := by omega
  rw [hg] at HB2
  have hg2 : g < w2.heap.size := HB2.out.lt
  rw [hg]
  clear hlt1 hs2
  go_loopw [4] (fun i wr => PwRel x g w2 i wr) (fun i _ => 16 - (intOf i).toNat)
  case atStart => exact ⟨1, by decide, by decide, rfl, by rw [HV.out]; exact HB2.out, World.grownBy.refl w2 _⟩
  case round =>
    obtain ⟨k, hk1, hk, rfl, hb, hgr⟩ := hrel
    rw [HV.out] at hb
    have HB := Lib.hid hb
    have HG := Lib.hid hgr
    clear hgr
    by_cases hlt : k < 16
    · obtain ⟨p, hp⟩ : ∃ p, k = p + 1 := ⟨k - 1, by omega⟩
      have hM := fun w => Mul_any (el (v ^ p % pp)) x w (el_ok (mod_lt _)) HX.out
      have e0 : (el (v ^ p % pp)).val * x.val % pp = v ^ k % pp := by rw [el_val, HV.out, hp, Nat.pow_succ, Nat.mul_mod, Nat.mod_mod, ← Nat.mul_mod]
      simp only [e0] at hM
      obtain ⟨rp, hrp⟩ : ∃ r, el (v ^ p % pp) = r := ⟨_, rfl⟩
      obtain ⟨rk, hrk⟩ : ∃ r, el (v ^ k % pp) = r := ⟨_, rfl⟩
      simp only [hrp, hrk] at hM
      have HM := Lib.hid (show ∀ w, Calls Tryz.prog 38 #[(.agg #[.int .u64 (rp.a : Int), .int .u64 (rp.b : Int), .int .u64 (rp.c : Int), .int .u64 (rp.d : Int), .int .u64 (rp.e : Int)]), (.agg #[.int .u64 (x.a : Int), .int .u64 (x.b : Int), .int .u64 (x.c : Int), .int .u64 (x.d : Int), .int .u64 (x.e : Int)])] w fun e w' => e = .returned (.agg #[.int .u64 (rk.a : Int), .int .u64 (rk.b : Int), .int .u64 (rk.c : Int), .int .u64 (rk.d : Int), .int .u64 (rk.e : Int)]) ∧ Below w.heap.size w w' from hM)
      have hc : ∀ i, i < 5 → wr.cell? ⟨g, p * 5 + i, none⟩ = some (.int .u64 ((rp.l.getD i 0 : Nat) : Int)) := fun i hi => by
        refine hb.cell_ ?_
        rw [List.getElem?_toArray, nl_get?, lay_get_lt _ _ _ (by omega) (by rw [pwl_len]; omega), show p * 5 + i = 5 * p + i by omega, pwl_get v p i (by omega) hi, hrp]; rfl
      have hz : ∀ i, i < 5 → wr.cell? ⟨g, k * 5 + i, none⟩ = some (.int .u64 0) := fun i hi => by
        refine hb.cell_ ?_
        rw [List.getElem?_toArray, nl_get?, lay_get_ge _ _ _ (by omega) (by rw [pwl_len]; omega)]; rfl
      have hfz := fun i => hb.frozen i
      have hx : C5 wr w.heap.size x := c5_of (HX2.out.grown HG.out (by simp; omega))
      have hgl : g < wr.heap.size := hb.lt
      have ep : IntKind.i64.wrap ((k : Int) - 1) = (p : Int) := by rw [IntKind.wrap_i64]; omega
      have ep' : (k : Int) - 1 = (p : Int) := by omega
      have ep2 : IntKind.i64.wrap (p : Int) = (p : Int) := by rw [IntKind.wrap_i64]; omega
      have bp : (p : Int) < 16 := by omega
      have bk : (k : Int) < 16 := by omega
      have bk0 : (0 : Int) ≤ (k : Int) := by omega
      have b0 : (0 : Int) ≤ (p : Int) := by omega
      have SK := Lib.hid (show ∀ z : World, (∀ a : Addr, a.block < wr.heap.size → (a.block = g → a.off < k * 5) → z.cell? a = wr.cell? a) → (z.cell? ⟨g, p * 5, none⟩ = some (.int .u64 (rp.a : Int)) ∧ z.cell? ⟨g, p * 5 + 1, none⟩ = some (.int .u64 (rp.b : Int)) ∧ z.cell? ⟨g, p * 5 + 2, none⟩ = some (.int .u64 (rp.c : Int)) ∧ z.cell? ⟨g, p * 5 + 3, none⟩ = some (.int .u64 (rp.d : Int)) ∧ z.cell? ⟨g, p * 5 + 4, none⟩ = some (.int .u64 (rp.e : Int))) ∧ C5 z w.heap.size x from fun z h =>
        ⟨⟨(h _ hgl (fun _ => by simp; omega)).trans (hc 0 (by decide)), (h _ hgl (fun _ => by simp; omega)).trans (hc 1 (by decide)), (h _ hgl (fun _ => by simp; omega)).trans (hc 2 (by decide)), (h _ hgl (fun _ => by simp; omega)).trans (hc 3 (by decide)), (h _ hgl (fun _ => by simp; omega)).trans (hc 4 (by decide))⟩,
         (h _ (by simp; omega) (fun e => by simp at e; omega)).trans hx.1, (h _ (by simp; omega) (fun e => by simp at e; omega)).trans hx.2.1, (h _ (by simp; omega) (fun e => by simp at e; omega)).trans hx.2.2.1, (h _ (by simp; omega) (fun e => by simp at e; omega)).trans hx.2.2.2.1, (h _ (by simp; omega) (fun e => by simp at e; omega)).trans hx.2.2.2.2⟩)
      have S0 := Lib.hid (SK.out wr.drew (fun a _ _ => World.cell?_drew wr a))
      have HZ := Lib.hid hz
      have HF := Lib.hid hfz
      have HRK := Lib.hid hrk
      clear hc hz hfz hx hrp hrk hb hM e0 hp
      go_wp2_with fail
      go_region_held3 (fun z => (z.cell? ⟨g, p * 5, none⟩ = some (.int .u64 (rp.a : Int)) ∧ z.cell? ⟨g, p * 5 + 1, none⟩ = some (.int .u64 (rp.b : Int)) ∧ z.cell? ⟨g, p * 5 + 2, none⟩ = some (.int .u64 (rp.c : Int)) ∧ z.cell? ⟨g, p * 5 + 3, none⟩ = some (.int .u64 (rp.d : Int)) ∧ z.cell? ⟨g, p * 5 + 4, none⟩ = some (.int .u64 (rp.e : Int))) ∧ C5 z w.heap.size x)
        (first | (with_reducible exact S0.out) | (with_reducible exact S1.out) | (with_reducible exact S2.out))
        ((go_at_call 38; (with_reducible refine (HM.out _).mono ?_); rintro e w3 ⟨rfl, hb2⟩; have S1 := Lib.hid (SK.out w3 (fun a ha _ => hb2.cell ha)); have S2 := Lib.hid (SK.out (((((w3.setCell ⟨g, k * 5, none⟩ (.int .u64 (rk.a : Int))).setCell ⟨g, k * 5 + 1, none⟩ (.int .u64 (rk.b : Int))).setCell ⟨g, k * 5 + 2, none⟩ (.int .u64 (rk.c : Int))).setCell ⟨g, k * 5 + 3, none⟩ (.int .u64 (rk.d : Int))).setCell ⟨g, k * 5 + 4, none⟩ (.int .u64 (rk.e : Int))) (fun a ha hao => (set5_cell _ _ _ _ _ hao).trans (hb2.cell ha))); have z0 := (hb2.cell (p := ⟨g, k * 5, none⟩) hgl).trans (HZ.out 0 (by decide)); have z1 := (hb2.cell (p := ⟨g, k * 5 + 1, none⟩) hgl).trans (HZ.out 1 (by decide)); have z2 := (hb2.cell (p := ⟨g, k * 5 + 2, none⟩) hgl).trans (HZ.out 2 (by decide)); have z3 := (hb2.cell (p := ⟨g, k * 5 + 3, none⟩) hgl).trans (HZ.out 3 (by decide)); have z4 := (hb2.cell (p := ⟨g, k * 5 + 4, none⟩) hgl).trans (HZ.out 4 (by decide)); have f0 := (hb2.frozen (p := ⟨g, k * 5, none⟩) hgl).trans (HF.out _); have f1 := (hb2.frozen (p := ⟨g, k * 5 + 1, none⟩) hgl).trans (HF.out _); have f2 := (hb2.frozen (p := ⟨g, k * 5 + 2, none⟩) hgl).trans (HF.out _); have f3 := (hb2.frozen (p := ⟨g, k * 5 + 3, none⟩) hgl).trans (HF.out _); have f4 := (hb2.frozen (p := ⟨g, k * 5 + 4, none⟩) hgl).trans (HF.out _)))
      all_goals
        rename_i hHeld
        clear hHeld S0 S1 S2 SK ep ep' ep2 bp bk bk0 b0 f0 f1 f2 f3 f4 z0 z1 z2 z3 z4
        have HD := Lib.hid hb2
        clear hb2
        go_wp2
        go_roundw
        case rel =>
          refine ⟨k + 1, by omega, by omega, by go_num, ?_, ?_⟩
          · have gk := fun i (hi : i < 5) => pwl_get v k i hlt hi
            rw [HRK.out] at gk
            have := lay_five (pwl v) k rk.a rk.b rk.c rk.d rk.e (gk 0 (by decide)) (gk 1 (by decide)) (gk 2 (by decide)) (gk 3 (by decide)) (gk 4 (by decide)) (HB.out.drew.below' HD.out)
            rw [Nat.mul_comm 5 k] at this
            rw [HV.out]
            exact this
          · exact only_set (p := ⟨g, k * 5 + 4, none⟩) (only_set (p := ⟨g, k * 5 + 3, none⟩) (only_set (p := ⟨g, k * 5 + 2, none⟩) (only_set (p := ⟨g, k * 5 + 1, none⟩) (only_set (p := ⟨g, k * 5, none⟩) (only_then (only_drew HG.out) (HD.out.mono HG.out.size)) (.inl rfl) _) (.inl rfl) _) (.inl rfl) _) (.inl rfl) _) (.inl rfl) _
        case measure => simp [intOf]; omega
    · obtain rfl : k = 16 := by omega
      have hb' := hb
      rw [show 5 * 16 = (pwl v).length by rw [pwl_len], lay_all] at hb'
      have hr := HR2.out.grown HG.out (by simp; omega)
      have hW := HW2.out.grown HG.out HW2.out.size (by simp; omega)
      obtain ⟨w4, hrun, hb4, hg4⟩ := run_store_bl Tryz.prog hr 0 (nl (pwl v)) (by rw [hzs]; simp [nl, pwl_len]) (HONE.out _)
      rw [spl_all _ _ (by rw [hzs]; simp [nl, pwl_len])] at hb4
      have HW4 := Lib.hid (hW.grown hg4 hW.size (by simp))
      have HB' := Lib.hid hb'
      have HB4 := Lib.hid hb4
      have hps : (nl (pwl v)).length = 80 := by simp [nl, pwl_len]
      have HPS := Lib.hid hps
      clear hb hb' hr hW hb4 hg4
      go_wp2_with (refine wpList_load_bl rfl 119 _ rfl g 0 80 rfl 119 _ HB'.out _ (by simp [HPS.out]) (nl (pwl v)).toArray (extract_all (by simp [HPS.out])) Tryz.underlying119 rfl info_16 ?_)
      refine bodyPost_ret (v := .agg (nl (pwl v)).toArray) ?_ rfl ⟨by rw [HV.out], HW4.out⟩
      have hld := run_loadVar_row (P := Tryz.prog) w4 (w.heap.size + 1) 119 119 (nl (pwl v)).toArray (0, 0) _ HB4.out Tryz.underlying119 rfl (by rw [info_16]; simp [HPS.out])
      clear hrun HB4 HW4 HB' hk1 hk hlt HB HG
      exact results_cell Tryz.results89 _ _ _ _ _ rfl hld
end Go.Proofs.YtoibhnpmemnlfaaGreatDoor.Fd
namespace Go.Proofs.YtoibhnpmemnlfaaGreatDoor.Fd
open Go.RowKit Go.Proofs.YtoibhnpmemnlfaaGreatDoor.Gn Go.Deep
theorem and15(x:Nat)(hx:x < 256):bits .and .u8 (x:Int) 15=((x%16:Nat):Int):=by
 have h:∀y:Fin 256,bits .and .u8 ((y.val:Nat):Int) 15=((y.val%16:Nat):Int):=by decide +kernel
 exact h ⟨x,hx⟩
def InR(v F g:Nat)(w0:World)(i:Value)(wr:World):Prop :=
 ∃m:Nat,m≤4∧i=.int .i64 (m:Int)∧Bl wr g 31 (el (v ^ (F*2 ^ m)%pp)).v∧w0.grownBy wr (some g)
def MidR(v E hi lo g:Nat)(w0:World)(i:Value)(wr:World):Prop :=
 ∃j:Nat,j≤2∧i=.int .i64 (j:Int)∧Bl wr g 31 (el (v ^ (if j=0 then E else if j=1 then E*16+hi else(E*16+hi)*16+lo)%pp)).v∧w0.grownBy wr (some g)
def OutR(v:Nat)(l:List Nat)(g:Nat)(w0:World)(i:Value)(wr:World):Prop :=
 ∃r:Nat,r≤l.length∧i=.int .i64 ((r:Int) - 1)∧Bl wr g 31 (el (v ^ (le (l.drop r))%pp)).v∧w0.grownBy wr (some g)
theorem sq_pow(v E:Nat):(v ^ E%pp)*(v ^ E%pp)%pp=v ^ (E*2)%pp:=by
 rw[←Nat.mul_mod,Nat.mul_comm E 2,Nat.pow_mul,Nat.pow_two,Nat.mul_pow]
theorem mul_pow'(v E h:Nat):(v ^ E%pp)*(v ^ h%pp)%pp=v ^ (E+h)%pp:=by
 rw[←Nat.mul_mod,Nat.pow_add]
set_option maxRecDepth 100000 in
set_option maxHeartbeats 4000000 in
theorem pow_any(x:E5)(A:Option Addr)(n c:Nat)(l:List Nat)(w:World)(hx:x.ok)(hn:n≤64)(hl:∀y∈l,y < 256)(hs:Sl w A n (bl l)) :
  Calls Tryz.prog 81 #[.agg x.v,.slice A n c] w fun e w'=>DecR e (el (x.val ^ (le l)%pp)) 0∧Below w.heap.size w w':=by
 have hln:l.length=n:=by simpa[bl] using hs.1
 have P:=Lib.hid (show ∀w,Calls Tryz.prog 89 #[.agg #[.int .u64 (x.a:Int),.int .u64 (x.b:Int),.int .u64 (x.c:Int),.int .u64 (x.d:Int),.int .u64 (x.e:Int)]] w fun e w'=>e=.returned (.agg (nl (pwl x.val)).toArray)∧Below w.heap.size w w' from fun w=>powersOf_any x w hx)
 have S1:=Lib.hid (fun w=>Small_any 1 w (by decide))
 obtain⟨v,hv⟩:∃v,x.val=v:=⟨_,rfl⟩
 rw[hv] at P
 rw[hv]
 have g0:decide ((64:Int) < (n:Int))=false:=by simp;omega
 have hzz:Tryz.zeroCells119=(nl (List.replicate 80 0)).toArray:=by kernel_rfl
 have hzs:Tryz.zeroCells119.size=80:=by rw[hzz];simp[nl]
 have HONE:=Lib.hid (show ∀l:List Nat,∀u∈nl l,u.oneCell'=true from fun l u hu=>by simp[nl] at hu;obtain⟨y,-, rfl⟩:=hu;rfl)
 have HL:=Lib.hid hl
 have HS:=Lib.hid hs
 have HLN:=Lib.hid hln
 have hx0:=(Bl.new_ w 31 x.v).alloc (.cells z5 31)
 have hr0:=Bl.new' (w:=w.alloc (.cells x.v 31)) (g:=w.heap.size+1) 31 z5 (by simp)
 have hB0:=((Below.refl w.heap.size w).alloc (Nat.le_refl _) (.cells x.v 31)).alloc (by simp) (.cells z5 31)
 have HR0:=Lib.hid hr0
 have HB0:=Lib.hid hB0
 obtain⟨a0,a1,a2,a3,a4⟩:=c5_of hx0
 clear hx0 hr0 hB0 hzz hv hl hs hln hx
 unfold z5 at a0 a1 a2 a3 a4
 go_enter Tryz.func81,Tryz.ntmps81
 go_wp2_with fail
 refine(P.out _).mono ?_
 rintro e w1 ⟨rfl,hb1⟩
 have HR1:=Lib.hid (HR0.out.below' hb1)
 have HB1:=Lib.hid (below_nx HB0.out (Nat.le_refl _) hb1)
 clear hb1 HB0 HR0 a0 a1 a2 a3 a4
 have hlt1:=HR1.out.lt
 have hs1:=HB1.out.size
 have hps:(nl (pwl v)).length=80:=by simp[nl,pwl_len]
 obtain⟨w2,hrun,hb2,hg2⟩:=run_store_bl Tryz.prog (Bl.new_ w1 119 Tryz.zeroCells119) 0 (nl (pwl v)) (by rw[hzs,hps];decide) (HONE.out _)
 rw[spl_all _ _ (by rw[hzs,hps])] at hb2
 have HP2:=Lib.hid hb2
 have HR2:=Lib.hid ((HR1.out.alloc (.cells Tryz.zeroCells119 119)).grown hg2 (by simp;omega))
 have HB2:=Lib.hid ((HB1.out.alloc hs1 (.cells Tryz.zeroCells119 119)).grown hg2 (Nat.le_trans hs1 (by simp)) (by simp;omega))
 have hl2:w1.heap.size < w2.heap.size:=hb2.lt
 clear hg2 hb2 HR1 HB1
 have HPS:=Lib.hid hps
 go_wp2_with fail
 clear hrun
 refine(S1.out _).mono ?_
 rintro e w3 ⟨he,hb3⟩
 obtain rfl:e=.returned (.agg #[.int .u64 1,.int .u64 0,.int .u64 0,.int .u64 0,.int .u64 0]):=he
 -- the world at the loop's head
 obtain⟨gp,hgp⟩:∃gp,w1.heap.size=gp:=⟨_,rfl⟩
 obtain⟨gr,hgr⟩:∃gr,w3.heap.size=gr:=⟨_,rfl⟩
 rw[hgp] at HP2 hl2 hlt1 ⊢
 have hl3:gp < gr:=by have:=hb3.size;omega
 have HE:=Lib.hid (show(el 1).v = #[.int .u64 1,.int .u64 0,.int .u64 0,.int .u64 0,.int .u64 0] from rfl)
 have HA:=Lib.hid (show Bl (w3.alloc (.cells (el 1).v 31)) gr 31 (el 1).v from Bl.new' _ _ hgr)
 have HP:=Lib.hid ((HP2.out.below' hb3).alloc (.cells (el 1).v 31))
 have HR:=Lib.hid ((HR2.out.below' hb3).alloc (.cells (el 1).v 31))
 have HB:=Lib.hid ((below_nx HB2.out (Nat.le_refl _) hb3).alloc (by have:=HB2.out.size;have:=hb3.size;omega) (.cells (el 1).v 31))
 clear hb3 HP2 HR2 HB2 hgp
 rw[HE.out] at HA HP HR HB
 obtain⟨W,hW⟩:∃W,w3.alloc (.cells #[.int .u64 1,.int .u64 0,.int .u64 0,.int .u64 0,.int .u64 0] 31)=W:=⟨_,rfl⟩
 rw[hW] at HA HP HR HB
 have HW:=Lib.hid hW
 clear hW
 have en:(n:Int) - 1=(n:Int) - 1:=rfl
 go_wp2_with fail
 rw[HW.out]
 clear hgr en
 have hwg:w.heap.size+1 < gr:=by omega
 go_loopw [8] (fun i wr=>OutR v l gr W i wr) (fun i _=>(intOf i+1).toNat)
 case atStart =>
  refine⟨n,by rw[HLN.out];exact Nat.le_refl _,rfl,?_,World.grownBy.refl _ _⟩
  rw[List.drop_of_length_le (by rw[HLN.out];exact Nat.le_refl _),le_nil,Nat.pow_zero,Nat.mod_eq_of_lt pp_one,HE.out]
  exact HA.out
 case round =>
  obtain⟨r,hr,rfl,hb,hg⟩:=hrel
  rw[HLN.out] at hr
  have HRB:=Lib.hid hb
  have HG:=Lib.hid hg
  clear hb hg
  rcases Nat.eq_zero_or_pos r with h0|h0
  ·subst h0
   rw[show((0:Nat):Int) - 1=-1 by omega]
   rw[List.drop_zero] at HRB
   obtain⟨re,hre⟩:∃re,el (v ^ le l%pp)=re:=⟨_,rfl⟩
   rw[hre] at HRB
   have HRE:=Lib.hid hre
   obtain⟨⟨a0,a1,a2,a3,a4⟩,-⟩:=cells5 HRB.out
   obtain⟨⟨r0,r1,r2,r3,r4⟩,f0,f1,f2,f3,f4⟩:=cells5 (HR.out.grown HG.out (by simp;omega))
   have HF:=Lib.hid (HB.out.grown HG.out HB.out.size (by simp;omega))
   clear hre
   go_wp2_with fail
   refine bodyPost_ret (v:=.tuple #[.agg re.v,.int .i64 0]) ?_ rfl ⟨by rw[HRE.out];rfl,set5_below HF.out (by omega) _ _ _ _ _⟩
   simp[results,Tryz.results81,go_sem,E5.v,r0,r1,r2,r3,r4]
  ·obtain⟨q,rfl⟩:∃q,r=q+1:=⟨r - 1,by omega⟩
   rw[show((q+1:Nat):Int) - 1=(q:Int) by omega]
   obtain⟨y,hy⟩:∃y,l[q]?=some y:=⟨l[q]'(by have:=HLN.out;omega),List.getElem?_eq_getElem _⟩
   have hy8:=HL.out y (List.mem_of_getElem? hy)
   have hqn:q < n:=by omega
   obtain⟨ad,rfl,hcell⟩:=HS.out.at_ hqn
   have h1:w.cell? (ad.add q)=some (.int .u8 (y:Int)):=by rw[hcell];simp[bl,hy]
   have h2:=cell_lt h1
   have h3:W.cell? (ad.add q)=some (.int .u8 (y:Int)):=(HB.out.cell h2).trans h1
   have c1:wr.cell? (ad.add q)=some (.int .u8 (y:Int)):=by
    rw[only_cell HG.out (cell_lt h3) (by intro e;simp at e;omega)]
    exact h3
   obtain⟨hi,hhi⟩:∃hi,y / 16=hi:=⟨_,rfl⟩
   obtain⟨lo,hlo⟩:∃lo,y%16=lo:=⟨_,rfl⟩
   have e1:bits .and .u8 (y:Int) 15=(lo:Int):=by rw[and15 y hy8,hlo]
   have e2:(y:Int) / 16=(hi:Int):=by omega
   have bq:(q:Int) < (n:Int):=by omega
   have HLE:=Lib.hid (show((le (l.drop (q+1)))*16+hi)*16+lo=le (l.drop q) by
    have hql:q < l.length:=by rw[HLN.out];exact hqn
    have hyq:l[q]=y:=by rw[List.getElem?_eq_getElem hql] at hy;exact Option.some.inj hy
    rw[List.drop_eq_getElem_cons hql,le_cons,hyq];omega)
   have bhi:hi < 16:=by omega
   have blo:lo < 16:=by omega
   clear hy hcell h1 h2 h3 hhi hlo
   go_wp2_with fail
   go_quiet (fail)
   clear e1 e2 c1 bq
   have HRB2:=Lib.hid (HRB.out.drewN nq)
   have HG2:=Lib.hid (only_drewN HG.out nq)
   obtain⟨wa,hwa⟩:∃wa,wr.drewN nq=wa:=⟨_,rfl⟩
   rw[hwa] at HRB2 HG2 ⊢
   clear hwa HRB HG
   obtain⟨E,hE⟩:∃E,le (l.drop (q+1))=E:=⟨_,rfl⟩
   rw[hE] at HRB2 HLE
   clear hE
   go_wp2_with fail
   go_loopw [36] (fun j wi=>MidR v E hi lo gr wa j wi) (fun j _=>2 - (intOf j).toNat)
   case atStart=>exact⟨0,by decide,rfl,HRB2.out,World.grownBy.refl _ _⟩
   case round =>
    obtain⟨j,hj,rfl,hb,hg⟩:=hrel
    have HJB:=Lib.hid hb
    have HJG:=Lib.hid hg
    clear hb hg
    by_cases hlt:j < 2
    ·obtain⟨d,hd⟩:∃d,(if j=0 then hi else lo)=d:=⟨_,rfl⟩
     obtain⟨F,hF⟩:∃F,(if j=0 then E else if j=1 then E*16+hi else(E*16+hi)*16+lo)=F:=⟨_,rfl⟩
     rw[hF] at HJB
     have bd:d < 16:=by rw[←hd];split <;> assumption
     have i0:=fun w=>run_index_agg (P:=Tryz.prog) (t:=121) (e:=5) (n:=2) (ik:=.u8) Tryz.underlying121 Tryz.underlying5 (by kernel_rfl) #[.int .u8 (hi:Int),.int .u8 (lo:Int)] j (.int .u8 (d:Int)) hlt (by
      rw[←hd]
      match j,hlt with
      |0,_=>rfl
      |1,_=>rfl) w
     have HN:=Lib.hid (show F*16+d=(if j+1=0 then E else if j+1=1 then E*16+hi else(E*16+hi)*16+lo) by
      rw[←hF,←hd]
      match j,hlt with
      |0,_=>rfl
      |1,_=>rfl)
     clear hd hF
     obtain⟨wb,hwb⟩:∃wb,wr=wb:=⟨_,rfl⟩
     rw[hwb] at HJB HJG ⊢
     clear hwb
     have tj:decide ((j:Int) < 2)=true:=by simp;omega
     go_wp2_with fail
     clear i0
     go_loopw [39] (fun m wi=>InR v F gr wb m wi) (fun m _=>4 - (intOf m).toNat)
     case atStart=>exact⟨0,by decide,rfl,by rw[Nat.pow_zero,Nat.mul_one];exact HJB.out,World.grownBy.refl _ _⟩
     case round =>
      obtain⟨m,hm,rfl,hb,hg⟩:=hrel
      have HMB:=Lib.hid hb
      have HMG:=Lib.hid hg
      have hC:=cells5 hb
      clear hg
      by_cases hlm:m < 4
      ·have SQ:=fun w=>Square_any (el (v ^ (F*2 ^ m)%pp)) w (el_ok (mod_lt _))
       have e0:(el (v ^ (F*2 ^ m)%pp)).val*(el (v ^ (F*2 ^ m)%pp)).val%pp=v ^ (F*2 ^ (m+1))%pp:=by rw[el_val,sq_pow,Nat.pow_succ,Nat.mul_assoc]
       simp only[e0] at SQ
       obtain⟨r1,hr1⟩:∃r,el (v ^ (F*2 ^ m)%pp)=r:=⟨_,rfl⟩
       obtain⟨r2,hr2⟩:∃r,el (v ^ (F*2 ^ (m+1))%pp)=r:=⟨_,rfl⟩
       simp only[hr1,hr2] at SQ
       rw[hr1] at hC
       obtain⟨⟨a0,a1,a2,a3,a4⟩,-⟩:=hC
       have SQ:=Lib.hid (show ∀w,Calls Tryz.prog 58 #[(.agg #[.int .u64 (r1.a:Int),.int .u64 (r1.b:Int),.int .u64 (r1.c:Int),.int .u64 (r1.d:Int),.int .u64 (r1.e:Int)])] w fun e w'=>e=.returned (.agg #[.int .u64 (r2.a:Int),.int .u64 (r2.b:Int),.int .u64 (r2.c:Int),.int .u64 (r2.d:Int),.int .u64 (r2.e:Int)])∧Below w.heap.size w w' from SQ)
       have HR2:=Lib.hid hr2
       clear hb e0 hr1 hr2
       go_wp2_with fail
       refine(SQ.out _).mono ?_
       rintro e w5 ⟨rfl,hb5⟩
       obtain⟨⟨d0,d1,d2,d3,d4⟩,f0,f1,f2,f3,f4⟩:=cells5 (HMB.out.below' hb5)
       have H5:=Lib.hid hb5
       clear hb5 a0 a1 a2 a3 a4
       go_wp2_with fail
       go_roundw
       case rel =>
        refine⟨m+1,by omega,by go_num,?_,?_⟩
        ·rw[HR2.out];exact set5_bl (HMB.out.below' H5.out) rfl _ _ _ _ _
        ·exact only_set (p:=⟨gr,4,none⟩) (only_set (p:=⟨gr,3,none⟩) (only_set (p:=⟨gr,2,none⟩) (only_set (p:=⟨gr,1,none⟩) (only_set (p:=⟨gr,0,none⟩) (only_then HMG.out (H5.out.mono HMG.out.size)) (.inl rfl) _) (.inl rfl) _) (.inl rfl) _) (.inl rfl) _) (.inl rfl) _
       case measure=>simp[intOf];omega
      ·obtain rfl:m=4:=by omega
       clear hb
       have hPw:=(((HP.out.grown HG2.out (by simp;omega)).grown HJG.out (by simp;omega)).grown HMG.out (by simp;omega))
       have ML:=fun w=>Mul_any (el (v ^ (F*2 ^ 4)%pp)) (el (v ^ d%pp)) w (el_ok (mod_lt _)) (el_ok (mod_lt _))
       have e0:(el (v ^ (F*2 ^ 4)%pp)).val*(el (v ^ d%pp)).val%pp=v ^ (F*16+d)%pp:=by rw[el_val,el_val,mul_pow']
       simp only[e0] at ML
       have hq:∀i,i < 5→wr.cell? ⟨gp,d*5+i,none⟩=some (.int .u64 (((el (v ^ d%pp)).l.getD i 0:Nat):Int)):=fun i hi=>by
        refine hPw.cell_ ?_
        rw[List.getElem?_toArray,nl_get?,show d*5+i=5*d+i by omega,pwl_get v d i bd hi];rfl
       obtain⟨r1,hr1⟩:∃r,el (v ^ (F*2 ^ 4)%pp)=r:=⟨_,rfl⟩
       obtain⟨r2,hr2⟩:∃r,el (v ^ (F*16+d)%pp)=r:=⟨_,rfl⟩
       obtain⟨rp,hrp⟩:∃r,el (v ^ d%pp)=r:=⟨_,rfl⟩
       simp only[hr1,hr2,hrp] at ML hq
       rw[hr1] at hC
       obtain⟨⟨a0,a1,a2,a3,a4⟩,-⟩:=hC
       have q0:wr.cell? ⟨gp,d*5,none⟩=some (.int .u64 (rp.a:Int)):=hq 0 (by decide)
       have q1:wr.cell? ⟨gp,d*5+1,none⟩=some (.int .u64 (rp.b:Int)):=hq 1 (by decide)
       have q2:wr.cell? ⟨gp,d*5+2,none⟩=some (.int .u64 (rp.c:Int)):=hq 2 (by decide)
       have q3:wr.cell? ⟨gp,d*5+3,none⟩=some (.int .u64 (rp.d:Int)):=hq 3 (by decide)
       have q4:wr.cell? ⟨gp,d*5+4,none⟩=some (.int .u64 (rp.e:Int)):=hq 4 (by decide)
       have ML:=Lib.hid (show ∀w,Calls Tryz.prog 38 #[(.agg #[.int .u64 (r1.a:Int),.int .u64 (r1.b:Int),.int .u64 (r1.c:Int),.int .u64 (r1.d:Int),.int .u64 (r1.e:Int)]),(.agg #[.int .u64 (rp.a:Int),.int .u64 (rp.b:Int),.int .u64 (rp.c:Int),.int .u64 (rp.d:Int),.int .u64 (rp.e:Int)])] w fun e w'=>e=.returned (.agg #[.int .u64 (r2.a:Int),.int .u64 (r2.b:Int),.int .u64 (r2.c:Int),.int .u64 (r2.d:Int),.int .u64 (r2.e:Int)])∧Below w.heap.size w w' from ML)
       have HR2:=Lib.hid hr2
       have bdi:(d:Int) < 16:=by omega
       clear e0 hr1 hr2 hrp hq hPw
       go_wp2_with fail
       go_still_tail 4,(by kernel_rfl)
       go_wp2_with fail
       refine(ML.out _).mono ?_
       rintro e w5 ⟨rfl,hb5⟩
       obtain⟨⟨d0,d1,d2,d3,d4⟩,f0,f1,f2,f3,f4⟩:=cells5 (HMB.out.drew.below' hb5)
       have H5:=Lib.hid hb5
       clear hb5 a0 a1 a2 a3 a4 q0 q1 q2 q3 q4 bdi
       go_wp2_with fail
       go_roundw
       case rel =>
        refine⟨j+1,by omega,by go_num,?_,?_⟩
        ·rw[←HN.out,HR2.out];exact set5_bl (HMB.out.drew.below' H5.out) rfl _ _ _ _ _
        ·exact only_set (p:=⟨gr,4,none⟩) (only_set (p:=⟨gr,3,none⟩) (only_set (p:=⟨gr,2,none⟩) (only_set (p:=⟨gr,1,none⟩) (only_set (p:=⟨gr,0,none⟩) (only_then (only_drew (only_trans HJG.out HMG.out)) (H5.out.mono (only_trans HJG.out HMG.out).size)) (.inl rfl) _) (.inl rfl) _) (.inl rfl) _) (.inl rfl) _) (.inl rfl) _
       case measure=>simp[intOf];omega
    ·obtain rfl:j=2:=by omega
     go_wp2_with fail
     go_roundw
     case rel =>
      refine⟨q,by rw[HLN.out];omega,by go_num,?_,only_trans HG2.out HJG.out⟩
      rw[←HLE.out];exact HJB.out
     case measure=>first|(simp[intOf];done)|(simp[intOf];omega)
end Go.Proofs.YtoibhnpmemnlfaaGreatDoor.Fd
namespace Go.Proofs.YtoibhnpmemnlfaaGreatDoor.Fd
open Go.RowKit Go.Proofs.YtoibhnpmemnlfaaGreatDoor.Gn Go.Deep Go.Shelf
theorem mul_32(w:World):Calls Tryz.prog 87 #[.int .u64 1,.int .u64 32] w fun e w'=>e=.returned (.tuple #[.int .u64 0,.int .u64 32])∧w=w':=by
 have M:=Lib.hid (fun w=>mul64_c 1 32 0 32 (by decide) (by decide) (by decide) (by decide) w)
 go_enter Tryz.func87,Tryz.ntmps87
 go_wp2_with (go_at_call 75;refine(M.out _).mono ?_;rintro e w' ⟨rfl,rfl⟩)
 go_ret2
 exact⟨rfl,rfl⟩
theorem info_u8:(Tryz.prog.info? 5).map (·.size)=some 1:=by kernel_rfl
theorem noZero(w:World):∃cs:Array Value,(callFunc 88 #[.int .i64 32]).run Tryz.prog w=.ok (.value (.slice (some ⟨w.heap.size,0,none⟩) 32 cs.size)) (w.drew.drew.alloc (.cells cs 5))∧32≤cs.size∧cs.size≤maxLen:=by
 obtain⟨cs,hrun,h1,h2⟩:=Lib.run_makeNoZero (P:=Tryz.prog) w #[3] 22 5 Tryz.underlying22 32 (by decide)
 refine⟨cs,?_,h1,h2 (by decide)⟩
 rw[run_callFunc_extern Tryz.func88 (by kernel_rfl) (by kernel_rfl) (by kernel_rfl) (e:=Extern.BytealgMakeNoZero.makeNoZero #[3] #[22]) (by kernel_rfl)]
 rw[show((32:Nat):Int)=32 from rfl] at hrun
 rw[hrun];rfl
theorem run_copy_bl(P:Program){w:World}(dT sT ty elem:TypeId)(hu:P.underlying dT=some (.slice elem))(hsz:(P.info? elem).map (·.size)=some 1)
  (g off dLen dCap:Nat) (ad:Addr) (sLen sCap:Nat) (t:TypeId) (cs:Array Value) (hb:Bl w g t cs) (xs:List Value) (hsl:Sl w (some ad) sLen xs) (m:Nat) (hm:m=Nat.min sLen dLen) (hfit:off+m≤cs.size) (h1:∀v∈xs,v.oneCell'=true) :
  ∃w',(Builtin.copy_ #[dT,sT] ty #[.slice (some ⟨g,off,none⟩) dLen dCap,.slice (some ad) sLen sCap]).run P w=.ok (.int .i64 (m:Int)) w'∧Bl w' g t (spl cs off (xs.take m))∧w.grownBy w' (some g):=by
 have hlen:(xs.take m).length=m:=by rw[List.length_take,hsl.1,hm];exact Nat.min_eq_left (Nat.min_le_left _ _)
 have hrun:=run_copy_row (P:=P) w dT sT ty elem g off dLen dCap ad sLen sCap cs t (xs.take m) hu hsz hb (by rw[hlen,hm]) (fun j v hj=>by
  rw[List.getElem?_take] at hj
  split at hj
  ·obtain⟨ad',he,hc⟩:=hsl.2 j v hj
   cases he
   exact hc
  ·cases hj) (by rw[hlen];exact hfit) (fun v hv=>h1 v (List.mem_of_mem_take hv))
 rw[hlen] at hrun
 refine⟨_,hrun,?_,⟨rfl,rfl,rfl,by simp[World.setRow],fun i _ hn=>setRow_other w g i _ (fun e=>hn (by rw[e]))⟩⟩
 rw[spl_eq _ _ _ (by rw[hlen];exact hfit),hlen,List.append_assoc]
 exact setRow_heap w g cs _ t _ hb
def FF(cs:Array Value)(b:Nat):Prop:=∀i,i < b→cs[i]?=some (.int .u8 255)
def RpRel(g n:Nat)(w0:World)(b:Value)(wr:World):Prop :=
 ∃(k:Nat) (cs:Array Value),1≤k∧k≤32∧b=.int .i64 (k:Int)∧cs.size=n∧Bl wr g 5 cs∧FF cs k∧w0.grownBy wr (some g)
set_option maxHeartbeats 2000000 in
theorem repeat_any(h:Nat)(w:World)(hc:w.cell? ⟨h,0,none⟩=some (.int .u8 255)) :
  Calls Tryz.prog 80 #[.slice (some ⟨h,0,none⟩) 1 1,.int .i64 32] w fun e w'=>∃(g:Nat) (cs:Array Value),e=.returned (.slice (some ⟨g,0,none⟩) 32 32)∧w.heap.size≤g∧32≤cs.size∧Bl w' g 5 cs∧FF cs 32∧Below w.heap.size w w':=by
 obtain⟨cs,hnz,hs1,hs2⟩:=noZero w
 have HS2:=Lib.hid hs2
 have M:=Lib.hid (mul_32 w)
 have hlt:=cell_lt hc
 have hb0:Bl ((w.alloc (.cells cs 5)).drew.drew) w.heap.size 5 cs:=(Bl.new_ w _ cs).drew.drew
 have hsl0:Sl ((w.alloc (.cells cs 5)).drew.drew) (some ⟨h,0,none⟩) 1 [.int .u8 255]:=⟨rfl,fun k v hv=>by
  match k,hv with
  |0,hv =>
   simp at hv;subst hv
   exact⟨_,rfl,(((Below.refl w.heap.size w).alloc (Nat.le_refl _) (.cells cs 5)).drew.drew).cell (p:=⟨h,0,none⟩) hlt |>.trans hc⟩⟩
 have HB0:=Lib.hid hb0
 have HSL0:=Lib.hid hsl0
 clear hs2 hc hb0 hsl0
 have one1:∀v∈[Value.int .u8 255],v.oneCell'=true:=fun v hv=>by simp at hv;subst hv;rfl
 have H1:=Lib.hid one1
 clear one1
 go_enter Tryz.func80,Tryz.ntmps80
 go_wp2_with (first|(go_at_call 87;refine M.out.mono ?_;rintro e w' ⟨rfl,rfl⟩)|(with_reducible refine wpList_copy_bl rfl (.tmp 58) (.tmp 59) 22 22 rfl 5 Tryz.underlying22 info_u8 w.heap.size 0 32 32 ⟨h,0,none⟩ 1 1 rfl rfl 5 cs HB0.out _ HSL0.out 1 rfl (by omega) H1.out ?_;intro w2 hb2 hg2))
 have HF2:=Lib.hid (show FF (spl cs 0 [.int .u8 255]) 1 from fun i hi=>by
  obtain rfl:i=0:=by omega
  rw[spl_get _ _ _ _ (by simp;omega)];simp)
 have HB2:=Lib.hid hb2
 have HG2:=Lib.hid hg2
 have hs3:32≤(spl cs 0 [.int .u8 255]).size:=by rw[spl_size];exact hs1
 clear hb2 hg2 hnz
 go_loopw [10] (fun b wr=>RpRel w.heap.size (spl cs 0 [.int .u8 255]).size ((w.alloc (.cells cs 5)).drew.drew) b wr) (fun b _=>32 - (intOf b).toNat)
 case atStart=>exact⟨1,_,by decide,by decide,rfl,rfl,HB2.out,HF2.out,HG2.out⟩
 case round =>
  obtain⟨k,ds,hk1,hk,rfl,hsz,hb,hf,hg⟩:=hrel
  have HSZ:=Lib.hid hsz
  have HRB:=Lib.hid hb
  have HRF:=Lib.hid hf
  have HRG:=Lib.hid hg
  clear hsz hb hf hg
  by_cases hlt2:k < 32
  ·go_wp2_with fail
   obtain⟨dl,hdl⟩:∃dl,32 - k=dl:=⟨_,rfl⟩
   obtain⟨m,hm⟩:∃m,m=Nat.min k dl:=⟨_,rfl⟩
   have hml:m≤k∧m≤dl∧(m=k∨m=dl):=by have hm':m=min k dl:=hm;omega
   have hdi:32 - (k:Int)=(dl:Int):=by omega
   have hsl:Sl wr (some ⟨w.heap.size,0,none⟩) k (List.replicate k (.int .u8 255)):=⟨by simp,fun j v hv=>by
    have hj:j < k:=by have:=(List.getElem?_eq_some_iff.1 hv).1;simpa using this
    rw[List.getElem?_replicate,if_pos hj] at hv
    exact⟨_,rfl,by rw[add_at,←hv];exact HRB.out.cell_ (HRF.out j hj)⟩⟩
   have one:∀v∈List.replicate k (Value.int .u8 255),v.oneCell'=true:=fun v hv=>by
    obtain⟨-, rfl⟩:=List.mem_replicate.1 hv;rfl
   have HSLK:=Lib.hid (show Sl wr.drew (some ⟨w.heap.size,0,none⟩) k (List.replicate k (.int .u8 255)) from hsl)
   have HONE:=Lib.hid one
   have hds:ds.size=cs.size:=by rw[HSZ.out,spl_size]
   have hfit:k+m≤ds.size:=by omega
   obtain⟨w3,hrun,hb3,hg3⟩:=run_copy_bl Tryz.prog 22 22 3 5 Tryz.underlying22 info_u8 w.heap.size k dl dl ⟨w.heap.size,0,none⟩ k 32 5 ds HRB.out.drew _ HSLK.out m hm hfit HONE.out
   have HB3:=Lib.hid hb3
   have HG3:=Lib.hid hg3
   have HDS:=Lib.hid hds
   have HML:=Lib.hid hml
   clear hsl one hds hm hb3 hg3 hml HSLK HONE
   have tk:decide ((k:Int) < 32)=true:=by simp;omega
   have bk:(k:Int)≤32:=by omega
   have bk0:(0:Int)≤(k:Int):=by omega
   have n32:¬(32=k):=by omega
   have ekm:IntKind.i64.wrap ((k:Int)+(m:Int))=((k+m:Nat):Int):=by have:=HML.out;rw[IntKind.wrap_i64];omega
   go_wp2_with fail
   go_region
   all_goals
    clear tk bk bk0 n32 ekm hdi hrun hfit
    go_wp2
    go_roundw
    case rel =>
     have:=HML.out
     refine⟨k+m,_,by omega,by omega,by go_num,?_,HB3.out,?_,?_⟩
     ·rw[spl_size,HSZ.out]
     ·intro i hi
      rw[spl_get _ _ _ _ (by rw[List.length_take,List.length_replicate,HDS.out];omega),List.length_take,List.length_replicate]
      by_cases h:k≤i
      ·rw[if_pos (by omega),List.getElem?_take_of_lt (by omega),List.getElem?_replicate,if_pos (by omega)]
      ·rw[if_neg (by omega)];exact HRF.out i (by omega)
     ·exact only_trans (only_drew HRG.out) HG3.out
    case measure=>have:=HML.out;simp[intOf];omega
  ·obtain rfl:k=32:=by omega
   go_wp2_with fail
   go_ret
   refine⟨w.heap.size,ds,rfl,Nat.le_refl _,by rw[HSZ.out];exact hs3,HRB.out,HRF.out,?_⟩
   exact(((Below.refl w.heap.size w).alloc (Nat.le_refl _) (.cells cs 5)).drew.drew).grown HRG.out (by simp) (by simp)
end Go.Proofs.YtoibhnpmemnlfaaGreatDoor.Fd
namespace Go.Proofs.YtoibhnpmemnlfaaGreatDoor.Fd
open Go.RowKit Go.Proofs.YtoibhnpmemnlfaaGreatDoor.Gn Go.Deep
def pbl(a b:Nat):List Nat:=a :: (List.replicate 30 255 ++ [b])
theorem pbl_len(a b:Nat):(pbl a b).length=32:=by simp[pbl]
theorem pbl_lt(a b:Nat)(ha:a < 256)(hb:b < 256):∀x∈pbl a b,x < 256:=by
 intro x hx
 simp only[pbl,List.mem_cons,List.mem_append,List.mem_replicate,List.not_mem_nil,or_false] at hx
 omega
theorem le_inv:le (pbl 235 127)=pp - 2:=by rw[pp_eq];decide
theorem le_e8:le (pbl 253 15)=e8:=by
 have h:pp=8*e8+5:=e8_eq
 have:le (pbl 253 15)=(pp - 5) / 8:=by rw[pp_eq];decide
 omega
theorem pbl_cells(a b:Nat)(cs:Array Value)(h:FF cs 32)(hs:32≤cs.size):∀(k:Nat) (v:Value),(bl (pbl a b))[k]?=some v→((cs.setIfInBounds 0 (.int .u8 (a:Int))).setIfInBounds 31 (.int .u8 (b:Int)))[k]?=some v:=by
 intro k v hv
 have hk:k < 32:=by have:=(List.getElem?_eq_some_iff.1 hv).1;simpa[bl,pbl] using this
 rw[bl_get] at hv
 rw[Array.getElem?_setIfInBounds,Array.getElem?_setIfInBounds]
 by_cases h0:k=0
 ·subst h0
  rw[if_neg (by decide),if_pos rfl,if_pos (by omega)]
  simpa[pbl] using hv
 ·by_cases h1:k=31
  ·subst h1
   rw[if_pos rfl,if_pos (by simp;omega)]
   simpa[pbl] using hv
  ·rw[if_neg (by omega),if_neg (by omega),h k hk]
   obtain⟨j,rfl⟩:∃j,k=j+1:=⟨k - 1,by omega⟩
   have:(pbl a b)[j+1]?=some 255:=by
    show(a :: (List.replicate 30 255 ++ [b]))[j+1]?=_
    rw[List.getElem?_cons_succ,List.getElem?_append_left (by simp;omega),List.getElem?_replicate,if_pos (by omega)]
   rw[this] at hv
   simpa using hv
theorem loadE{w:World}{g:Nat}(x:E5)(h:Bl w g 31 x.v):(loadVar 31 ⟨g,0,none⟩).run Tryz.prog w=.ok (.agg x.v) w :=
 run_loadVar_row (P:=Tryz.prog) w g 31 31 x.v (0,0) _ h Tryz.underlying31 rfl info_elem
set_option maxHeartbeats 2000000 in
theorem power_any(x:E5)(a b:Nat)(w:World)(hx:x.ok)(ha:a < 256)(hb:b < 256) :
  Calls Tryz.prog 67 #[.agg x.v,.int .u8 (a:Int),.int .u8 (b:Int)] w fun e w'=>e=.returned (.agg (el (x.val ^ (le (pbl a b))%pp)).v)∧Below w.heap.size w w':=by
 have HX:=Lib.hid hx
 have HPL:=Lib.hid (pbl_lt a b ha hb)
 obtain⟨r,hr⟩:∃r,el (x.val ^ (le (pbl a b))%pp)=r:=⟨_,rfl⟩
 have HRR:=Lib.hid hr
 rw[hr]
 have hx0:=((Bl.new_ w 31 x.v).alloc (.cells z5 31)).alloc (.cells #[.int .u8 255] 5)
 have hr0:=(Bl.new' (w:=w.alloc (.cells x.v 31)) (g:=w.heap.size+1) 31 z5 (by simp)).alloc (.cells #[.int .u8 255] 5)
 have hc0:=(Bl.new' (w:=(w.alloc (.cells x.v 31)).alloc (.cells z5 31)) (g:=w.heap.size+1+1) 5 #[.int .u8 255] (by simp)).cell_ (i:=0) (v:=.int .u8 255) rfl
 have hB0:=(((Below.refl w.heap.size w).alloc (Nat.le_refl _) (.cells x.v 31)).alloc (by simp) (.cells z5 31)).alloc (by simp;omega) (.cells #[.int .u8 255] 5)
 have R:=Lib.hid (repeat_any (w.heap.size+1+1) _ hc0)
 have HX0:=Lib.hid hx0
 have HR0:=Lib.hid hr0
 have HB0:=Lib.hid hB0
 clear hx0 hr0 hc0 hB0 hx ha hb hr
 go_enter Tryz.func67,Tryz.ntmps67
 go_wp2_with fail
 refine R.out.mono ?_
 rintro e w1 ⟨g,cs,rfl,hg,hs,hb1,hf1,hbw⟩
 have HX1:=Lib.hid (HX0.out.below' hbw)
 have HR1:=Lib.hid (HR0.out.below' hbw)
 have HB1:=Lib.hid (below_nx HB0.out (Nat.le_refl _) hbw)
 have hgw:w.heap.size+1+1 < g:=by simp at hg;omega
 have c0:=hb1.cell_ (hf1 0 (by decide))
 have c31:=hb1.cell_ (hf1 31 (by decide))
 have f0:=hb1.frozen 0
 have f31:=hb1.frozen 31
 have HC1:=Lib.hid hb1
 have HF1:=Lib.hid hf1
 obtain⟨a0,a1,a2,a3,a4⟩:=c5_of HX1.out
 have hne:¬(g=w.heap.size):=by omega
 have hne':¬(w.heap.size=g):=by omega
 clear hb1 hf1 hbw hg
 go_wp2_with fail
 have hb2:=(HC1.out.set_ 0 (.int .u8 (a:Int))).set_ 31 (.int .u8 (b:Int))
 have hsl:Sl ((w1.setCell ⟨g,0,none⟩ (.int .u8 (a:Int))).setCell ⟨g,31,none⟩ (.int .u8 (b:Int))) (some ⟨g,0,none⟩) 32 (bl (pbl a b)) :=
  Sl.of_bl hb2 0 32 _ (by rw[bl_length,pbl_len]) (fun k v hv=>by rw[Nat.zero_add];exact pbl_cells a b cs HF1.out hs k v hv)
 refine(pow_any x _ 32 32 (pbl a b) _ HX.out (by decide) HPL.out hsl).mono ?_
 rintro e w2 ⟨he,hb3⟩
 unfold DecR at he
 rw[HRR.out] at he
 obtain rfl:e=.returned (.tuple #[.agg #[.int .u64 (r.a:Int),.int .u64 (r.b:Int),.int .u64 (r.c:Int),.int .u64 (r.d:Int),.int .u64 (r.e:Int)],.int .i64 0]):=he
 have hr1:=(HR1.out.other (p:=⟨g,0,none⟩) (by simp;omega) (.int .u8 (a:Int))).other (p:=⟨g,31,none⟩) (by simp;omega) (.int .u8 (b:Int))
 have hr2:=hr1.below' hb3
 have h2:=(HB1.out.setCell (p:=⟨g,0,none⟩) (by simp;omega) (.int .u8 (a:Int))).setCell (p:=⟨g,31,none⟩) (by simp;omega) (.int .u8 (b:Int))
 have H3:=Lib.hid (below_nx h2 (Nat.le_refl _) hb3)
 have hs2:=H3.out.size
 have hlr:=hr2.lt
 obtain⟨⟨r0,r1,r2,r3,r4⟩,q0,q1,q2,q3,q4⟩:=cells5 hr2
 have HZ2:=Lib.hid hr2
 clear hr1 hr2 h2 hb2 hsl hb3 c0 c31 f0 f31 a0 a1 a2 a3 a4
 go_wp2_with fail
 exact bodyPost_ret (results_cell Tryz.results67 _ _ _ _ _ rfl (loadE r ((set5_bl HZ2.out rfl _ _ _ _ _).alloc _))) rfl ⟨rfl,(set5_below H3.out (by omega) _ _ _ _ _).alloc (by simp[World.setCell];omega) _⟩
set_option maxHeartbeats 1000000 in
theorem Inv_any(x:E5)(w:World)(hx:x.ok) :
  Calls Tryz.prog 42 #[.agg x.v] w fun e w'=>e=.returned (.agg (el (x.val ^ (pp - 2)%pp)).v)∧Below w.heap.size w w':=by
 have S:=fun w=>power_any x 235 127 w hx (by decide) (by decide)
 rw[le_inv] at S
 obtain⟨r,hr⟩:∃r,el (x.val ^ (pp - 2)%pp)=r:=⟨_,rfl⟩
 simp only[hr] at S
 rw[hr]
 clear hr hx
 have S:=Lib.hid (show ∀w,Calls Tryz.prog 67 #[(.agg #[.int .u64 (x.a:Int),.int .u64 (x.b:Int),.int .u64 (x.c:Int),.int .u64 (x.d:Int),.int .u64 (x.e:Int)]),.int .u8 235,.int .u8 127] w fun e w'=>e=.returned (.agg #[.int .u64 (r.a:Int),.int .u64 (r.b:Int),.int .u64 (r.c:Int),.int .u64 (r.d:Int),.int .u64 (r.e:Int)])∧Below w.heap.size w w' from S)
 obtain⟨⟨a0,a1,a2,a3,a4⟩,-⟩:=cells5 (show Bl ((w.alloc (.cells x.v 31)).alloc (.cells z5 31)) w.heap.size 31 #[.int .u64 (x.a:Int),.int .u64 (x.b:Int),.int .u64 (x.c:Int),.int .u64 (x.d:Int),.int .u64 (x.e:Int)] from(Bl.new_ w _ x.v).alloc _)
 have HZ:=Lib.hid (show Bl ((w.alloc (.cells x.v 31)).alloc (.cells z5 31)) (w.heap.size+1) 31 z5 from Bl.new' _ _ (by simp))
 unfold z5 at a0 a1 a2 a3 a4
 go_enter Tryz.func42,Tryz.ntmps42
 go_wp2_with (go_at_call 67;(with_reducible refine(S.out _).mono ?_);rintro e w1 ⟨rfl,hb1⟩;have hz1:=HZ.out.below' hb1;obtain⟨⟨r0,r1,r2,r3,r4⟩,f0,f1,f2,f3,f4⟩:=cells5 hz1;have HB1:=Lib.hid hb1;clear hb1 hz1)
 have hB:=((Below.refl w.heap.size w).alloc (Nat.le_refl _) (.cells x.v 31)).alloc (by simp) (.cells z5 31)
 refine bodyPost_ret (v:=.agg r.v) ?_ rfl ⟨rfl,set5_below (hB.trans (HB1.out.mono (by simp;omega))) (by omega) _ _ _ _ _⟩
 simp[results,Tryz.results42,go_sem,E5.v,r0,r1,r2,r3,r4]
theorem k_alloc'{w w':World}{o:Obj}(h:Below (w.alloc o).heap.size (w.alloc o) w'):Below w.heap.size w w':=k_alloc h
theorem m_alloc'{w w':World}{cs:Array Value}{t:TypeId}(h:Below (w.alloc (.cells cs t)).heap.size (w.alloc (.cells cs t)) w'):Bl w' w.heap.size t cs:=m_alloc h
theorem cube'(y:Nat):cg ((y*y%pp)*y) (y ^ 3):=by
 exact((cg.mod (y*y)).mul (cg.rfl' y)).trans (cg.of_eq (by rw[Nat.pow_succ,Nat.pow_two]))
theorem seven(y:Nat):cg (((y ^ 3%pp)*(y ^ 3%pp)%pp)*y) (y ^ 7):=by
 exact((cg.mod _).trans (((cg.mod (y ^ 3)).mul (cg.mod (y ^ 3))).trans (cg.of_eq (by rw[←Nat.pow_add])))).mul (cg.rfl' y) |>.trans (cg.of_eq (by rw[←Nat.pow_succ]))
theorem first_r(x y:Nat):(x*(y ^ 3%pp)%pp)*((x*(y ^ 7%pp)%pp) ^ e8%pp)%pp=x*y ^ 3*(x*y ^ 7) ^ e8%pp:=by
 have h1:cg (x*(y ^ 3%pp)%pp) (x*y ^ 3):=(cg.mod _).trans ((cg.rfl' x).mul (cg.mod _))
 have h2:cg (x*(y ^ 7%pp)%pp) (x*y ^ 7):=(cg.mod _).trans ((cg.rfl' x).mul (cg.mod _))
 exact h1.mul ((cg.mod _).trans (h2.pow e8))
theorem got_r(r y:Nat):(r*r%pp)*y%pp=r*r*y%pp:=(cg.mod (r*r)).mul (cg.rfl' y)
theorem rt_a1(y:E5)(hy:y.ok)(w:World):Calls Tryz.prog 58 #[.agg y.v] w fun e w'=>e=.returned (.agg (el (y.val*y.val%pp)).v)∧Below w.heap.size w w':=by
 have h:=Square_any y w hy
 exact h
theorem rt_a2(y:E5)(hy:y.ok)(w:World):Calls Tryz.prog 38 #[.agg (el (y.val*y.val%pp)).v,.agg y.v] w fun e w'=>e=.returned (.agg (el (y.val ^ 3%pp)).v)∧Below w.heap.size w w':=by
 have h:=Mul_any (el (y.val*y.val%pp)) y w (el_ok (mod_lt _)) hy
 rw[el_val,cg_mod_eq (cube' y.val)] at h
 exact h
theorem rt_a3(v:Nat)(w:World):Calls Tryz.prog 58 #[.agg (el (v ^ 3%pp)).v] w fun e w'=>e=.returned (.agg (el ((v ^ 3%pp)*(v ^ 3%pp)%pp)).v)∧Below w.heap.size w w':=by
 have h:=Square_any (el (v ^ 3%pp)) w (el_ok (mod_lt _))
 rw[el_val] at h
 exact h
theorem rt_a4(y:E5)(hy:y.ok)(w:World):Calls Tryz.prog 38 #[.agg (el ((y.val ^ 3%pp)*(y.val ^ 3%pp)%pp)).v,.agg y.v] w fun e w'=>e=.returned (.agg (el (y.val ^ 7%pp)).v)∧Below w.heap.size w w':=by
 have h:=Mul_any (el ((y.val ^ 3%pp)*(y.val ^ 3%pp)%pp)) y w (el_ok (mod_lt _)) hy
 rw[el_val,cg_mod_eq (seven y.val)] at h
 exact h
theorem rt_a5(x:E5)(v:Nat)(hx:x.ok)(w:World):Calls Tryz.prog 38 #[.agg x.v,.agg (el (v%pp)).v] w fun e w'=>e=.returned (.agg (el (x.val*(v%pp)%pp)).v)∧Below w.heap.size w w':=by
 have h:=Mul_any x (el (v%pp)) w hx (el_ok (mod_lt _))
 rw[el_val] at h
 exact h
theorem rt_a7(n:Nat)(w:World):Calls Tryz.prog 67 #[.agg (el (n%pp)).v,.int .u8 253,.int .u8 15] w fun e w'=>e=.returned (.agg (el ((n%pp) ^ e8%pp)).v)∧Below w.heap.size w w':=by
 have h:=power_any (el (n%pp)) 253 15 w (el_ok (mod_lt _)) (by decide) (by decide)
 rw[el_val,le_e8] at h
 exact h
theorem rt_a8(a b:Nat)(w:World):Calls Tryz.prog 38 #[.agg (el (a%pp)).v,.agg (el (b%pp)).v] w fun e w'=>e=.returned (.agg (el ((a%pp)*(b%pp)%pp)).v)∧Below w.heap.size w w':=by
 have h:=Mul_any (el (a%pp)) (el (b%pp)) w (el_ok (mod_lt _)) (el_ok (mod_lt _))
 rw[el_val,el_val] at h
 exact h
theorem rt_a10(n:Nat)(y:E5)(hy:y.ok)(w:World):Calls Tryz.prog 38 #[.agg (el (n*n%pp)).v,.agg y.v] w fun e w'=>e=.returned (.agg (el (n*n*y.val%pp)).v)∧Below w.heap.size w w':=by
 have h:=Mul_any (el (n*n%pp)) y w (el_ok (mod_lt _)) hy
 rw[el_val,got_r] at h
 exact h
theorem root_lr(u v n q:Nat)(hn:u*v ^ 3*(u*v ^ 7) ^ e8%pp=n)(hq:n*n*v%pp=q) :
  rt u v=if q=ng u then some (ev (n*im%pp)) else if q=u%pp then some (ev n) else none:=by
 unfold rt
 dsimp only
 rw[hn,hq]
end Go.Proofs.YtoibhnpmemnlfaaGreatDoor.Fd
