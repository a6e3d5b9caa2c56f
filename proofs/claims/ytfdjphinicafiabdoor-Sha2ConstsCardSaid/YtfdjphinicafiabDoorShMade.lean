/-
  The contracts of made: the words that a block makes.
-/
import Derived.Test.YtfdjphinicafiabDoorShWord
import Derived.Test.YtfdjphinicafiabDoorGnRow
import Derived.Deep.RegionHeld3
import Derived.Deep.DrawnRows
import Derived.Deep.OwnRows
import Derived.Deep.RegionWith
namespace Go.Proofs.YtfdjphinicafiabDoor.Sh
open Go.RowKit Go.Proofs.YtfdjphinicafiabDoor.Gn Go.Deep
set_option linter.unusedVariables false
attribute [local go_sem ↓] Go.wp_at_zero Go.wp_at_succ

theorem ex_length (b : Bool) (l : List Nat) (n : Nat) : (ex b l n).length = 16 + n := by
  induction n with
  | zero => simp [ex]
  | succ n ih => simp [ex, ih]; omega
theorem ex_keep (b : Bool) (l : List Nat) (n j : Nat) (hj : j < 16 + n) : (ex b l (n + 1)).getD j 0 = (ex b l n).getD j 0 := by
  rw [ex, List.getD_eq_getElem?_getD, List.getD_eq_getElem?_getD, List.getElem?_append_left (by rw [ex_length]; exact hj)]
theorem ex_new (b : Bool) (l : List Nat) (n : Nat) : (ex b l (n + 1)).getD (16 + n) 0 = nx b (ex b l n) := by
  rw [ex, List.getD_eq_getElem?_getD, List.getElem?_append_right (by rw [ex_length]; omega), ex_length]; simp
theorem ex_first (b : Bool) (l : List Nat) (j : Nat) (hj : j < 16) : (ex b l 0).getD j 0 = fw b l j := by
  simp [ex, hj]
theorem nx_ex (b : Bool) (l : List Nat) (n : Nat) : nx b (ex b l n) = ((ex b l n).getD n 0 + s0 b ((ex b l n).getD (n + 1) 0) + (ex b l n).getD (n + 9) 0 + s1 b ((ex b l n).getD (n + 14) 0)) % mo b := by
  unfold nx
  rw [ex_length, show 16 + n - 16 = n by omega, show 16 + n - 15 = n + 1 by omega, show 16 + n - 7 = n + 9 by omega, show 16 + n - 2 = n + 14 by omega]
theorem fw_lt (b : Bool) (l : List Nat) (hl : ∀ x ∈ l, x < 256) (t : Nat) : fw b l t < mo b := by
  have h1 := jn_lt ((l.drop (t * (wd b / 8))).take (wd b / 8)) fun x hx => hl x (List.mem_of_mem_drop (List.mem_of_mem_take hx))
  have h2 : ((l.drop (t * (wd b / 8))).take (wd b / 8)).length ≤ wd b / 8 := List.length_take_le _ _
  refine Nat.lt_of_lt_of_le h1 (Nat.le_trans (Nat.pow_le_pow_right (by decide) h2) ?_)
  cases b <;> decide
theorem ex_lt (b : Bool) (l : List Nat) (hl : ∀ x ∈ l, x < 256) (n : Nat) : ∀ x ∈ ex b l n, x < mo b := by
  induction n with
  | zero =>
    intro x hx
    simp [ex] at hx
    obtain ⟨j, -, rfl⟩ := hx
    exact fw_lt b l hl j
  | succ n ih =>
    intro x hx
    unfold ex at hx
    rcases List.mem_append.1 hx with hx | hx
    · exact ih x hx
    · simp at hx
      subst hx
      unfold nx
      exact Nat.mod_lt _ (by cases b <;> decide)
theorem ex_get_lt (b : Bool) (l : List Nat) (hl : ∀ x ∈ l, x < 256) (n j : Nat) : (ex b l n).getD j 0 < mo b := by
  rw [List.getD_eq_getElem?_getD]
  cases h : (ex b l n)[j]? with
  | none => cases b <;> decide
  | some x => exact ex_lt b l hl n x (List.mem_of_getElem? h)
def zs (k : IntKind) (n : Nat) : Array Value := (List.replicate n (Value.int k 0)).toArray
/-- What made answers: an array whose first cells are the words. -/
def MadeEnd (b : Bool) (k : IntKind) (l : List Nat) (w : World) (e : Ending) (w' : World) : Prop :=
  ∃ arr : Array Value, e = .returned (.agg arr) ∧ arr.size = 80 ∧ (∀ j, j < rs b → arr[j]? = some (.int k (((wds b l).getD j 0 : Nat) : Int))) ∧ (∀ v ∈ arr.toList, v.oneCell' = true) ∧ Below w.heap.size w w'
theorem size32 : (Tryd.prog.info? 86).map (·.size) = some 80 := by kernel_rfl
def MW32 (w : World) (wr : World) (arr : Array Value) : Prop :=
  Bl wr (w.heap.size + 1 + 1) 86 arr ∧ Bl wr w.heap.size 77 (kv false) ∧ (∃ z : Array Value, z.size = 80 ∧ Bl wr (w.heap.size + 1) 86 z) ∧ Below w.heap.size w wr ∧ Ones arr
/-- The first loop: so many of the first words stand. -/
def M132 (l : List Nat) (w : World) (i : Value) (wr : World) : Prop :=
  ∃ (k : Nat) (arr : Array Value), k ≤ 16 ∧ i = .int .i64 (k : Int) ∧ arr.size = 80 ∧ (∀ j, j < k → arr[j]? = some (.int .u32 ((fw false l j : Nat) : Int))) ∧ MW32 w wr arr

/-- The second loop: so many of the further words. -/
def M232 (l : List Nat) (w : World) (i : Value) (wr : World) : Prop :=
  ∃ (k : Nat) (arr : Array Value), 16 ≤ k ∧ k ≤ 64 ∧ i = .int .i64 (k : Int) ∧ arr.size = 80 ∧ (∀ j, j < k → arr[j]? = some (.int .u32 (((ex false l (k - 16)).getD j 0 : Nat) : Int))) ∧ MW32 w wr arr

set_option maxRecDepth 100000 in
set_option maxHeartbeats 1000000 in
theorem made32_any (A : Option Addr) (c : Nat) (l : List Nat) (w : World) (hl : ∀ x ∈ l, x < 256) (hs : Sl w A 64 (bl l)) (hc : 64 ≤ c) :
    Calls Tryd.prog 60 #[.agg (kv false), .slice A 64 c] w fun e w' => MadeEnd false .u32 l w e w' := by
  have HL := Lib.hid hl
  have HS := Lib.hid hs
  clear hl hs
  rw [kv_false]
  go_enter Tryd.func60, Tryd.ntmps60
  go_wp2
  go_loopw [13] (fun i wr => M132 l w i wr) (fun i _ => 16 - (intOf i).toNat)
  case atStart =>
    refine ⟨0, _, Nat.zero_le _, rfl, ?_, fun j hj => by omega, Bl.new' _ _ (by simp), ((Bl.new_ w _ _).alloc _).alloc _, ⟨_, ?_, (Bl.new' (w := w.alloc _) _ _ (by simp)).alloc _⟩, ((Below.refl _ _).alloc (Nat.le_refl _) _).alloc (by simp) _ |>.alloc (by simp; omega) _, Ones.of_all ?_⟩
    all_goals kernel_rfl
  case round =>
    obtain ⟨k, arr, hk, rfl, hsz, harr, hm⟩ := hrel
    have HARR := Lib.hid harr
    have HM := Lib.hid hm
    clear harr hm
    have hks : k < arr.size := by omega
    have hcell := HM.out.1.cell k
    rw [Array.getElem?_eq_getElem hks] at hcell
    have hfz := HM.out.1.frozen k
    by_cases hlt : k < 16
    · have k1 : (k : Int) * 4 ≤ (c : Int) := by omega
      have k2 : ((k : Int) + 1) * 4 ≤ (c : Int) := by omega
      have hsl : Sl wr (Option.map (fun x => x.add (k * 4)) A) 4 (bl ((l.drop (k * 4)).take 4)) := by
        have h := (HS.out.below HM.out.2.2.2.1).drop_ (c := c) (k * 4) (by omega) (by omega)
        rw [if_neg (by omega), bl_drop] at h
        have h := h.take_ 4 (by omega)
        rwa [bl_take] at h
      have HSL := Lib.hid hsl
      clear hsl
      go_wp2_with fail
      refine (joined32_any _ _ _ (by omega) _ _ (fun x hx => HL.out x (List.mem_of_mem_drop (List.mem_of_mem_take hx))) HSL.out).mono ?_
      rintro e w' ⟨rfl, rfl⟩
      go_wp2
      go_roundw
      case rel =>
        refine ⟨k + 1, _, by omega, by go_num, by rw [Array.size_setIfInBounds]; exact hsz, ?_, HM.out.1.set_ _ _, ?_, ?_, ?_, HM.out.2.2.2.2.set_ _ _ rfl⟩
        · intro j hj
          rw [Array.getElem?_setIfInBounds]
          by_cases hjk : k = j
          · subst hjk; rw [if_pos rfl, if_pos hks]; rfl
          · rw [if_neg hjk]; exact HARR.out j (by omega)
        · exact HM.out.2.1.other (show w.heap.size ≠ w.heap.size + 1 + 1 by omega) _
        · obtain ⟨z, hz0, hz⟩ := HM.out.2.2.1
          exact ⟨z, hz0, hz.other (by simp) _⟩
        · exact HM.out.2.2.2.1.setCell (by simp; omega) _
      case measure => simp [intOf]; omega
    · have e16 : ((k : Nat) : Int) = 16 := by omega
      rw [e16]
      clear e16
      obtain rfl : k = 16 := by omega
      have HM1 := Lib.hid (show M232 l w (.int .i64 16) wr from ⟨16, arr, Nat.le_refl _, by omega, rfl, hsz, fun j hj => by rw [Nat.sub_self, ex_first _ _ _ hj]; exact HARR.out j hj, HM.out⟩)
      clear HM HARR hcell hfz hks hsz arr
      generalize hwr : wr = wx
      rw [hwr] at HM1
      clear hwr
      go_wp2_with fail
      go_loopw [8] (fun i wr => M232 l w i wr) (fun i _ => 64 - (intOf i).toNat)
      case atStart => exact HM1.out
      case round =>
        obtain ⟨k, arr, hk0, hk, rfl, hsz, harr, hm⟩ := hrel
        have HARR := Lib.hid harr
        have HM := Lib.hid hm
        clear harr hm HM1
        have kvs := HM.out.2.1.cell
        rw [kv_false] at kvs
        have kv0 := kvs 0
        have kv1 := kvs 1
        have kv2 := kvs 2
        have kv3 := kvs 3
        have kv4 := kvs 4
        have kv5 := kvs 5
        have kv6 := kvs 6
        have kv7 := kvs 7
        clear kvs
        simp only [List.getElem?_toArray, List.getElem?_cons_zero, List.getElem?_cons_succ] at kv0 kv1 kv2 kv3 kv4 kv5 kv6 kv7
        by_cases hlt : k < 64
        · have hks : k < arr.size := by omega
          have hcell := HM.out.1.cell k
          rw [Array.getElem?_eq_getElem hks] at hcell
          have hfz := HM.out.1.frozen k
          obtain ⟨old, hold⟩ : ∃ u, u = arr[k] := ⟨_, rfl⟩
          rw [← hold] at hcell
          clear hold
          obtain ⟨a0, ha0⟩ : ∃ a, a = (ex false l (k - 16)).getD (k - 16) 0 := ⟨_, rfl⟩
          obtain ⟨a1, ha1⟩ : ∃ a, a = (ex false l (k - 16)).getD (k - 15) 0 := ⟨_, rfl⟩
          obtain ⟨a9, ha9⟩ : ∃ a, a = (ex false l (k - 16)).getD (k - 7) 0 := ⟨_, rfl⟩
          obtain ⟨a14, ha14⟩ : ∃ a, a = (ex false l (k - 16)).getD (k - 2) 0 := ⟨_, rfl⟩
          have c0 := HM.out.1.cell (k - 16)
          have c1 := HM.out.1.cell (k - 15)
          have c9 := HM.out.1.cell (k - 7)
          have c14 := HM.out.1.cell (k - 2)
          rw [HARR.out _ (by omega), ← ha0] at c0
          rw [HARR.out _ (by omega), ← ha1] at c1
          rw [HARR.out _ (by omega), ← ha9] at c9
          rw [HARR.out _ (by omega), ← ha14] at c14
          have L1 := Lib.hid (show a1 < 4294967296 by rw [ha1]; exact ex_get_lt false l HL.out _ _)
          have L14 := Lib.hid (show a14 < 4294967296 by rw [ha14]; exact ex_get_lt false l HL.out _ _)
          have HA := Lib.hid (And.intro ha0 (And.intro ha1 (And.intro ha9 ha14)))
          clear ha0 ha1 ha9 ha14
          have q0 : IntKind.i64.wrap ((k : Int) - 16) = ((k - 16 : Nat) : Int) := by rw [IntKind.wrap_i64]; omega
          have q1 : IntKind.i64.wrap ((k : Int) - 15) = ((k - 15 : Nat) : Int) := by rw [IntKind.wrap_i64]; omega
          have q9 : IntKind.i64.wrap ((k : Int) - 7) = ((k - 7 : Nat) : Int) := by rw [IntKind.wrap_i64]; omega
          have q14 : IntKind.i64.wrap ((k : Int) - 2) = ((k - 2 : Nat) : Int) := by rw [IntKind.wrap_i64]; omega
          have b0 : ((k - 16 : Nat) : Int) < 80 := by omega
          have b1 : ((k - 15 : Nat) : Int) < 80 := by omega
          have b9 : ((k - 7 : Nat) : Int) < 80 := by omega
          have b14 : ((k - 2 : Nat) : Int) < 80 := by omega
          have bk : (k : Int) < 80 := by omega
          have SK := Lib.hid (show ∀ x : World, (∀ p : Addr, p ≠ ⟨w.heap.size + 1 + 1, k, none⟩ → ∀ v, wr.cell? p = some v → x.cell? p = some v) → x.cell? ⟨w.heap.size + 1 + 1, k - 16, none⟩ = some (.int .u32 (a0 : Int)) ∧ x.cell? ⟨w.heap.size + 1 + 1, k - 15, none⟩ = some (.int .u32 (a1 : Int)) ∧ x.cell? ⟨w.heap.size + 1 + 1, k - 7, none⟩ = some (.int .u32 (a9 : Int)) ∧ x.cell? ⟨w.heap.size + 1 + 1, k - 2, none⟩ = some (.int .u32 (a14 : Int))
              ∧ x.cell? ⟨w.heap.size, 0, none⟩ = some (.int .u64 32) ∧ x.cell? ⟨w.heap.size, 2, none⟩ = some (.int .u64 7) ∧ x.cell? ⟨w.heap.size, 3, none⟩ = some (.int .u64 18) ∧ x.cell? ⟨w.heap.size, 4, none⟩ = some (.int .u64 3) ∧ x.cell? ⟨w.heap.size, 5, none⟩ = some (.int .u64 17) ∧ x.cell? ⟨w.heap.size, 6, none⟩ = some (.int .u64 19) ∧ x.cell? ⟨w.heap.size, 7, none⟩ = some (.int .u64 10) from fun x h => ⟨h _ (by simp <;> omega) _ c0, h _ (by simp <;> omega) _ c1, h _ (by simp <;> omega) _ c9, h _ (by simp <;> omega) _ c14, h _ (by simp <;> omega) _ kv0, h _ (by simp <;> omega) _ kv2, h _ (by simp <;> omega) _ kv3, h _ (by simp <;> omega) _ kv4, h _ (by simp <;> omega) _ kv5, h _ (by simp <;> omega) _ kv6, h _ (by simp <;> omega) _ kv7⟩)
          have HC := Lib.hid hcell
          have HF := Lib.hid hfz
          clear hcell hfz
          go_wp2_with fail
          go_region_held3 (fun x => x.cell? ⟨w.heap.size + 1 + 1, k - 16, none⟩ = some (.int .u32 (a0 : Int)) ∧ x.cell? ⟨w.heap.size + 1 + 1, k - 15, none⟩ = some (.int .u32 (a1 : Int)) ∧ x.cell? ⟨w.heap.size + 1 + 1, k - 7, none⟩ = some (.int .u32 (a9 : Int)) ∧ x.cell? ⟨w.heap.size + 1 + 1, k - 2, none⟩ = some (.int .u32 (a14 : Int))
              ∧ x.cell? ⟨w.heap.size, 0, none⟩ = some (.int .u64 32) ∧ x.cell? ⟨w.heap.size, 2, none⟩ = some (.int .u64 7) ∧ x.cell? ⟨w.heap.size, 3, none⟩ = some (.int .u64 18) ∧ x.cell? ⟨w.heap.size, 4, none⟩ = some (.int .u64 3) ∧ x.cell? ⟨w.heap.size, 5, none⟩ = some (.int .u64 17) ∧ x.cell? ⟨w.heap.size, 6, none⟩ = some (.int .u64 19) ∧ x.cell? ⟨w.heap.size, 7, none⟩ = some (.int .u64 10))
            (first | exact SK.out _ (fun p _ v h => h) | exact SK.out _ (fun p _ v h => keepc hb1 h) | exact SK.out _ (fun p _ v h => keepc hb2 (keepc hb1 h)) | exact SK.out _ (fun p hp v h => (World.cell?_setCell_other _ _ _ _ (Ne.symm hp)).trans (keepc hb2 (keepc hb1 h))))
            (first | (go_at_call_of 65 (Value.int .u32 (a1 : Int)); refine (small32_0 a1 _ L1.out).mono ?_; rintro e w1 ⟨rfl, hb1⟩) | (go_at_call_of 65 (Value.int .u32 (a14 : Int)); refine (small32_1 a14 _ L14.out).mono ?_; rintro e w2 ⟨rfl, hb2⟩; have hcell2 := keepc hb2 (keepc hb1 HC.out); have hfz2 := keepf hb2 (keepc hb1 HC.out) (keepf hb1 HC.out HF.out)))
          rename_i hHeld
          clear hHeld
          have HB1 := Lib.hid hb1
          have HB2 := Lib.hid hb2
          clear hb1 hb2 c0 c1 c9 c14 q0 q1 q9 q14 b0 b1 b9 b14 kv0 kv1 kv2 kv3 kv4 kv5 kv6 kv7
          have hbw : Below wr.heap.size wr w2 := (((Below.refl _ _).drew).trans HB1.out).trans (HB2.out.mono HB1.out.size)
          have hx : Value.int .u32 (IntKind.u32.wrap (IntKind.u32.wrap (IntKind.u32.wrap ((a0 : Int) + ((s0 false a1 : Nat) : Int)) + (a9 : Int)) + ((s1 false a14 : Nat) : Int))) = .int .u32 ((nx false (ex false l (k - 16)) : Nat) : Int) := by
            obtain ⟨e0, e1, e9, e14⟩ := HA.out
            rw [nx_ex, show k - 16 + 1 = k - 15 by omega, show k - 16 + 9 = k - 7 by omega, show k - 16 + 14 = k - 2 by omega, ← e0, ← e1, ← e9, ← e14]
            rw [mo_false]
            simp only [IntKind.wrap_u32]
            congr 1
            omega
          rw [hx]
          have HW := Lib.hid hbw
          clear hx hbw hcell2 hfz2
          go_wp2
          go_roundw
          case rel =>
            refine ⟨k + 1, _, by omega, by omega, by go_num, by rw [Array.size_setIfInBounds]; exact hsz, ?_, (HM.out.1.below' HW.out).set_ _ _, ?_, ?_, ?_, HM.out.2.2.2.2.set_ _ _ rfl⟩
            · intro j hj
              rw [Array.getElem?_setIfInBounds]
              by_cases hjk : k = j
              · subst hjk
                rw [if_pos rfl, if_pos hks, show k + 1 - 16 = (k - 16) + 1 by omega]
                have := ex_new false l (k - 16)
                rw [show 16 + (k - 16) = k by omega] at this
                rw [this]
              · rw [if_neg hjk, HARR.out j (by omega), show k + 1 - 16 = (k - 16) + 1 by omega, ex_keep _ _ _ _ (by omega)]
            · exact (HM.out.2.1.below' HW.out).other (show w.heap.size ≠ w.heap.size + 1 + 1 by omega) _
            · obtain ⟨z, hz0, hz⟩ := HM.out.2.2.1
              exact ⟨z, hz0, (hz.below' HW.out).other (show w.heap.size + 1 ≠ w.heap.size + 1 + 1 by omega) _⟩
            · exact (HM.out.2.2.2.1.trans (HW.out.mono HM.out.2.2.2.1.size)).setCell (by simp; omega) _
          case measure => simp [intOf]; omega
        · obtain rfl : k = 64 := by omega
          obtain ⟨z, hz0, hz⟩ := HM.out.2.2.1
          have HZ := Lib.hid hz
          clear hz
          have HI := Lib.hid size32
          obtain ⟨w3, hst, hb3, hg3⟩ := run_store_bl Tryd.prog HZ.out 0 arr.toList (by rw [hz0, Array.length_toList, hsz]; decide) HM.out.2.2.2.2
          have HB3 := Lib.hid (show Bl w3 (w.heap.size + 1) 86 arr by
            have e := spl_all z arr.toList (by rw [hz0, Array.length_toList, hsz])
            rw [e, Array.toArray_toList] at hb3
            exact hb3)
          have HG3 := Lib.hid hg3
          clear hb3 hg3
          go_wp2_with (refine wpList_load_bl rfl 86 (.tmp 5) rfl (w.heap.size + 1 + 1) 0 80 rfl _ arr HM.out.1 _ (by omega) arr (extract_all hsz) Tryd.underlying86 rfl HI.out ?_)
          refine bodyPost_ret (v := .agg arr) (results_cell_row rfl _ _ (w.heap.size + 1) 86 arr (0, 0) _ rfl HB3.out Tryd.underlying86 rfl (by rw [hsz]; exact HI.out)) rfl ⟨arr, rfl, hsz, ?_, ?_, ?_⟩
          · exact HARR.out
          · exact HM.out.2.2.2.2
          · exact HM.out.2.2.2.1.grown HG3.out HM.out.2.2.2.1.size (fun k hk => by injection hk; omega)
theorem size64 : (Tryd.prog.info? 55).map (·.size) = some 80 := by kernel_rfl
def MW64 (w : World) (wr : World) (arr : Array Value) : Prop :=
  Bl wr (w.heap.size + 1 + 1) 55 arr ∧ Bl wr w.heap.size 77 (kv true) ∧ (∃ z : Array Value, z.size = 80 ∧ Bl wr (w.heap.size + 1) 55 z) ∧ Below w.heap.size w wr ∧ Ones arr
/-- The first loop: so many of the first words stand. -/
def M164 (l : List Nat) (w : World) (i : Value) (wr : World) : Prop :=
  ∃ (k : Nat) (arr : Array Value), k ≤ 16 ∧ i = .int .i64 (k : Int) ∧ arr.size = 80 ∧ (∀ j, j < k → arr[j]? = some (.int .u64 ((fw true l j : Nat) : Int))) ∧ MW64 w wr arr

/-- The second loop: so many of the further words. -/
def M264 (l : List Nat) (w : World) (i : Value) (wr : World) : Prop :=
  ∃ (k : Nat) (arr : Array Value), 16 ≤ k ∧ k ≤ 80 ∧ i = .int .i64 (k : Int) ∧ arr.size = 80 ∧ (∀ j, j < k → arr[j]? = some (.int .u64 (((ex true l (k - 16)).getD j 0 : Nat) : Int))) ∧ MW64 w wr arr

set_option maxRecDepth 100000 in
set_option maxHeartbeats 1000000 in
theorem made64_any (A : Option Addr) (c : Nat) (l : List Nat) (w : World) (hl : ∀ x ∈ l, x < 256) (hs : Sl w A 128 (bl l)) (hc : 128 ≤ c) :
    Calls Tryd.prog 62 #[.agg (kv true), .slice A 128 c] w fun e w' => MadeEnd true .u64 l w e w' := by
  have HL := Lib.hid hl
  have HS := Lib.hid hs
  clear hl hs
  rw [kv_true]
  go_enter Tryd.func62, Tryd.ntmps62
  go_wp2
  go_loopw [13] (fun i wr => M164 l w i wr) (fun i _ => 16 - (intOf i).toNat)
  case atStart =>
    refine ⟨0, _, Nat.zero_le _, rfl, ?_, fun j hj => by omega, Bl.new' _ _ (by simp), ((Bl.new_ w _ _).alloc _).alloc _, ⟨_, ?_, (Bl.new' (w := w.alloc _) _ _ (by simp)).alloc _⟩, ((Below.refl _ _).alloc (Nat.le_refl _) _).alloc (by simp) _ |>.alloc (by simp; omega) _, Ones.of_all ?_⟩
    all_goals kernel_rfl
  case round =>
    obtain ⟨k, arr, hk, rfl, hsz, harr, hm⟩ := hrel
    have HARR := Lib.hid harr
    have HM := Lib.hid hm
    clear harr hm
    have hks : k < arr.size := by omega
    have hcell := HM.out.1.cell k
    rw [Array.getElem?_eq_getElem hks] at hcell
    have hfz := HM.out.1.frozen k
    by_cases hlt : k < 16
    · have k1 : (k : Int) * 8 ≤ (c : Int) := by omega
      have k2 : ((k : Int) + 1) * 8 ≤ (c : Int) := by omega
      have hsl : Sl wr (Option.map (fun x => x.add (k * 8)) A) 8 (bl ((l.drop (k * 8)).take 8)) := by
        have h := (HS.out.below HM.out.2.2.2.1).drop_ (c := c) (k * 8) (by omega) (by omega)
        rw [if_neg (by omega), bl_drop] at h
        have h := h.take_ 8 (by omega)
        rwa [bl_take] at h
      have HSL := Lib.hid hsl
      clear hsl
      go_wp2_with fail
      refine (joined64_any _ _ _ (by omega) _ _ (fun x hx => HL.out x (List.mem_of_mem_drop (List.mem_of_mem_take hx))) HSL.out).mono ?_
      rintro e w' ⟨rfl, rfl⟩
      go_wp2
      go_roundw
      case rel =>
        refine ⟨k + 1, _, by omega, by go_num, by rw [Array.size_setIfInBounds]; exact hsz, ?_, HM.out.1.set_ _ _, ?_, ?_, ?_, HM.out.2.2.2.2.set_ _ _ rfl⟩
        · intro j hj
          rw [Array.getElem?_setIfInBounds]
          by_cases hjk : k = j
          · subst hjk; rw [if_pos rfl, if_pos hks]; rfl
          · rw [if_neg hjk]; exact HARR.out j (by omega)
        · exact HM.out.2.1.other (show w.heap.size ≠ w.heap.size + 1 + 1 by omega) _
        · obtain ⟨z, hz0, hz⟩ := HM.out.2.2.1
          exact ⟨z, hz0, hz.other (by simp) _⟩
        · exact HM.out.2.2.2.1.setCell (by simp; omega) _
      case measure => simp [intOf]; omega
    · have e16 : ((k : Nat) : Int) = 16 := by omega
      rw [e16]
      clear e16
      obtain rfl : k = 16 := by omega
      have HM1 := Lib.hid (show M264 l w (.int .i64 16) wr from ⟨16, arr, Nat.le_refl _, by omega, rfl, hsz, fun j hj => by rw [Nat.sub_self, ex_first _ _ _ hj]; exact HARR.out j hj, HM.out⟩)
      clear HM HARR hcell hfz hks hsz arr
      generalize hwr : wr = wx
      rw [hwr] at HM1
      clear hwr
      go_wp2_with fail
      go_loopw [8] (fun i wr => M264 l w i wr) (fun i _ => 80 - (intOf i).toNat)
      case atStart => exact HM1.out
      case round =>
        obtain ⟨k, arr, hk0, hk, rfl, hsz, harr, hm⟩ := hrel
        have HARR := Lib.hid harr
        have HM := Lib.hid hm
        clear harr hm HM1
        have kvs := HM.out.2.1.cell
        rw [kv_true] at kvs
        have kv0 := kvs 0
        have kv1 := kvs 1
        have kv2 := kvs 2
        have kv3 := kvs 3
        have kv4 := kvs 4
        have kv5 := kvs 5
        have kv6 := kvs 6
        have kv7 := kvs 7
        clear kvs
        simp only [List.getElem?_toArray, List.getElem?_cons_zero, List.getElem?_cons_succ] at kv0 kv1 kv2 kv3 kv4 kv5 kv6 kv7
        by_cases hlt : k < 80
        · have hks : k < arr.size := by omega
          have hcell := HM.out.1.cell k
          rw [Array.getElem?_eq_getElem hks] at hcell
          have hfz := HM.out.1.frozen k
          obtain ⟨old, hold⟩ : ∃ u, u = arr[k] := ⟨_, rfl⟩
          rw [← hold] at hcell
          clear hold
          obtain ⟨a0, ha0⟩ : ∃ a, a = (ex true l (k - 16)).getD (k - 16) 0 := ⟨_, rfl⟩
          obtain ⟨a1, ha1⟩ : ∃ a, a = (ex true l (k - 16)).getD (k - 15) 0 := ⟨_, rfl⟩
          obtain ⟨a9, ha9⟩ : ∃ a, a = (ex true l (k - 16)).getD (k - 7) 0 := ⟨_, rfl⟩
          obtain ⟨a14, ha14⟩ : ∃ a, a = (ex true l (k - 16)).getD (k - 2) 0 := ⟨_, rfl⟩
          have c0 := HM.out.1.cell (k - 16)
          have c1 := HM.out.1.cell (k - 15)
          have c9 := HM.out.1.cell (k - 7)
          have c14 := HM.out.1.cell (k - 2)
          rw [HARR.out _ (by omega), ← ha0] at c0
          rw [HARR.out _ (by omega), ← ha1] at c1
          rw [HARR.out _ (by omega), ← ha9] at c9
          rw [HARR.out _ (by omega), ← ha14] at c14
          have L1 := Lib.hid (show a1 < 18446744073709551616 by rw [ha1]; exact ex_get_lt true l HL.out _ _)
          have L14 := Lib.hid (show a14 < 18446744073709551616 by rw [ha14]; exact ex_get_lt true l HL.out _ _)
          have HA := Lib.hid (And.intro ha0 (And.intro ha1 (And.intro ha9 ha14)))
          clear ha0 ha1 ha9 ha14
          have q0 : IntKind.i64.wrap ((k : Int) - 16) = ((k - 16 : Nat) : Int) := by rw [IntKind.wrap_i64]; omega
          have q1 : IntKind.i64.wrap ((k : Int) - 15) = ((k - 15 : Nat) : Int) := by rw [IntKind.wrap_i64]; omega
          have q9 : IntKind.i64.wrap ((k : Int) - 7) = ((k - 7 : Nat) : Int) := by rw [IntKind.wrap_i64]; omega
          have q14 : IntKind.i64.wrap ((k : Int) - 2) = ((k - 2 : Nat) : Int) := by rw [IntKind.wrap_i64]; omega
          have b0 : ((k - 16 : Nat) : Int) < 80 := by omega
          have b1 : ((k - 15 : Nat) : Int) < 80 := by omega
          have b9 : ((k - 7 : Nat) : Int) < 80 := by omega
          have b14 : ((k - 2 : Nat) : Int) < 80 := by omega
          have bk : (k : Int) < 80 := by omega
          have SK := Lib.hid (show ∀ x : World, (∀ p : Addr, p ≠ ⟨w.heap.size + 1 + 1, k, none⟩ → ∀ v, wr.cell? p = some v → x.cell? p = some v) → x.cell? ⟨w.heap.size + 1 + 1, k - 16, none⟩ = some (.int .u64 (a0 : Int)) ∧ x.cell? ⟨w.heap.size + 1 + 1, k - 15, none⟩ = some (.int .u64 (a1 : Int)) ∧ x.cell? ⟨w.heap.size + 1 + 1, k - 7, none⟩ = some (.int .u64 (a9 : Int)) ∧ x.cell? ⟨w.heap.size + 1 + 1, k - 2, none⟩ = some (.int .u64 (a14 : Int))
              ∧ x.cell? ⟨w.heap.size, 0, none⟩ = some (.int .u64 64) ∧ x.cell? ⟨w.heap.size, 2, none⟩ = some (.int .u64 1) ∧ x.cell? ⟨w.heap.size, 3, none⟩ = some (.int .u64 8) ∧ x.cell? ⟨w.heap.size, 4, none⟩ = some (.int .u64 7) ∧ x.cell? ⟨w.heap.size, 5, none⟩ = some (.int .u64 19) ∧ x.cell? ⟨w.heap.size, 6, none⟩ = some (.int .u64 61) ∧ x.cell? ⟨w.heap.size, 7, none⟩ = some (.int .u64 6) from fun x h => ⟨h _ (by simp <;> omega) _ c0, h _ (by simp <;> omega) _ c1, h _ (by simp <;> omega) _ c9, h _ (by simp <;> omega) _ c14, h _ (by simp <;> omega) _ kv0, h _ (by simp <;> omega) _ kv2, h _ (by simp <;> omega) _ kv3, h _ (by simp <;> omega) _ kv4, h _ (by simp <;> omega) _ kv5, h _ (by simp <;> omega) _ kv6, h _ (by simp <;> omega) _ kv7⟩)
          have HC := Lib.hid hcell
          have HF := Lib.hid hfz
          clear hcell hfz
          go_wp2_with fail
          go_region_held3 (fun x => x.cell? ⟨w.heap.size + 1 + 1, k - 16, none⟩ = some (.int .u64 (a0 : Int)) ∧ x.cell? ⟨w.heap.size + 1 + 1, k - 15, none⟩ = some (.int .u64 (a1 : Int)) ∧ x.cell? ⟨w.heap.size + 1 + 1, k - 7, none⟩ = some (.int .u64 (a9 : Int)) ∧ x.cell? ⟨w.heap.size + 1 + 1, k - 2, none⟩ = some (.int .u64 (a14 : Int))
              ∧ x.cell? ⟨w.heap.size, 0, none⟩ = some (.int .u64 64) ∧ x.cell? ⟨w.heap.size, 2, none⟩ = some (.int .u64 1) ∧ x.cell? ⟨w.heap.size, 3, none⟩ = some (.int .u64 8) ∧ x.cell? ⟨w.heap.size, 4, none⟩ = some (.int .u64 7) ∧ x.cell? ⟨w.heap.size, 5, none⟩ = some (.int .u64 19) ∧ x.cell? ⟨w.heap.size, 6, none⟩ = some (.int .u64 61) ∧ x.cell? ⟨w.heap.size, 7, none⟩ = some (.int .u64 6))
            (first | exact SK.out _ (fun p _ v h => h) | exact SK.out _ (fun p _ v h => keepc hb1 h) | exact SK.out _ (fun p _ v h => keepc hb2 (keepc hb1 h)) | exact SK.out _ (fun p hp v h => (World.cell?_setCell_other _ _ _ _ (Ne.symm hp)).trans (keepc hb2 (keepc hb1 h))))
            (first | (go_at_call_of 68 (Value.int .u64 (a1 : Int)); refine (small64_0 a1 _ L1.out).mono ?_; rintro e w1 ⟨rfl, hb1⟩) | (go_at_call_of 68 (Value.int .u64 (a14 : Int)); refine (small64_1 a14 _ L14.out).mono ?_; rintro e w2 ⟨rfl, hb2⟩; have hcell2 := keepc hb2 (keepc hb1 HC.out); have hfz2 := keepf hb2 (keepc hb1 HC.out) (keepf hb1 HC.out HF.out)))
          rename_i hHeld
          clear hHeld
          have HB1 := Lib.hid hb1
          have HB2 := Lib.hid hb2
          clear hb1 hb2 c0 c1 c9 c14 q0 q1 q9 q14 b0 b1 b9 b14 kv0 kv1 kv2 kv3 kv4 kv5 kv6 kv7
          have hbw : Below wr.heap.size wr w2 := (((Below.refl _ _).drew).trans HB1.out).trans (HB2.out.mono HB1.out.size)
          have hx : Value.int .u64 (IntKind.u64.wrap (IntKind.u64.wrap (IntKind.u64.wrap ((a0 : Int) + ((s0 true a1 : Nat) : Int)) + (a9 : Int)) + ((s1 true a14 : Nat) : Int))) = .int .u64 ((nx true (ex true l (k - 16)) : Nat) : Int) := by
            obtain ⟨e0, e1, e9, e14⟩ := HA.out
            rw [nx_ex, show k - 16 + 1 = k - 15 by omega, show k - 16 + 9 = k - 7 by omega, show k - 16 + 14 = k - 2 by omega, ← e0, ← e1, ← e9, ← e14]
            rw [mo_true]
            simp only [IntKind.wrap_u64]
            congr 1
            omega
          rw [hx]
          have HW := Lib.hid hbw
          clear hx hbw hcell2 hfz2
          go_wp2
          go_roundw
          case rel =>
            refine ⟨k + 1, _, by omega, by omega, by go_num, by rw [Array.size_setIfInBounds]; exact hsz, ?_, (HM.out.1.below' HW.out).set_ _ _, ?_, ?_, ?_, HM.out.2.2.2.2.set_ _ _ rfl⟩
            · intro j hj
              rw [Array.getElem?_setIfInBounds]
              by_cases hjk : k = j
              · subst hjk
                rw [if_pos rfl, if_pos hks, show k + 1 - 16 = (k - 16) + 1 by omega]
                have := ex_new true l (k - 16)
                rw [show 16 + (k - 16) = k by omega] at this
                rw [this]
              · rw [if_neg hjk, HARR.out j (by omega), show k + 1 - 16 = (k - 16) + 1 by omega, ex_keep _ _ _ _ (by omega)]
            · exact (HM.out.2.1.below' HW.out).other (show w.heap.size ≠ w.heap.size + 1 + 1 by omega) _
            · obtain ⟨z, hz0, hz⟩ := HM.out.2.2.1
              exact ⟨z, hz0, (hz.below' HW.out).other (show w.heap.size + 1 ≠ w.heap.size + 1 + 1 by omega) _⟩
            · exact (HM.out.2.2.2.1.trans (HW.out.mono HM.out.2.2.2.1.size)).setCell (by simp; omega) _
          case measure => simp [intOf]; omega
        · obtain rfl : k = 80 := by omega
          obtain ⟨z, hz0, hz⟩ := HM.out.2.2.1
          have HZ := Lib.hid hz
          clear hz
          have HI := Lib.hid size64
          obtain ⟨w3, hst, hb3, hg3⟩ := run_store_bl Tryd.prog HZ.out 0 arr.toList (by rw [hz0, Array.length_toList, hsz]; decide) HM.out.2.2.2.2
          have HB3 := Lib.hid (show Bl w3 (w.heap.size + 1) 55 arr by
            have e := spl_all z arr.toList (by rw [hz0, Array.length_toList, hsz])
            rw [e, Array.toArray_toList] at hb3
            exact hb3)
          have HG3 := Lib.hid hg3
          clear hb3 hg3
          go_wp2_with (refine wpList_load_bl rfl 55 (.tmp 5) rfl (w.heap.size + 1 + 1) 0 80 rfl _ arr HM.out.1 _ (by omega) arr (extract_all hsz) Tryd.underlying55 rfl HI.out ?_)
          refine bodyPost_ret (v := .agg arr) (results_cell_row rfl _ _ (w.heap.size + 1) 55 arr (0, 0) _ rfl HB3.out Tryd.underlying55 rfl (by rw [hsz]; exact HI.out)) rfl ⟨arr, rfl, hsz, ?_, ?_, ?_⟩
          · exact HARR.out
          · exact HM.out.2.2.2.2
          · exact HM.out.2.2.2.1.grown HG3.out HM.out.2.2.2.1.size (fun k hk => by injection hk; omega)
end Go.Proofs.YtfdjphinicafiabDoor.Sh
