/-
  32 bytes that are all 255: bytes.Repeat at one byte.
-/
import Derived.Test.YteechlkccmcpfaaDoorFdPowr
import Derived.Lib.MakeNoZero
import Derived.Laws.CopyOwn
namespace Go.Proofs.YteechlkccmcpfaaDoor.Fd
open Go.RowKit Go.Proofs.YteechlkccmcpfaaDoor.Gn Go.Deep Go.Shelf
set_option linter.unusedVariables false

theorem mul_32 (w : World) : Calls Tryd.prog 74 #[.int .u64 1, .int .u64 32] w fun e w' => e = .returned (.tuple #[.int .u64 0, .int .u64 32]) ∧ w = w' := by
  have M := Lib.hid (fun w => mul64_c 1 32 0 32 (by decide) (by decide) (by decide) (by decide) w)
  go_enter Tryd.func74, Tryd.ntmps74
  go_wp2_with (go_at_call 70; refine (M.out _).mono ?_; rintro e w' ⟨rfl, rfl⟩)
  go_ret2
  exact ⟨rfl, rfl⟩
theorem info_u8 : (Tryd.prog.info? 5).map (·.size) = some 1 := by kernel_rfl
theorem noZero (w : World) : ∃ cs : Array Value, (callFunc 75 #[.int .i64 32]).run Tryd.prog w = .ok (.value (.slice (some ⟨w.heap.size, 0, none⟩) 32 cs.size)) (w.drew.drew.alloc (.cells cs 5)) ∧ 32 ≤ cs.size ∧ cs.size ≤ maxLen := by
  obtain ⟨cs, hrun, h1, h2⟩ := Lib.run_makeNoZero (P := Tryd.prog) w #[3] 25 5 Tryd.underlying25 32 (by decide)
  refine ⟨cs, ?_, h1, h2 (by decide)⟩
  rw [run_callFunc_extern Tryd.func75 (by kernel_rfl) (by kernel_rfl) (by kernel_rfl) (e := Extern.BytealgMakeNoZero.makeNoZero #[3] #[25]) (by kernel_rfl)]
  rw [show ((32 : Nat) : Int) = 32 from rfl] at hrun
  rw [hrun]; rfl
/-- The run of a copy into a block that is known whole: the world behind it under a name. -/
theorem run_copy_bl (P : Program) {w : World} (dT sT ty elem : TypeId) (hu : P.underlying dT = some (.slice elem)) (hsz : (P.info? elem).map (·.size) = some 1)
    (g off dLen dCap : Nat) (ad : Addr) (sLen sCap : Nat) (t : TypeId) (cs : Array Value) (hb : Bl w g t cs) (xs : List Value) (hsl : Sl w (some ad) sLen xs) (m : Nat) (hm : m = Nat.min sLen dLen) (hfit : off + m ≤ cs.size) (h1 : ∀ v ∈ xs, v.oneCell' = true) :
    ∃ w', (Builtin.copy_ #[dT, sT] ty #[.slice (some ⟨g, off, none⟩) dLen dCap, .slice (some ad) sLen sCap]).run P w = .ok (.int .i64 (m : Int)) w' ∧ Bl w' g t (spl cs off (xs.take m)) ∧ w.grownBy w' (some g) := by
  have hlen : (xs.take m).length = m := by rw [List.length_take, hsl.1, hm]; exact Nat.min_eq_left (Nat.min_le_left _ _)
  have hrun := run_copy_row (P := P) w dT sT ty elem g off dLen dCap ad sLen sCap cs t (xs.take m) hu hsz hb (by rw [hlen, hm]) (fun j v hj => by
    rw [List.getElem?_take] at hj
    split at hj
    · obtain ⟨ad', he, hc⟩ := hsl.2 j v hj
      cases he
      exact hc
    · cases hj) (by rw [hlen]; exact hfit) (fun v hv => h1 v (List.mem_of_mem_take hv))
  rw [hlen] at hrun
  refine ⟨_, hrun, ?_, ⟨rfl, rfl, rfl, by simp [World.setRow], fun i _ hn => setRow_other w g i _ (fun e => hn (by rw [e]))⟩⟩
  rw [spl_eq _ _ _ (by rw [hlen]; exact hfit), hlen, List.append_assoc]
  exact setRow_heap w g cs _ t _ hb
/-- 255 up to a place. -/
def FF (cs : Array Value) (b : Nat) : Prop := ∀ i, i < b → cs[i]? = some (.int .u8 255)
def RpRel (g n : Nat) (w0 : World) (b : Value) (wr : World) : Prop :=
  ∃ (k : Nat) (cs : Array Value), 1 ≤ k ∧ k ≤ 32 ∧ b = .int .i64 (k : Int) ∧ cs.size = n ∧ Bl wr g 5 cs ∧ FF cs k ∧ w0.grownBy wr (some g)
set_option maxHeartbeats 2000000 in
theorem repeat_any (h : Nat) (w : World) (hc : w.cell? ⟨h, 0, none⟩ = some (.int .u8 255)) :
    Calls Tryd.prog 72 #[.slice (some ⟨h, 0, none⟩) 1 1, .int .i64 32] w fun e w' => ∃ (g : Nat) (cs : Array Value), e = .returned (.slice (some ⟨g, 0, none⟩) 32 32) ∧ w.heap.size ≤ g ∧ 32 ≤ cs.size ∧ Bl w' g 5 cs ∧ FF cs 32 ∧ Below w.heap.size w w' := by
  obtain ⟨cs, hnz, hs1, hs2⟩ := noZero w
  have HS2 := Lib.hid hs2
  have M := Lib.hid (mul_32 w)
  have hlt := cell_lt hc
  have hb0 : Bl ((w.alloc (.cells cs 5)).drew.drew) w.heap.size 5 cs := (Bl.new_ w _ cs).drew.drew
  have hsl0 : Sl ((w.alloc (.cells cs 5)).drew.drew) (some ⟨h, 0, none⟩) 1 [.int .u8 255] := ⟨rfl, fun k v hv => by
    match k, hv with
    | 0, hv =>
      simp at hv; subst hv
      exact ⟨_, rfl, (((Below.refl w.heap.size w).alloc (Nat.le_refl _) (.cells cs 5)).drew.drew).cell (p := ⟨h, 0, none⟩) hlt |>.trans hc⟩⟩
  have HB0 := Lib.hid hb0
  have HSL0 := Lib.hid hsl0
  clear hs2 hc hb0 hsl0
  have one1 : ∀ v ∈ [Value.int .u8 255], v.oneCell' = true := fun v hv => by simp at hv; subst hv; rfl
  have H1 := Lib.hid one1
  clear one1
  go_enter Tryd.func72, Tryd.ntmps72
  go_wp2_with (first | (go_at_call 74; refine M.out.mono ?_; rintro e w' ⟨rfl, rfl⟩) | (with_reducible refine wpList_copy_bl rfl (.tmp 58) (.tmp 59) 25 25 rfl 5 Tryd.underlying25 info_u8 w.heap.size 0 32 32 ⟨h, 0, none⟩ 1 1 rfl rfl 5 cs HB0.out _ HSL0.out 1 rfl (by omega) H1.out ?_; intro w2 hb2 hg2))
  have HF2 := Lib.hid (show FF (spl cs 0 [.int .u8 255]) 1 from fun i hi => by
    obtain rfl : i = 0 := by omega
    rw [spl_get _ _ _ _ (by simp; omega)]; simp)
  have HB2 := Lib.hid hb2
  have HG2 := Lib.hid hg2
  have hs3 : 32 ≤ (spl cs 0 [.int .u8 255]).size := by rw [spl_size]; exact hs1
  clear hb2 hg2 hnz
  go_loopw [10] (fun b wr => RpRel w.heap.size (spl cs 0 [.int .u8 255]).size ((w.alloc (.cells cs 5)).drew.drew) b wr) (fun b _ => 32 - (intOf b).toNat)
  case atStart => exact ⟨1, _, by decide, by decide, rfl, rfl, HB2.out, HF2.out, HG2.out⟩
  case round =>
    obtain ⟨k, ds, hk1, hk, rfl, hsz, hb, hf, hg⟩ := hrel
    have HSZ := Lib.hid hsz
    have HRB := Lib.hid hb
    have HRF := Lib.hid hf
    have HRG := Lib.hid hg
    clear hsz hb hf hg
    by_cases hlt2 : k < 32
    · go_wp2_with fail
      obtain ⟨dl, hdl⟩ : ∃ dl, 32 - k = dl := ⟨_, rfl⟩
      obtain ⟨m, hm⟩ : ∃ m, m = Nat.min k dl := ⟨_, rfl⟩
      have hml : m ≤ k ∧ m ≤ dl ∧ (m = k ∨ m = dl) := by have hm' : m = min k dl := hm; omega
      have hdi : 32 - (k : Int) = (dl : Int) := by omega
      have hsl : Sl wr (some ⟨w.heap.size, 0, none⟩) k (List.replicate k (.int .u8 255)) := ⟨by simp, fun j v hv => by
        have hj : j < k := by have := (List.getElem?_eq_some_iff.1 hv).1; simpa using this
        rw [List.getElem?_replicate, if_pos hj] at hv
        exact ⟨_, rfl, by rw [add_at, ← hv]; exact HRB.out.cell_ (HRF.out j hj)⟩⟩
      have one : ∀ v ∈ List.replicate k (Value.int .u8 255), v.oneCell' = true := fun v hv => by
        obtain ⟨-, rfl⟩ := List.mem_replicate.1 hv; rfl
      have HSLK := Lib.hid (show Sl wr.drew (some ⟨w.heap.size, 0, none⟩) k (List.replicate k (.int .u8 255)) from hsl)
      have HONE := Lib.hid one
      have hds : ds.size = cs.size := by rw [HSZ.out, spl_size]
      have hfit : k + m ≤ ds.size := by omega
      obtain ⟨w3, hrun, hb3, hg3⟩ := run_copy_bl Tryd.prog 25 25 3 5 Tryd.underlying25 info_u8 w.heap.size k dl dl ⟨w.heap.size, 0, none⟩ k 32 5 ds HRB.out.drew _ HSLK.out m hm hfit HONE.out
      have HB3 := Lib.hid hb3
      have HG3 := Lib.hid hg3
      have HDS := Lib.hid hds
      have HML := Lib.hid hml
      clear hsl one hds hm hb3 hg3 hml HSLK HONE
      have tk : decide ((k : Int) < 32) = true := by simp; omega
      have bk : (k : Int) ≤ 32 := by omega
      have bk0 : (0 : Int) ≤ (k : Int) := by omega
      have n32 : ¬ (32 = k) := by omega
      have ekm : IntKind.i64.wrap ((k : Int) + (m : Int)) = ((k + m : Nat) : Int) := by have := HML.out; rw [IntKind.wrap_i64]; omega
      go_wp2_with fail
      go_region
      all_goals
        clear tk bk bk0 n32 ekm hdi hrun hfit
        go_wp2
        go_roundw
        case rel =>
          have := HML.out
          refine ⟨k + m, _, by omega, by omega, by go_num, ?_, HB3.out, ?_, ?_⟩
          · rw [spl_size, HSZ.out]
          · intro i hi
            rw [spl_get _ _ _ _ (by rw [List.length_take, List.length_replicate, HDS.out]; omega), List.length_take, List.length_replicate]
            by_cases h : k ≤ i
            · rw [if_pos (by omega), List.getElem?_take_of_lt (by omega), List.getElem?_replicate, if_pos (by omega)]
            · rw [if_neg (by omega)]; exact HRF.out i (by omega)
          · exact only_trans (only_drew HRG.out) HG3.out
        case measure => have := HML.out; simp [intOf]; omega
    · obtain rfl : k = 32 := by omega
      go_wp2_with fail
      go_ret
      refine ⟨w.heap.size, ds, rfl, Nat.le_refl _, by rw [HSZ.out]; exact hs3, HRB.out, HRF.out, ?_⟩
      exact (((Below.refl w.heap.size w).alloc (Nat.le_refl _) (.cells cs 5)).drew.drew).grown HRG.out (by simp) (by simp)
end Go.Proofs.YteechlkccmcpfaaDoor.Fd
