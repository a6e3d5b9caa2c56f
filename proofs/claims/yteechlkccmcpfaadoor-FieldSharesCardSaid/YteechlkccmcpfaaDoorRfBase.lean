/-
  Rows of digits in memory.
-/
import Derived.Test.YteechlkccmcpfaaDoorFdCarry
import Derived.Test.YteechlkccmcpfaaDoorRfMath3
import Derived.Deep.LoopGhost
import Derived.Deep.OwnRows
namespace Go.Proofs.YteechlkccmcpfaaDoor.Fd
open Go.RowKit Go.Proofs.YteechlkccmcpfaaDoor.Gn Go.Deep
set_option linter.unusedVariables false

theorem nl_length (l : List Nat) : (nl l).length = l.length := by simp [nl]
theorem nl_at (l : List Nat) (k : Nat) : (nl l)[k]? = l[k]?.map fun (x : Nat) => Value.int .u64 (x : Int) := by simp [nl]
theorem nl_one (l : List Nat) : ∀ u ∈ nl l, u.oneCell' = true := by
  intro u hu; obtain ⟨x, -, rfl⟩ := List.mem_map.1 hu; rfl
theorem nl_append (l k : List Nat) : nl (l ++ k) = nl l ++ nl k := by simp [nl]
theorem nl_take (l : List Nat) (k : Nat) : (nl l).take k = nl (l.take k) := by simp [nl, List.map_take]
theorem nlu_set (l : List Nat) (k x : Nat) : (nl l).toArray.setIfInBounds k (.int .u64 (x : Int)) = (nl (l.set k x)).toArray := by simp [nl, List.setIfInBounds_toArray, List.map_set]
theorem info64 : (Tryd.prog.info? 22).map (fun i => (i.zero, i.size, i.bytes)) = some (some (.int .u64 0), 1, 8) := by kernel_rfl
theorem made_nl (n : Nat) : madeCells #[.int .u64 0] n = (nl (List.replicate n 0)).toArray := by
  apply Array.ext'
  rw [toList_madeCells_one]
  simp [nl]
theorem make64 (n : Nat) (h : n ≤ 4096) (w : World) : (Instr.makeSlice 34 (.int .i64 (n : Int)) (.int .i64 (n : Int))).run Tryd.prog w = .ok (.slice (some ⟨w.heap.size, 0, none⟩) n n) (w.alloc (.cells (nl (List.replicate n 0)).toArray 22)) := by
  have := run_make_row' (P := Tryd.prog) 34 22 (.int .u64 0) 8 Tryd.underlying34 info64 rfl .i64 .i64 n (by omega) (by omega) w
  rw [made_nl] at this
  exact this
theorem sl_len {w : World} {A : Option Addr} {n : Nat} {l : List Nat} (h : Sl w A n (nl l)) : l.length = n := by simpa [nl] using h.1
theorem sl_num {w : World} {ad : Addr} {n : Nat} {l : List Nat} (h : Sl w (some ad) n (nl l)) {p : Nat} (hp : p < n) : w.cell? (ad.add p) = some (.int .u64 ((l.getD p 0 : Nat) : Int)) := by
  have hl := sl_len h
  obtain ⟨a, e, hc⟩ := h.2 p (.int .u64 ((l.getD p 0 : Nat) : Int)) (by
    rw [nl_at, List.getElem?_eq_getElem (by omega)]
    simp [List.getD_eq_getElem?_getD, List.getElem?_eq_getElem (show p < l.length by omega)])
  cases e
  exact hc
theorem sl_byte {w : World} {ad : Addr} {n : Nat} {l : List Nat} (h : Sl w (some ad) n (bl l)) {p : Nat} (hp : p < n) : w.cell? (ad.add p) = some (.int .u8 ((l.getD p 0 : Nat) : Int)) := by
  have hl : l.length = n := by simpa [bl] using h.1
  obtain ⟨a, e, hc⟩ := h.2 p (.int .u8 ((l.getD p 0 : Nat) : Int)) (by
    rw [bl_get, List.getElem?_eq_getElem (by omega)]
    simp [List.getD_eq_getElem?_getD, List.getElem?_eq_getElem (show p < l.length by omega)])
  cases e
  exact hc
theorem nl_cell {w : World} {g : Nat} {t : TypeId} {l : List Nat} (h : Bl w g t (nl l).toArray) {k : Nat} (hk : k < l.length) : w.cell? ⟨g, k, none⟩ = some (.int .u64 ((l.getD k 0 : Nat) : Int)) := by
  refine h.cell_ ?_
  rw [List.getElem?_toArray, nl_at, List.getElem?_eq_getElem hk]
  simp [List.getD_eq_getElem?_getD, List.getElem?_eq_getElem hk]
theorem nl_sl {w : World} {g n : Nat} {t : TypeId} {l : List Nat} (h : Bl w g t (nl l).toArray) (hn : l.length = n) : Sl w (some ⟨g, 0, none⟩) n (nl l) :=
  Sl.of_bl h 0 n _ (by simp [nl, hn]) (fun k v hv => by rw [Nat.zero_add]; simpa using hv)
/-- A row of a number's digits is answered. -/
def RetN (n : Nat) (w : World) (e : Ending) (w' : World) : Prop := ∃ A k c, e = .returned (.slice A k c) ∧ Sl w' A k (nl (dg n)) ∧ k ≤ c ∧ Below w.heap.size w w'
theorem RetN.of {n m : Nat} {w w1 w' : World} {e : Ending} (h : RetN n w1 e w') (hn : n = m) (hb : Below w.heap.size w w1) : RetN m w e w' := by
  obtain ⟨A, k, c, h1, h2, h3, h4⟩ := h
  subst hn
  exact ⟨A, k, c, h1, h2, h3, hb.trans (h4.mono hb.size)⟩
set_option maxHeartbeats 1000000 in
theorem trim_any (A : Option Addr) (n c : Nat) (l : List Nat) (w : World) (hn : n ≤ 4096) (hc : n ≤ c) (hl : Dg l) (hs : Sl w A n (nl l)) :
    Calls Tryd.prog 60 #[.slice A n c] w (RetN (vl l) w) := by
  have HS := Lib.hid hs
  have HL := Lib.hid hl
  have HN := Lib.hid (sl_len hs)
  clear hs hl
  go_enter Tryd.func60, Tryd.ntmps60
  go_wp2
  go_loop [0] (fun a => ∃ k : Nat, k ≤ n ∧ a = .slice A k c ∧ vl (l.take k) = vl l) (fun a => slen a)
  case atStart => exact ⟨n, Nat.le_refl _, rfl, by rw [List.take_of_length_le (by rw [HN.out]; exact Nat.le_refl _)]⟩
  case round =>
    obtain ⟨k, hk, rfl, hv⟩ := hrel
    have HV := Lib.hid hv
    clear hv
    rcases k with _ | p
    · have HE := Lib.hid (trim_end l HL.out 0 (Nat.zero_le _) HV.out (.inl rfl))
      go_wp2
      go_ret
      exact ⟨A, 0, c, rfl, by rw [← HE.out, List.take_zero]; exact Sl.nil_ _ _, Nat.zero_le _, Below.refl _ _⟩
    · obtain ⟨ad, rfl, -⟩ := HS.out.at_ (k := p) (by omega)
      obtain ⟨x, hx⟩ : ∃ x, x = l.getD p 0 := ⟨_, rfl⟩
      have c1 := sl_num HS.out (p := p) (by omega)
      rw [← hx] at c1
      have HX := Lib.hid hx
      clear hx
      have hpc : p + 1 ≤ c := by omega
      by_cases h0 : x = 0
      · have t1 : ((x : Int) == 0) = true := by rw [beq_iff_eq]; omega
        have H0 := Lib.hid h0
        clear h0
        go_wp2
        go_round
        case rel => exact ⟨p, by omega, by simp, by rw [← HV.out]; exact (trim_step l p (by rw [← HX.out]; exact H0.out)).symm⟩
        case measure => simp [slen]
      · have t1 : ((x : Int) == 0) = false := by rw [beq_eq_false_iff_ne]; omega
        have H0 := Lib.hid h0
        clear h0
        have HE := Lib.hid (trim_end l HL.out (p + 1) (by rw [HN.out]; omega) HV.out (.inr (by rw [Nat.add_sub_cancel, ← HX.out]; exact H0.out)))
        have HT := Lib.hid (HS.out.take_ (p + 1) hk)
        go_wp2
        go_ret
        exact ⟨some ad, p + 1, c, rfl, by rw [← HE.out, ← nl_take]; exact HT.out, hpc, Below.refl _ _⟩
end Go.Proofs.YteechlkccmcpfaaDoor.Fd
