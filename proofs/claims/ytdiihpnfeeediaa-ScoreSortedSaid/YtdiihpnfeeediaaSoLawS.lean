/-
  The law: what is put in order falls, and holds each place once.
-/
import Derived.Test.YtdiihpnfeeediaaSoOrder
namespace Go.Proofs.Ytdiihpnfeeediaa.Sc
open Go.RowKit Go.Proofs.Ytdiihpnfeeediaa.So Go.Deep
set_option linter.unusedVariables false

/-- The numbers in the order of the places. -/
def ordl (l o : List Nat) : List Nat := o.map fun x => l.getD x 0
theorem ordl_falls {l o : List Nat} {n : Nat} (h : Ordered l n o) : fallsB (ordl l o) = true := by
  refine fallsB_iff.2 fun k hk => ?_
  have hk' : k + 1 < o.length := by simpa [ordl] using hk
  have e : ∀ j, j < o.length → cd (ordl l o) j = cd l (o.getD j 0) := fun j hj => by
    unfold cd ordl
    rw [List.getD_eq_getElem?_getD, List.getElem?_map, List.getD_eq_getElem?_getD (l := o), List.getElem?_eq_getElem hj]
    rfl
  rw [e k (by omega), e (k + 1) hk']
  have := List.pairwise_iff_getElem.1 h.rise k (k + 1) (by omega) hk' (by omega)
  rw [List.getD_eq_getElem?_getD, List.getElem?_eq_getElem hk', List.getD_eq_getElem?_getD, List.getElem?_eq_getElem (show k < o.length by omega)]
  unfold Ahead at this
  simp only [Option.getD_some]
  omega
theorem ordered_ne {l o : List Nat} {n i j : Nat} (h : Ordered l n o) (hij : j < i) (hi : i < n) : o.getD j 0 ≠ o.getD i 0 := by
  have hl := h.len
  have := List.pairwise_iff_getElem.1 h.rise j i (by omega) (by omega) hij
  rw [List.getD_eq_getElem?_getD, List.getElem?_eq_getElem (show j < o.length by omega), List.getD_eq_getElem?_getD, List.getElem?_eq_getElem (show i < o.length by omega)]
  simp only [Option.getD_some]
  intro e
  rw [e] at this
  exact Ahead.irr this
theorem infob : (Try.prog.info? 4).map (fun i => (i.zero, i.size, i.bytes)) = some (some (.bool false), 1, 1) := by kernel_rfl
theorem infoff : (Try.prog.info? 29).map (fun i => (i.zero, i.size, i.bytes)) = some (some (.float .f64 0), 1, 8) := by kernel_rfl
theorem infoF : ∃ i0, Try.prog.info? 29 = some i0 ∧ i0.zero = some (.float .f64 0) ∧ i0.size = 1 ∧ i0.bytes = 8 := info_parts infoff
theorem own_b {w : World} {base : Nat} {e : TypeId} {v : Value} {n : Nat} {xs : List Value} (h : w.ownsRow base e 1 v n xs) : ∀ k, v.ownBlock = some k → base ≤ k := by
  obtain ⟨hl, h2⟩ := h
  rcases h2 with ⟨rfl, -⟩ | ⟨g, cap, cur, rfl, hg, -⟩
  · intro k hk; cases hk
  · intro k hk; simp [Value.ownBlock] at hk; omega
theorem own_set {w : World} {base : Nat} {e : TypeId} {v u : Value} {n : Nat} {xs : List Value} {p : Addr} (h : w.ownsRow base e 1 v n xs) (hp : p.block < base) : (w.setCell p u).ownsRow base e 1 v n xs := by
  obtain ⟨hl, h2⟩ := h
  refine ⟨hl, ?_⟩
  rcases h2 with h2 | ⟨g, cap, cur, hv, hg, hh, r⟩
  · exact .inl h2
  · exact .inr ⟨g, cap, cur, hv, hg, (Below.heap_setCell w p u g (by omega)).trans hh, r⟩
theorem own_al {w : World} {base : Nat} {e : TypeId} {v : Value} {n : Nat} {xs : List Value} (h : w.ownsRow base e 1 v n xs) (ob : Obj) : (w.alloc ob).ownsRow base e 1 v n xs := by
  obtain ⟨hl, h2⟩ := h
  refine ⟨hl, ?_⟩
  rcases h2 with h2 | ⟨g, cap, cur, hv, hg, hh, r⟩
  · exact .inl h2
  · have hlt : g < w.heap.size := by
      rcases Nat.lt_or_ge g w.heap.size with h | h
      · exact h
      · rw [Array.getElem?_eq_none h] at hh; cases hh
    exact .inr ⟨g, cap, cur, hv, hg, (Below.heap_alloc w ob g hlt).trans hh, r⟩
theorem sl_one (w : World) (T : TypeId) (v : Value) : Sl (w.alloc (.cells #[v] T)) (some ⟨w.heap.size, 0, none⟩) 1 [v] := by
  refine ⟨rfl, fun k u hu => ⟨_, rfl, ?_⟩⟩
  cases k with
  | zero =>
    simp at hu
    subst hu
    have e : (⟨w.heap.size, 0, none⟩ : Addr).add 0 = ⟨w.heap.size, 0, none⟩ := by unfold Addr.add; simp
    rw [e]
    exact cell_of_row _ _ 0 #[v] T (0, 0) (heap_alloc_new w (.cells #[v] T))
  | succ k => simp at hu
theorem seen_set {w : World} {b x : Nat} {cs : Array Value} {T : TypeId} {u : Value} (h : w.heap[b]? = some (.cells cs T (0, 0))) : (w.setCell ⟨b, x, none⟩ u).heap[b]? = some (.cells (cs.setIfInBounds x u) T (0, 0)) := by
  simp [World.setCell, Array.getElem?_modify, h]
set_option maxHeartbeats 2000000 in
set_option maxRecDepth 100000 in
theorem walk_scoreSorted {w : World} (A : Option Addr) (n c : Nat) (l : List Nat) (hf : FL w A n l) :
    Calls Try.prog 4 #[.slice A n c] w fun e w' => e = .returned (.bool true) ∧ Below w.heap.size w w' := by
  have HF := Lib.hid hf
  have hn := hf.2.1
  clear hf
  by_cases h : 100 < n
  · have hd : decide (100 < (n : Int)) = true := decide_eq_true (by omega)
    go_enter Try.func4, Try.ntmps4
    go_wp2_with (go_at_call 5; refine (known_any _).mono ?_; rintro e w' ⟨rfl, hb⟩)
    go_ret
    exact ⟨rfl, hb⟩
  · have hd : decide (100 < (n : Int)) = false := decide_eq_false (by omega)
    have hmk := fun w => run_make_row' (P := Try.prog) 28 4 (.bool false) 1 Try.underlying28 infob rfl .i64 .i64 n (by omega) (by omega) w
    obtain ⟨i0, hi, hz0, hz1, hz2⟩ := infoF
    go_enter Try.func4, Try.ntmps4
    go_wp2_with fail
    refine (order_any HF.out (by omega)).mono ?_
    rintro e w1 ⟨g, cap, o, rfl, s1, ho, b1⟩
    have S1 := Lib.hid s1
    have B1 := Lib.hid b1
    have HO := Lib.hid ho
    have F1 := Lib.hid (show FL w1 A n l from ⟨HF.out.1.below b1, HF.out.2.1, HF.out.2.2⟩)
    clear s1 ho b1
    have t0 : ((n : Int) != (n : Int)) = false := by simp
    go_wp2_with fail
    go_loopg [6, 5] n (fun g1 vi vm wr => ∃ (i : Nat) (seen : Array Value), vi = .int .i64 i ∧ i ≤ n ∧ n - i ≤ g1 ∧ Hid (seen.size = n) ∧ Hid (∀ x, x < n → seen[x]? = some (.bool ((o.take i).contains x))) ∧ Hid (wr.heap[w1.heap.size]? = some (.cells seen 4 (0, 0))) ∧ Hid (wr.ownsRow (w1.heap.size + 1) 29 1 vm i (fl (ordl l (o.take i)))) ∧ Hid (Below w1.heap.size w1 wr))
    case atStart => exact ⟨0, _, rfl, Nat.zero_le _, by omega, Lib.hid (size_madeCells _ _), Lib.hid fun x hx => by rw [← Array.getElem?_toList, toList_madeCells_one, List.getElem?_replicate, if_pos hx]; simp, Lib.hid (heap_alloc_new w1 _), Lib.hid (own_nil _ _ _), Lib.hid ((Below.refl _ _).alloc (Nat.le_refl _) _)⟩
    case round =>
      obtain ⟨i, seen, rfl, hin, hg, HSZ, HSEEN, HHEAP, HOWN, HB⟩ := hrel
      obtain ⟨Am, cm, rfl, -, -, -⟩ := Sl.own HOWN.out
      by_cases hlt : i < n
      · have q0 : (i : Int) < (n : Int) := by omega
        obtain ⟨ad, e, c1⟩ := il_at S1.out hlt
        cases e
        have hgb : g < w1.heap.size := by have := cell_lt c1; rwa [add_at] at this
        have hxn := HO.out.lt (o.getD i 0) (by
          have : i < o.length := by have := HO.out.len; omega
          rw [List.getD_eq_getElem?_getD, List.getElem?_eq_getElem this]; exact List.getElem_mem _)
        obtain ⟨x, hx⟩ : ∃ x, x = o.getD i 0 := ⟨_, rfl⟩
        rw [← hx] at c1 hxn
        have hnot : (o.take i).contains x = false := by
          rw [Bool.eq_false_iff]
          intro hc
          rw [List.contains_iff_mem] at hc
          obtain ⟨j, hj, e⟩ := List.getElem_of_mem hc
          have hj' : j < i ∧ j < o.length := by rw [List.length_take] at hj; omega
          have := ordered_ne HO.out hj'.1 hlt
          rw [← hx] at this
          refine this ?_
          rw [← e, List.getElem_take, List.getD_eq_getElem?_getD, List.getElem?_eq_getElem hj'.2]
          rfl
        have hs1 : seen[x]? = some (.bool false) := by rw [HSEEN.out x hxn, hnot]
        have k1 : wr.cell? ⟨g, i, none⟩ = some (.int .i64 (x : Int)) := by
          rw [HB.out.cell (p := ⟨g, i, none⟩) hgb, ← c1, add_at]
        have k2 : wr.cell? ⟨w1.heap.size, x, none⟩ = some (.bool false) := by rw [cell_of_row _ _ _ _ _ _ HHEAP.out]; exact hs1
        have k3 : wr.frozen? ⟨w1.heap.size, x, none⟩ = false := by simp [World.frozen?, HHEAP.out]
        obtain ⟨ad2, rfl, c2⟩ := fl_at F1.out.1 hxn
        have hab : (ad2.add x).block < w1.heap.size := cell_lt c2
        obtain ⟨y, hy⟩ : ∃ y, y = l.getD x 0 := ⟨_, rfl⟩
        have k4 : wr.cell? (ad2.add x) = some (.float .f64 y) := by rw [HB.out.cell hab, c2, hy]
        have q1 : (x : Int) < (n : Int) := by omega
        have q2 : decide ((x : Int) < 0) = false := decide_eq_false (by omega)
        have q3 : decide ((x : Int) ≥ (n : Int)) = false := decide_eq_false (by omega)
        have HX := Lib.hid hx
        have HY := Lib.hid hy
        have k5 : (wr.setCell ⟨w1.heap.size, x, none⟩ (.bool true)).cell? (ad2.add x) = some (.float .f64 y) := by
          rw [World.cell?_setCell_other _ _ _ _ (by intro e; rw [← e] at hab; exact absurd hab (Nat.lt_irrefl _))]; exact k4
        have k6 : (wr.setCell ⟨w1.heap.size, x, none⟩ (.bool true)).cell? ⟨g, i, none⟩ = some (.int .i64 (x : Int)) := by
          rw [World.cell?_setCell_other _ _ _ _ (by intro e; simp only [Addr.mk.injEq] at e; omega)]; exact k1
        have OW := Lib.hid (own_al (own_set (u := .bool true) (p := ⟨w1.heap.size, x, none⟩) HOWN.out (Nat.lt_succ_self _)) (.cells #[.float .f64 y] 29))
        have BB := Lib.hid ((HB.out.setCell (p := ⟨w1.heap.size, x, none⟩) (Nat.le_refl _) (.bool true)).alloc (by have := HB.out.size; simpa using this) (.cells #[.float .f64 y] 29))
        have hlow : w1.heap.size < wr.heap.size := by
          rcases Nat.lt_or_ge w1.heap.size wr.heap.size with h | h
          · exact h
          · have := HHEAP.out; rw [Array.getElem?_eq_none h] at this; cases this
        have HH2 := Lib.hid (show ((wr.setCell ⟨w1.heap.size, x, none⟩ (.bool true)).alloc (.cells #[.float .f64 y] 29)).heap[w1.heap.size]? = _ from (Below.heap_alloc _ _ _ (by simpa using hlow)).trans (seen_set HHEAP.out))
        have HN := Lib.hid hnot
        clear hx hy c1 c2 hnot hs1
        go_wp2_with (at_builtin; refine wpList_append_sl rfl _ _ 22 rfl (w1.heap.size + 1) 29 i0 _ 8 Try.underlying22 hi hz0 hz1 hz2 rfl (.slice Am i cm) i _ rfl OW.out (some ⟨wr.heap.size, 0, none⟩) 1 1 [.float .f64 y] rfl (fun h => by cases h) (by have := sl_one (wr.setCell ⟨w1.heap.size, x, none⟩ (.bool true)) 29 (.float .f64 y); simpa using this) (fun u hu => by simp at hu; subst hu; rfl) (by unfold maxLen; omega) (by omega) (by simp; omega) ?_)
        intro v2 w2 hown2 hgrow2
        have B2 := Lib.hid ((Below.refl (w1.heap.size + 1) _).grown hgrow2 (by simp; omega) (own_b OW.out))
        have O2 := Lib.hid hown2
        clear hown2 hgrow2
        go_wp2_with fail
        go_roundg (n - (i + 1))
        case measure => omega
        case rel =>
          refine ⟨i + 1, _, by go_num, by omega, Nat.le_refl _, Lib.hid (by simp [HSZ.out] : (seen.setIfInBounds x (.bool true)).size = n), Lib.hid fun z hz => ?_, Lib.hid ((B2.out.block _ (Nat.lt_succ_self _)).trans HH2.out), Lib.hid ?_, Lib.hid (BB.out.trans (B2.out.mono (by omega)))⟩
          · have ht : o.take (i + 1) = o.take i ++ [x] := by
              have hi' : i < o.length := by have := HO.out.len; omega
              rw [List.take_add_one, List.getElem?_eq_getElem hi', HX.out, List.getD_eq_getElem?_getD, List.getElem?_eq_getElem hi']
              rfl
            rw [Array.getElem?_setIfInBounds, ht]
            by_cases e : x = z
            · subst e
              rw [if_pos rfl, if_pos (by rw [HSZ.out]; exact hz)]
              simp
            · rw [if_neg e, HSEEN.out z hz]
              simp [Ne.symm e]
          · have ht : o.take (i + 1) = o.take i ++ [x] := by
              have hi' : i < o.length := by have := HO.out.len; omega
              rw [List.take_add_one, List.getElem?_eq_getElem hi', HX.out, List.getD_eq_getElem?_getD, List.getElem?_eq_getElem hi']
              rfl
            have h := O2.out
            rw [ht]
            simpa [ordl, fl, HY.out] using h
      · have q0 : ¬ (i : Int) < (n : Int) := by omega
        have HS2 := Lib.hid (Sl.own HOWN.out)
        have hi2 : i = n := by omega
        have HM := Lib.hid (show FL wr Am n (ordl l o) from by
          obtain ⟨A', c', e, s', -, -⟩ := HS2.out
          injection e with e1 e2 e3
          subst e1
          have e4 : o.take i = o := List.take_of_length_le (by have := HO.out.len; omega)
          rw [e4, hi2] at s'
          exact ⟨s', by omega, fun v hv => by
            obtain ⟨k, -, rfl⟩ := List.mem_map.1 hv
            exact getD_lt HF.out.2.2 k⟩)
        have HFB := Lib.hid (ordl_falls HO.out)
        subst hi2
        have C := Lib.hid (falls_any (c := cm) HM.out)
        rw [HFB.out] at C
        clear HS2 HM HSEEN HHEAP HOWN HSZ
        go_wp2_with fail
        refine C.out.mono ?_
        rintro e w4 ⟨rfl, m4, rfl⟩
        have B4 := Lib.hid (B1.out.trans ((Below.drewN HB.out m4).mono B1.out.size))
        generalize wr.drewN m4 = w4 at B4 ⊢
        go_wp2_with fail
        refine (known_any _).mono ?_
        rintro e w6 ⟨rfl, hb⟩
        have B6 := Lib.hid (B4.out.trans (hb.mono B4.out.size))
        clear hb
        go_wp2_with fail
        go_ret
        exact ⟨rfl, B6.out⟩
end Go.Proofs.Ytdiihpnfeeediaa.Sc
