/-
  Which elements are the same, which are odd: the walk of the law.
-/
import Derived.Test.YteechlkccmcpfaaDoorRfSums
namespace Go.Proofs.YteechlkccmcpfaaDoor.Fd
open Go.RowKit Go.Proofs.YteechlkccmcpfaaDoor.Gn Go.Deep
set_option linter.unusedVariables false

theorem dg_first (v : Nat) : (dg v).getD 0 0 % 2 = v % 2 := by rw [dg_get, Nat.pow_zero, Nat.div_one]; omega
set_option maxHeartbeats 4000000 in
set_option maxRecDepth 100000 in
theorem walk_fieldSame {w : World} (tab : Tab w) (x : E5) (hx : x.ok) (y : E5) (hy : y.ok) : Calls Tryd.prog 7 #[.agg x.v, .agg y.v] w fun e w' => e = .returned (.bool true) ∧ Below w.heap.size w w' := by
  have HX := Lib.hid hx
  have HY := Lib.hid hy
  have OX := Lib.hid (show ∀ u, Calls Tryd.prog 19 #[(.agg #[.int .u64 (x.a : Int), .int .u64 (x.b : Int), .int .u64 (x.c : Int), .int .u64 (x.d : Int), .int .u64 (x.e : Int)])] u (RetN (x.val % pp) u) from fun u => Of_any x u hx)
  have OY := Lib.hid (show ∀ u, Calls Tryd.prog 19 #[(.agg #[.int .u64 (y.a : Int), .int .u64 (y.b : Int), .int .u64 (y.c : Int), .int .u64 (y.d : Int), .int .u64 (y.e : Int)])] u (RetN (y.val % pp) u) from fun u => Of_any y u hy)
  have SK := Lib.hid (show ∀ z, Below ((w.alloc (.cells x.v 24)).alloc (.cells y.v 24)).heap.size ((w.alloc (.cells x.v 24)).alloc (.cells y.v 24)) z → C5 z w.heap.size x ∧ C5 z (w.heap.size + 1) y from fun z h =>
    ⟨c5_of ((box2 w x y).1.below' h), c5_of ((box2 w x y).2.1.below' h)⟩)
  have HB := Lib.hid (box2 w x y).2.2
  have TAB := Lib.hid (tab.below (((Below.refl w.heap.size w).alloc (Nat.le_refl _) (.cells x.v 24)).alloc (by simp) (.cells y.v 24)))
  have SM := Lib.hid (show ∀ u, Calls Tryd.prog 31 #[(.agg #[.int .u64 (x.a : Int), .int .u64 (x.b : Int), .int .u64 (x.c : Int), .int .u64 (x.d : Int), .int .u64 (x.e : Int)]), (.agg #[.int .u64 (y.a : Int), .int .u64 (y.b : Int), .int .u64 (y.c : Int), .int .u64 (y.d : Int), .int .u64 (y.e : Int)])] u fun e w' => e = .returned (.bool (decide (x.val % pp = y.val % pp))) ∧ Below u.heap.size u w' from fun u => Same_any x y u hx hy)
  obtain ⟨o, ho⟩ : ∃ o, decide (x.val % pp % 2 = 1) = o := ⟨_, rfl⟩
  obtain ⟨b, hb⟩ : ∃ b, decide (x.val % pp = y.val % pp) = b := ⟨_, rfl⟩
  rw [hb] at SM
  have OD := Lib.hid (show ∀ u, Calls Tryd.prog 33 #[(.agg #[.int .u64 (x.a : Int), .int .u64 (x.b : Int), .int .u64 (x.c : Int), .int .u64 (x.d : Int), .int .u64 (x.e : Int)])] u fun e w' => e = .returned (.bool o) ∧ Below u.heap.size u w' from fun u => by rw [← ho]; exact Odd_any x u hx)
  have HO := Lib.hid ho
  have HBE := Lib.hid hb
  obtain ⟨r, hr⟩ : ∃ r, el (x.val % pp) = r := ⟨_, rfl⟩
  have RX := Lib.hid (show ∀ u, Calls Tryd.prog 15 #[(.agg #[.int .u64 (x.a : Int), .int .u64 (x.b : Int), .int .u64 (x.c : Int), .int .u64 (x.d : Int), .int .u64 (x.e : Int)])] u fun e w' => e = .returned (.agg #[.int .u64 (r.a : Int), .int .u64 (r.b : Int), .int .u64 (r.c : Int), .int .u64 (r.d : Int), .int .u64 (r.e : Int)]) ∧ Below u.heap.size u w' from fun u => by
    have := Reduce_any x u hx
    rw [hr] at this
    exact this)
  have SR := Lib.hid (show ∀ u, Calls Tryd.prog 31 #[(.agg #[.int .u64 (x.a : Int), .int .u64 (x.b : Int), .int .u64 (x.c : Int), .int .u64 (x.d : Int), .int .u64 (x.e : Int)]), (.agg #[.int .u64 (r.a : Int), .int .u64 (r.b : Int), .int .u64 (r.c : Int), .int .u64 (r.d : Int), .int .u64 (r.e : Int)])] u fun e w' => e = .returned (.bool true) ∧ Below u.heap.size u w' from fun u => by
    have := Same_any x r u hx (by rw [← hr]; exact el_ok (mod_lt _))
    rw [← hr, el_val, Nat.mod_mod, decide_eq_true rfl] at this
    rw [← hr]
    exact this)
  clear hr ho hb
  clear tab hx hy
  go_enter Tryd.func7, Tryd.ntmps7
  go_upto_region 1 with fail
  change Code.wp _ _ _ _ ((w.alloc (.cells x.v 24)).alloc (.cells y.v 24))
  generalize (w.alloc (.cells x.v 24)).alloc (.cells y.v 24) = W0 at SK HB TAB ⊢
  go_region_held3 (fun z => C5 z w.heap.size x ∧ C5 z (w.heap.size + 1) y)
    (first | (refine SK.out _ ?_; first | (with_reducible exact Below.refl _ _) | (with_reducible exact (Below.refl _ _).drew) | (with_reducible exact K2) | (with_reducible exact K1)))
    (first
      | (go_at_call 19; (with_reducible refine (OX.out _).mono ?_); rintro e w1 ⟨A1, k1, c1, rfl, h11, h12, h13⟩; have K1 := k_drew h13; have T1 := Lib.hid h11; clear h11)
      | (go_at_call 19; (with_reducible refine (OY.out _).mono ?_); rintro e w2 ⟨A2, k2, c2, rfl, h21, h22, h23⟩; have K2 := K1.trans (h23.mono K1.size); have T2 := Lib.hid h21; clear h21))
  have T := Lib.hid (show Two W0 w2 w.heap.size (w.heap.size + 1) x y A1 k1 A2 k2 from ⟨(SK.out _ K2).1, (SK.out _ K2).2, T1.out.below h23, T2.out, by rw [← sl_len T1.out]; exact len16 (mod_lt _), by rw [← sl_len T2.out]; exact len16 (mod_lt _), TAB.out.below K2, K2⟩)
  clear SK TAB T1 T2 K1 K2 h12 h13 h22 h23 OX OY
  have RS := Lib.hid (show ∀ u, Below w2.heap.size w2 u → Calls Tryd.prog 32 #[.slice A1 k1 c1, .slice A2 k2 c2] u fun e w' => e = .returned (.bool b) ∧ Below u.heap.size u w' from fun u h => by
    rw [← HBE.out]
    exact RSame_any A1 A2 k1 k2 c1 c2 _ _ u (Nat.le_trans T.out.kx (by decide)) (Nat.le_trans T.out.ky (by decide)) (T.out.sx.below h) (T.out.sy.below h))
  have KN := Lib.hid (show ∀ u, Below w2.heap.size w2 u → Calls Tryd.prog 17 #[] u fun e w' => e = .returned (.bool true) ∧ Below u.heap.size u w' from fun u h => known_any u (T.out.tab.below h))
  by_cases hv : x.val % pp = 0
  · have hk : k1 = 0 := by rw [← sl_len T.out.sx, hv, dg_zero]; rfl
    subst hk
    have ho : o = false := by rw [← HO.out, hv]; rfl
    subst ho
    have SKK := Lib.hid (show ∀ z : World, Below w2.heap.size w2 z → C5 z w.heap.size x ∧ C5 z (w.heap.size + 1) y from fun z h => ⟨c5_below T.out.cx h, c5_below T.out.cy h⟩)
    clear hv
    go_upto_region 2 with fail
    refine wp_region_held_drew (S := (fun z => C5 z w.heap.size x ∧ C5 z (w.heap.size + 1) y)) (by kernel_rfl) (SKK.out _ ((Below.refl _ _).drew)) (fun hHeld => ?_)
    apply wpAnyH_take (i := 0)
    case hi => exact (List.getElem?_toArray (xs := _)).trans rfl
    case hs => kernel_rfl
    case hf => kernel_rfl
    case hr => kernel_rfl
    case hQ => exact (fun _ _ _ h => h)
    case hS => assumption
    case hy => (refine Or.inl ⟨by rfl, ?_⟩; intro w hSw; (try dsimp only at hSw); go_simp; try with_reducible rfl)
    try simp only [Act.put, List.setIfInBounds_toArray, List.set_cons_zero, List.set_cons_succ]
    apply wpAnyH_take (i := 1)
    case hi => exact (List.getElem?_toArray (xs := _)).trans rfl
    case hs => kernel_rfl
    case hf => kernel_rfl
    case hr => kernel_rfl
    case hQ => exact (fun _ _ _ h => h)
    case hS => assumption
    case hy => (refine Or.inl ⟨by rfl, ?_⟩; intro w hSw; (try dsimp only at hSw); go_simp; try with_reducible rfl)
    try simp only [Act.put, List.setIfInBounds_toArray, List.set_cons_zero, List.set_cons_succ]
    apply wpAnyH_take (i := 3)
    case hi => exact (List.getElem?_toArray (xs := _)).trans rfl
    case hs => kernel_rfl
    case hf => kernel_rfl
    case hr => kernel_rfl
    case hQ => exact (fun _ _ _ h => h)
    case hS => assumption
    case hy => (refine Or.inl ⟨by rfl, ?_⟩; intro w hSw; (try dsimp only at hSw); go_simp; try with_reducible rfl)
    try simp only [Act.put, List.setIfInBounds_toArray, List.set_cons_zero, List.set_cons_succ]
    apply wpAnyH_take (i := 4)
    case hi => exact (List.getElem?_toArray (xs := _)).trans rfl
    case hs => kernel_rfl
    case hf => kernel_rfl
    case hr => kernel_rfl
    case hQ => exact (fun _ _ _ h => h)
    case hS => assumption
    case hy => (refine Or.inl ⟨by rfl, ?_⟩; intro w hSw; (try dsimp only at hSw); go_simp; try with_reducible rfl)
    try simp only [Act.put, List.setIfInBounds_toArray, List.set_cons_zero, List.set_cons_succ]
    refine wpAnyH_ready (rs := [2]) (by kernel_rfl) (by simp) ?_
    refine AllReadyH.cons rfl (fun K hK => ?_) AllReadyH.nil
    go_simp
    (((with_reducible refine (SM.out _).mono ?_); rintro e wk ⟨rfl, hbk⟩; first | (with_reducible (have KB := KB.trans (hbk.mono KB.size))) | (with_reducible (have KB := k_drew hbk))))
    refine hK.out _ _ (SKK.out _ KB) (fun hHeld => ?_)
    clear hK K
    try simp only [Act.put, List.setIfInBounds_toArray, List.set_cons_zero, List.set_cons_succ]
    refine wpAnyH_ready (rs := [5]) (by kernel_rfl) (by simp) ?_
    refine AllReadyH.cons rfl (fun K hK => ?_) AllReadyH.nil
    go_simp
    (((with_reducible refine (RS.out _ KB).mono ?_); rintro e wk ⟨rfl, hbk⟩; first | (with_reducible (have KB := KB.trans (hbk.mono KB.size))) | (with_reducible (have KB := k_drew hbk))))
    refine hK.out _ _ (SKK.out _ KB) (fun hHeld => ?_)
    clear hK K
    try simp only [Act.put, List.setIfInBounds_toArray, List.set_cons_zero, List.set_cons_succ]
    apply wpAnyH_take (i := 6)
    case hi => exact (List.getElem?_toArray (xs := _)).trans rfl
    case hs => kernel_rfl
    case hf => kernel_rfl
    case hr => kernel_rfl
    case hQ => exact (fun _ _ _ h => h)
    case hS => assumption
    case hy => (refine Or.inl ⟨by rfl, ?_⟩; intro w hSw; (try dsimp only at hSw); go_simp; try with_reducible rfl)
    try simp only [Act.put, List.setIfInBounds_toArray, List.set_cons_zero, List.set_cons_succ]
    apply wpAnyH_take (i := 7)
    case hi => exact (List.getElem?_toArray (xs := _)).trans rfl
    case hs => kernel_rfl
    case hf => kernel_rfl
    case hr => kernel_rfl
    case hQ => exact (fun _ _ _ h => h)
    case hS => assumption
    case hy => (refine Or.inl ⟨by rfl, ?_⟩; intro w hSw; (try dsimp only at hSw); go_simp; try with_reducible rfl)
    try simp only [Act.put, List.setIfInBounds_toArray, List.set_cons_zero, List.set_cons_succ]
    apply wpAnyH_take (i := 8)
    case hi => exact (List.getElem?_toArray (xs := _)).trans rfl
    case hs => kernel_rfl
    case hf => kernel_rfl
    case hr => kernel_rfl
    case hQ => exact (fun _ _ _ h => h)
    case hS => assumption
    case hy => (refine Or.inl ⟨by rfl, ?_⟩; intro w hSw; (try dsimp only at hSw); go_simp; try with_reducible rfl)
    try simp only [Act.put, List.setIfInBounds_toArray, List.set_cons_zero, List.set_cons_succ]
    apply wpAnyH_take (i := 10)
    case hi => exact (List.getElem?_toArray (xs := _)).trans rfl
    case hs => kernel_rfl
    case hf => kernel_rfl
    case hr => kernel_rfl
    case hQ => exact (fun _ _ _ h => h)
    case hS => assumption
    case hy => (refine Or.inl ⟨by rfl, ?_⟩; intro w hSw; (try dsimp only at hSw); go_simp; try with_reducible rfl)
    try simp only [Act.put, List.setIfInBounds_toArray, List.set_cons_zero, List.set_cons_succ]
    apply wpAnyH_take (i := 11)
    case hi => exact (List.getElem?_toArray (xs := _)).trans rfl
    case hs => kernel_rfl
    case hf => kernel_rfl
    case hr => kernel_rfl
    case hQ => exact (fun _ _ _ h => h)
    case hS => assumption
    case hy => (refine Or.inl ⟨by rfl, ?_⟩; intro w hSw; (try dsimp only at hSw); go_simp; try with_reducible rfl)
    try simp only [Act.put, List.setIfInBounds_toArray, List.set_cons_zero, List.set_cons_succ]
    apply wpAnyH_take (i := 12)
    case hi => exact (List.getElem?_toArray (xs := _)).trans rfl
    case hs => kernel_rfl
    case hf => kernel_rfl
    case hr => kernel_rfl
    case hQ => exact (fun _ _ _ h => h)
    case hS => assumption
    case hy => (refine Or.inl ⟨by rfl, ?_⟩; intro w hSw; (try dsimp only at hSw); go_simp; try with_reducible rfl)
    try simp only [Act.put, List.setIfInBounds_toArray, List.set_cons_zero, List.set_cons_succ]
    refine wpAnyH_ready (rs := [9]) (by kernel_rfl) (by simp) ?_
    refine AllReadyH.cons rfl (fun K hK => ?_) AllReadyH.nil
    go_simp
    (((with_reducible refine (OD.out _).mono ?_); rintro e wk ⟨rfl, hbk⟩; first | (with_reducible (have KB := KB.trans (hbk.mono KB.size))) | (with_reducible (have KB := k_drew hbk))))
    refine hK.out _ _ (SKK.out _ KB) (fun hHeld => ?_)
    clear hK K
    try simp only [Act.put, List.setIfInBounds_toArray, List.set_cons_zero, List.set_cons_succ]
    apply wpAnyH_take (i := 13)
    case hi => exact (List.getElem?_toArray (xs := _)).trans rfl
    case hs => kernel_rfl
    case hf => kernel_rfl
    case hr => kernel_rfl
    case hQ => exact (fun _ _ _ h => h)
    case hS => assumption
    case hy => (refine Or.inl ⟨by rfl, ?_⟩; intro w hSw; (try dsimp only at hSw); go_simp; try with_reducible rfl)
    try simp only [Act.put, List.setIfInBounds_toArray, List.set_cons_zero, List.set_cons_succ]
    apply wpAnyH_take (i := 14)
    case hi => exact (List.getElem?_toArray (xs := _)).trans rfl
    case hs => kernel_rfl
    case hf => kernel_rfl
    case hr => kernel_rfl
    case hQ => exact (fun _ _ _ h => h)
    case hS => assumption
    case hy => exact Or.inr ⟨by rfl, rfl⟩
    try simp only [Act.put, List.setIfInBounds_toArray, List.set_cons_zero, List.set_cons_succ]
    apply wpAnyH_take (i := 15)
    case hi => exact (List.getElem?_toArray (xs := _)).trans rfl
    case hs => kernel_rfl
    case hf => kernel_rfl
    case hr => kernel_rfl
    case hQ => exact (fun _ _ _ h => h)
    case hS => assumption
    case hy => exact Or.inr ⟨by rfl, rfl⟩
    try simp only [Act.put, List.setIfInBounds_toArray, List.set_cons_zero, List.set_cons_succ]
    apply wpAnyH_take (i := 16)
    case hi => exact (List.getElem?_toArray (xs := _)).trans rfl
    case hs => kernel_rfl
    case hf => kernel_rfl
    case hr => kernel_rfl
    case hQ => exact (fun _ _ _ h => h)
    case hS => assumption
    case hy => exact Or.inr ⟨by rfl, rfl⟩
    try simp only [Act.put, List.setIfInBounds_toArray, List.set_cons_zero, List.set_cons_succ]
    apply wpAnyH_take (i := 17)
    case hi => exact (List.getElem?_toArray (xs := _)).trans rfl
    case hs => kernel_rfl
    case hf => kernel_rfl
    case hr => kernel_rfl
    case hQ => exact (fun _ _ _ h => h)
    case hS => assumption
    case hy => exact Or.inr ⟨by rfl, rfl⟩
    try simp only [Act.put, List.setIfInBounds_toArray, List.set_cons_zero, List.set_cons_succ]
    apply wpAnyH_take (i := 18)
    case hi => exact (List.getElem?_toArray (xs := _)).trans rfl
    case hs => kernel_rfl
    case hf => kernel_rfl
    case hr => kernel_rfl
    case hQ => exact (fun _ _ _ h => h)
    case hS => assumption
    case hy => exact Or.inr ⟨by rfl, rfl⟩
    try simp only [Act.put, List.setIfInBounds_toArray, List.set_cons_zero, List.set_cons_succ]
    apply wpAnyH_take (i := 19)
    case hi => exact (List.getElem?_toArray (xs := _)).trans rfl
    case hs => kernel_rfl
    case hf => kernel_rfl
    case hr => kernel_rfl
    case hQ => exact (fun _ _ _ h => h)
    case hS => assumption
    case hy => (refine Or.inl ⟨by rfl, ?_⟩; intro w hSw; (try dsimp only at hSw); go_simp; try with_reducible rfl)
    try simp only [Act.put, List.setIfInBounds_toArray, List.set_cons_zero, List.set_cons_succ]
    apply wpAnyH_take (i := 20)
    case hi => exact (List.getElem?_toArray (xs := _)).trans rfl
    case hs => kernel_rfl
    case hf => kernel_rfl
    case hr => kernel_rfl
    case hQ => exact (fun _ _ _ h => h)
    case hS => assumption
    case hy => (refine Or.inl ⟨by rfl, ?_⟩; intro w hSw; (try dsimp only at hSw); go_simp; try with_reducible rfl)
    try simp only [Act.put, List.setIfInBounds_toArray, List.set_cons_zero, List.set_cons_succ]
    apply wpAnyH_take (i := 21)
    case hi => exact (List.getElem?_toArray (xs := _)).trans rfl
    case hs => kernel_rfl
    case hf => kernel_rfl
    case hr => kernel_rfl
    case hQ => exact (fun _ _ _ h => h)
    case hS => assumption
    case hy => (refine Or.inl ⟨by rfl, ?_⟩; intro w hSw; (try dsimp only at hSw); go_simp; try with_reducible rfl)
    try simp only [Act.put, List.setIfInBounds_toArray, List.set_cons_zero, List.set_cons_succ]
    apply wpAnyH_take (i := 22)
    case hi => exact (List.getElem?_toArray (xs := _)).trans rfl
    case hs => kernel_rfl
    case hf => kernel_rfl
    case hr => kernel_rfl
    case hQ => exact (fun _ _ _ h => h)
    case hS => assumption
    case hy => (refine Or.inl ⟨by rfl, ?_⟩; intro w hSw; (try dsimp only at hSw); go_simp; try with_reducible rfl)
    try simp only [Act.put, List.setIfInBounds_toArray, List.set_cons_zero, List.set_cons_succ]
    apply wpAnyH_take (i := 23)
    case hi => exact (List.getElem?_toArray (xs := _)).trans rfl
    case hs => kernel_rfl
    case hf => kernel_rfl
    case hr => kernel_rfl
    case hQ => exact (fun _ _ _ h => h)
    case hS => assumption
    case hy => (refine Or.inl ⟨by rfl, ?_⟩; intro w hSw; (try dsimp only at hSw); go_simp; try with_reducible rfl)
    try simp only [Act.put, List.setIfInBounds_toArray, List.set_cons_zero, List.set_cons_succ]
    apply wpAnyH_take (i := 24)
    case hi => exact (List.getElem?_toArray (xs := _)).trans rfl
    case hs => kernel_rfl
    case hf => kernel_rfl
    case hr => kernel_rfl
    case hQ => exact (fun _ _ _ h => h)
    case hS => assumption
    case hy => (refine Or.inl ⟨by rfl, ?_⟩; intro w hSw; (try dsimp only at hSw); go_simp; try with_reducible rfl)
    try simp only [Act.put, List.setIfInBounds_toArray, List.set_cons_zero, List.set_cons_succ]
    refine wpAnyH_ready (rs := [25]) (by kernel_rfl) (by simp) ?_
    refine AllReadyH.cons rfl (fun K hK => ?_) AllReadyH.nil
    go_simp
    (((with_reducible refine (RX.out _).mono ?_); rintro e wk ⟨rfl, hbk⟩; first | (with_reducible (have KB := KB.trans (hbk.mono KB.size))) | (with_reducible (have KB := k_drew hbk))))
    refine hK.out _ _ (SKK.out _ KB) (fun hHeld => ?_)
    clear hK K
    try simp only [Act.put, List.setIfInBounds_toArray, List.set_cons_zero, List.set_cons_succ]
    refine wpAnyH_ready (rs := [26]) (by kernel_rfl) (by simp) ?_
    refine AllReadyH.cons rfl (fun K hK => ?_) AllReadyH.nil
    go_simp
    (((with_reducible refine (SR.out _).mono ?_); rintro e wk ⟨rfl, hbk⟩; first | (with_reducible (have KB := KB.trans (hbk.mono KB.size))) | (with_reducible (have KB := k_drew hbk))))
    refine hK.out _ _ (SKK.out _ KB) (fun hHeld => ?_)
    clear hK K
    try simp only [Act.put, List.setIfInBounds_toArray, List.set_cons_zero, List.set_cons_succ]
    apply wpAnyH_take (i := 27)
    case hi => exact (List.getElem?_toArray (xs := _)).trans rfl
    case hs => kernel_rfl
    case hf => kernel_rfl
    case hr => kernel_rfl
    case hQ => exact (fun _ _ _ h => h)
    case hS => assumption
    case hy => (refine Or.inl ⟨by rfl, ?_⟩; intro w hSw; (try dsimp only at hSw); go_simp; try with_reducible rfl)
    try simp only [Act.put, List.setIfInBounds_toArray, List.set_cons_zero, List.set_cons_succ]
    apply wpAnyH_take (i := 28)
    case hi => exact (List.getElem?_toArray (xs := _)).trans rfl
    case hs => kernel_rfl
    case hf => kernel_rfl
    case hr => kernel_rfl
    case hQ => exact (fun _ _ _ h => h)
    case hS => assumption
    case hy => (refine Or.inl ⟨by rfl, ?_⟩; intro w hSw; (try dsimp only at hSw); go_simp; try with_reducible rfl)
    try simp only [Act.put, List.setIfInBounds_toArray, List.set_cons_zero, List.set_cons_succ]
    refine wpAnyH_ready (rs := [29]) (by kernel_rfl) (by simp) ?_
    refine AllReadyH.cons rfl (fun K hK => ?_) AllReadyH.nil
    go_simp
    (((with_reducible refine (KN.out _ KB).mono ?_); rintro e wk ⟨rfl, hbk⟩; first | (with_reducible (have KB := KB.trans (hbk.mono KB.size))) | (with_reducible (have KB := k_drew hbk))))
    refine hK.out _ _ (SKK.out _ KB) (fun hHeld => ?_)
    clear hK K
    try simp only [Act.put, List.setIfInBounds_toArray, List.set_cons_zero, List.set_cons_succ]
    apply wpAnyH_take (i := 30)
    case hi => exact (List.getElem?_toArray (xs := _)).trans rfl
    case hs => kernel_rfl
    case hf => kernel_rfl
    case hr => kernel_rfl
    case hQ => exact (fun _ _ _ h => h)
    case hS => assumption
    case hy => (refine Or.inl ⟨by rfl, ?_⟩; intro w hSw; (try dsimp only at hSw); go_simp; try with_reducible rfl)
    try simp only [Act.put, List.setIfInBounds_toArray, List.set_cons_zero, List.set_cons_succ]
    apply wpAnyH_take (i := 31)
    case hi => exact (List.getElem?_toArray (xs := _)).trans rfl
    case hs => kernel_rfl
    case hf => kernel_rfl
    case hr => kernel_rfl
    case hQ => exact (fun _ _ _ h => h)
    case hS => assumption
    case hy => (refine Or.inl ⟨by rfl, ?_⟩; intro w hSw; (try dsimp only at hSw); go_simp; try with_reducible rfl)
    try simp only [Act.put, List.setIfInBounds_toArray, List.set_cons_zero, List.set_cons_succ]
    refine wpAnyH_done (by kernel_rfl) ?_ _
    all_goals go_wp2_with fail
    all_goals go_ret
    all_goals exact ⟨rfl, below_nx HB.out (Nat.le_refl _) (below_nx T.out.bel (Nat.le_refl _) KB)⟩
  · have k0 : 0 < k1 := by
      rcases Nat.eq_zero_or_pos k1 with h | h
      · exact absurd (dg_len_zero.1 ((sl_len T.out.sx).trans h)) hv
      · exact h
    obtain ⟨ad, rfl, -⟩ := T.out.sx.at_ k0
    obtain ⟨d0, hd0⟩ : ∃ d, d = (dg (x.val % pp)).getD 0 0 := ⟨_, rfl⟩
    obtain ⟨d1, hd1⟩ : ∃ d, d = d0 % 2 := ⟨_, rfl⟩
    have e2 : (d0 : Int) % 2 = (d1 : Int) := by omega
    have e2' : (d0 : Int).tmod 2 = (d1 : Int) := by rw [Int.tmod_eq_emod_of_nonneg (by omega)]; omega
    have e2w : IntKind.u64.wrap (d1 : Int) = (d1 : Int) := by rw [IntKind.wrap_u64]; omega
    have e3 : ((d1 : Int) == 1) = o := by
      have hf := dg_first (x.val % pp)
      rw [← hd0] at hf
      rw [← HO.out, Bool.eq_iff_iff, beq_iff_eq, decide_eq_true_iff]
      omega
    have SKK := Lib.hid (show ∀ z : World, Below w2.heap.size w2 z → C5 z w.heap.size x ∧ C5 z (w.heap.size + 1) y ∧ z.cell? ad = some (.int .u64 (d0 : Int)) from fun z h => ⟨c5_below T.out.cx h, c5_below T.out.cy h, by
      have := sl_num (T.out.sx.below h) k0
      rw [← hd0] at this
      exact this⟩)
    have k0I : (0 : Int) < (k1 : Int) := by omega
    clear hv hd0 hd1
    go_upto_region 2 with fail
    go_region_held3 (fun z => C5 z w.heap.size x ∧ C5 z (w.heap.size + 1) y ∧ z.cell? ad = some (.int .u64 (d0 : Int)))
      (first | (refine SKK.out _ ?_; first | (with_reducible exact Below.refl _ _) | (with_reducible exact (Below.refl _ _).drew) | (with_reducible exact KB)))
      ((((first | (go_at_call 31; (with_reducible refine (SM.out _).mono ?_); rintro e wk ⟨rfl, hbk⟩; first | (with_reducible (have KB := KB.trans (hbk.mono KB.size))) | (with_reducible (have KB := k_drew hbk))) | (go_at_call 31; (with_reducible refine (SR.out _).mono ?_); rintro e wk ⟨rfl, hbk⟩; first | (with_reducible (have KB := KB.trans (hbk.mono KB.size))) | (with_reducible (have KB := k_drew hbk))) | (go_at_call 33; (with_reducible refine (OD.out _).mono ?_); rintro e wk ⟨rfl, hbk⟩; first | (with_reducible (have KB := KB.trans (hbk.mono KB.size))) | (with_reducible (have KB := k_drew hbk))) | (go_at_call 15; (with_reducible refine (RX.out _).mono ?_); rintro e wk ⟨rfl, hbk⟩; first | (with_reducible (have KB := KB.trans (hbk.mono KB.size))) | (with_reducible (have KB := k_drew hbk))) | (go_at_call 32; (with_reducible refine (RS.out _ KB).mono ?_); rintro e wk ⟨rfl, hbk⟩; first | (with_reducible (have KB := KB.trans (hbk.mono KB.size))) | (with_reducible (have KB := k_drew hbk))) | (go_at_call 17; (with_reducible refine (KN.out _ KB).mono ?_); rintro e wk ⟨rfl, hbk⟩; first | (with_reducible (have KB := KB.trans (hbk.mono KB.size))) | (with_reducible (have KB := k_drew hbk)))))))
    all_goals go_wp2_with fail
    all_goals go_ret
    all_goals exact ⟨rfl, below_nx HB.out (Nat.le_refl _) (below_nx T.out.bel (Nat.le_refl _) KB)⟩
end Go.Proofs.YteechlkccmcpfaaDoor.Fd
