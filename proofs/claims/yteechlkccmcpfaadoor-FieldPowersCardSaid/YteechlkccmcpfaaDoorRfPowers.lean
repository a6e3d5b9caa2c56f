/-
  Powers and inverses of elements are what the document says: the walk of the law.
-/
import Derived.Test.YteechlkccmcpfaaDoorRfReads
namespace Go.Proofs.YteechlkccmcpfaaDoor.Fd
open Go.RowKit Go.Proofs.YteechlkccmcpfaaDoor.Gn Go.Deep
set_option linter.unusedVariables false

theorem pw_cg (a n : Nat) : (a % pp) ^ n % pp = a ^ n % pp := (Nat.pow_mod a n pp).symm
set_option maxHeartbeats 8000000 in
set_option maxRecDepth 100000 in
theorem powers_walk {w : World} (tab : Tab w) (a r q : E5) (ha : a.ok) (A : Option Addr) (n c : Nat) (l : List Nat) (hn : n ≤ 40) (hl : ∀ x ∈ l, x < 256) (hsl : Sl w A n (bl l))
    (PW : ∀ u, Sl u A n (bl l) → Calls Tryd.prog 34 #[(.agg #[.int .u64 (a.a : Int), .int .u64 (a.b : Int), .int .u64 (a.c : Int), .int .u64 (a.d : Int), .int .u64 (a.e : Int)]), .slice A n c] u fun e w' => e = .returned (.tuple #[(.agg #[.int .u64 (r.a : Int), .int .u64 (r.b : Int), .int .u64 (r.c : Int), .int .u64 (r.d : Int), .int .u64 (r.e : Int)]), .int .i64 0]) ∧ Below u.heap.size u w')
    (IA : ∀ u, Calls Tryd.prog 36 #[(.agg #[.int .u64 (a.a : Int), .int .u64 (a.b : Int), .int .u64 (a.c : Int), .int .u64 (a.d : Int), .int .u64 (a.e : Int)])] u fun e w' => e = .returned (.agg #[.int .u64 (q.a : Int), .int .u64 (q.b : Int), .int .u64 (q.c : Int), .int .u64 (q.d : Int), .int .u64 (q.e : Int)]) ∧ Below u.heap.size u w')
    (IS1 : ∀ B k d u, Sl u B k (nl (dg ((a.val % pp) ^ le l % pp))) → Calls Tryd.prog 21 #[(.agg #[.int .u64 (r.a : Int), .int .u64 (r.b : Int), .int .u64 (r.c : Int), .int .u64 (r.d : Int), .int .u64 (r.e : Int)]), .slice B k d] u fun e w' => e = .returned (.bool true) ∧ Below u.heap.size u w')
    (IS2 : ∀ B k d u, Sl u B k (nl (dg ((a.val % pp) ^ (pp - 2) % pp))) → Calls Tryd.prog 21 #[(.agg #[.int .u64 (q.a : Int), .int .u64 (q.b : Int), .int .u64 (q.c : Int), .int .u64 (q.d : Int), .int .u64 (q.e : Int)]), .slice B k d] u fun e w' => e = .returned (.bool true) ∧ Below u.heap.size u w') :
    Calls Tryd.prog 8 #[.agg a.v, .slice A n c] w fun e w' => e = .returned (.bool true) ∧ Below w.heap.size w w' := by
  have HL := Lib.hid hl
  have PW := Lib.hid PW
  have IA := Lib.hid IA
  have IS1 := Lib.hid IS1
  have IS2 := Lib.hid IS2
  have OA := Lib.hid (show ∀ u, Calls Tryd.prog 19 #[(.agg #[.int .u64 (a.a : Int), .int .u64 (a.b : Int), .int .u64 (a.c : Int), .int .u64 (a.d : Int), .int .u64 (a.e : Int)])] u (RetN (a.val % pp) u) from fun u => Of_any a u ha)
  have t0 : decide ((40 : Int) < (n : Int)) = false := by simp; omega
  have t1 : decide ((64 : Int) < (n : Int)) = false := by simp; omega
  have BA := Lib.hid (Bl.new_ w 24 a.v)
  have a0 := (Below.refl w.heap.size w).alloc (Nat.le_refl _) (.cells a.v 24)
  have SA := Lib.hid (hsl.below a0)
  have TA := Lib.hid (tab.below a0)
  have WA := Lib.hid a0
  clear tab hsl ha a0
  go_enter Tryd.func8, Tryd.ntmps8
  go_upto_region 3 with fail
  change Code.wp _ _ _ _ (w.alloc (.cells a.v 24))
  generalize w.alloc (.cells a.v 24) = W0 at BA SA TA WA ⊢
  obtain ⟨q0, q1, q2, q3, q4⟩ := c5_of BA.out
  go_wp2_with fail
  (with_reducible refine (PW.out _ SA.out).mono ?_)
  rintro e w1 ⟨rfl, hb1⟩
  have D3 := Lib.hid (below_nx WA.out (Nat.le_refl _) (hb1.alloc hb1.size (.cells r.v 24)))
  have BX := Lib.hid (Bl.new_ w1 24 r.v)
  have BA3 := Lib.hid ((BA.out.below' hb1).alloc (.cells r.v 24))
  have SA3 := Lib.hid (SA.out.below (hb1.alloc hb1.size (.cells r.v 24)))
  have TA3 := Lib.hid (TA.out.below (hb1.alloc hb1.size (.cells r.v 24)))
  clear hb1 q0 q1 q2 q3 q4 BA SA TA WA
  go_upto_region 6 with fail
  change Code.wp _ _ _ _ (w1.alloc (.cells r.v 24))
  obtain ⟨gx, hgx⟩ : ∃ g, w1.heap.size = g := ⟨_, rfl⟩
  simp only [hgx] at BX ⊢
  generalize w1.alloc (.cells r.v 24) = W3 at BX BA3 SA3 TA3 D3 ⊢
  clear hgx t0 t1
  have SKK := Lib.hid (show ∀ u : World, Below W3.heap.size W3 u → C5 u w.heap.size a ∧ C5 u gx r from fun u h => ⟨c5_of (Bl.below' BA3.out h), c5_of (Bl.below' BX.out h)⟩)
  have SE := Lib.hid (show ∀ u : World, Below W3.heap.size W3 u → Sl u A n (bl l) from fun u h => SA3.out.below h)
  have TK := Lib.hid (show ∀ u : World, Below W3.heap.size W3 u → Tab u from fun u h => TA3.out.below h)
  clear BX BA3 SA3 TA3
  have KB : Below W3.heap.size W3 W3.drew := (Below.refl _ _).drew
  refine wp_region_held_drew (S := (fun u => C5 u w.heap.size a ∧ C5 u gx r)) (by kernel_rfl) (SKK.out _ ((Below.refl _ _).drew)) (fun hHeld => ?_)
  apply wpAnyH_take (i := 0)
  case hi => exact (List.getElem?_toArray (xs := _)).trans rfl
  case hs => kernel_rfl
  case hf => kernel_rfl
  case hr => kernel_rfl
  case hQ => exact (fun _ _ _ h => h)
  case hS => assumption
  case hy => (refine Or.inl ⟨by rfl, ?_⟩; intro w hSw; (try dsimp only at hSw); go_simp; try with_reducible rfl)
  try simp only [Act.put, List.setIfInBounds_toArray, List.set_cons_zero, List.set_cons_succ]
  apply wpAnyH_take (i := 1)
  case hi => exact (List.getElem?_toArray (xs := _)).trans rfl
  case hs => kernel_rfl
  case hf => kernel_rfl
  case hr => kernel_rfl
  case hQ => exact (fun _ _ _ h => h)
  case hS => assumption
  case hy => (refine Or.inl ⟨by rfl, ?_⟩; intro w hSw; (try dsimp only at hSw); go_simp; try with_reducible rfl)
  try simp only [Act.put, List.setIfInBounds_toArray, List.set_cons_zero, List.set_cons_succ]
  apply wpAnyH_take (i := 2)
  case hi => exact (List.getElem?_toArray (xs := _)).trans rfl
  case hs => kernel_rfl
  case hf => kernel_rfl
  case hr => kernel_rfl
  case hQ => exact (fun _ _ _ h => h)
  case hS => assumption
  case hy => (refine Or.inl ⟨by rfl, ?_⟩; intro w hSw; (try dsimp only at hSw); go_simp; try with_reducible rfl)
  try simp only [Act.put, List.setIfInBounds_toArray, List.set_cons_zero, List.set_cons_succ]
  apply wpAnyH_take (i := 3)
  case hi => exact (List.getElem?_toArray (xs := _)).trans rfl
  case hs => kernel_rfl
  case hf => kernel_rfl
  case hr => kernel_rfl
  case hQ => exact (fun _ _ _ h => h)
  case hS => assumption
  case hy => (refine Or.inl ⟨by rfl, ?_⟩; intro w hSw; (try dsimp only at hSw); go_simp; try with_reducible rfl)
  try simp only [Act.put, List.setIfInBounds_toArray, List.set_cons_zero, List.set_cons_succ]
  apply wpAnyH_take (i := 4)
  case hi => exact (List.getElem?_toArray (xs := _)).trans rfl
  case hs => kernel_rfl
  case hf => kernel_rfl
  case hr => kernel_rfl
  case hQ => exact (fun _ _ _ h => h)
  case hS => assumption
  case hy => (refine Or.inl ⟨by rfl, ?_⟩; intro w hSw; (try dsimp only at hSw); go_simp; try with_reducible rfl)
  try simp only [Act.put, List.setIfInBounds_toArray, List.set_cons_zero, List.set_cons_succ]
  apply wpAnyH_take (i := 6)
  case hi => exact (List.getElem?_toArray (xs := _)).trans rfl
  case hs => kernel_rfl
  case hf => kernel_rfl
  case hr => kernel_rfl
  case hQ => exact (fun _ _ _ h => h)
  case hS => assumption
  case hy => (refine Or.inl ⟨by rfl, ?_⟩; intro w hSw; (try dsimp only at hSw); go_simp; try with_reducible rfl)
  try simp only [Act.put, List.setIfInBounds_toArray, List.set_cons_zero, List.set_cons_succ]
  refine wpAnyH_ready (rs := [5]) (by kernel_rfl) (by simp) ?_
  refine AllReadyH.cons rfl (fun K hK => ?_) AllReadyH.nil
  go_simp
  (((with_reducible refine (OA.out _).mono ?_); rintro e wk ⟨A5, k5, c5, rfl, h51, h52, h53⟩; have T5 := Lib.hid h51; have KB := KB.trans (h53.mono KB.size); clear h51 h53))
  refine hK.out _ _ (SKK.out _ KB) (fun hHeld => ?_)
  clear hK K
  try simp only [Act.put, List.setIfInBounds_toArray, List.set_cons_zero, List.set_cons_succ]
  refine wpAnyH_ready (rs := [7]) (by kernel_rfl) (by simp) ?_
  refine AllReadyH.cons rfl (fun K hK => ?_) AllReadyH.nil
  go_simp
  (((with_reducible refine (Power_any A5 A k5 n c5 c (a.val % pp) l _ (by rw [← sl_len T5.out]; exact len16 (mod_lt _)) (by omega) HL.out T5.out (SE.out _ KB)).mono ?_); rintro e wk ⟨A7, k7, c7, rfl, h71, h72, h73⟩; have T7 := Lib.hid h71; have KB := KB.trans (h73.mono KB.size); clear h71 h73))
  refine hK.out _ _ (SKK.out _ KB) (fun hHeld => ?_)
  clear hK K
  try simp only [Act.put, List.setIfInBounds_toArray, List.set_cons_zero, List.set_cons_succ]
  refine wpAnyH_ready (rs := [8]) (by kernel_rfl) (by simp) ?_
  refine AllReadyH.cons rfl (fun K hK => ?_) AllReadyH.nil
  go_simp
  (((with_reducible refine (IS1.out A7 k7 c7 _ T7.out).mono ?_); rintro e wk ⟨rfl, hbk⟩; have KB := KB.trans (hbk.mono KB.size); clear hbk))
  refine hK.out _ _ (SKK.out _ KB) (fun hHeld => ?_)
  clear hK K
  try simp only [Act.put, List.setIfInBounds_toArray, List.set_cons_zero, List.set_cons_succ]
  apply wpAnyH_take (i := 9)
  case hi => exact (List.getElem?_toArray (xs := _)).trans rfl
  case hs => kernel_rfl
  case hf => kernel_rfl
  case hr => kernel_rfl
  case hQ => exact (fun _ _ _ h => h)
  case hS => assumption
  case hy => (refine Or.inl ⟨by rfl, ?_⟩; intro w hSw; (try dsimp only at hSw); go_simp; try with_reducible rfl)
  try simp only [Act.put, List.setIfInBounds_toArray, List.set_cons_zero, List.set_cons_succ]
  apply wpAnyH_take (i := 10)
  case hi => exact (List.getElem?_toArray (xs := _)).trans rfl
  case hs => kernel_rfl
  case hf => kernel_rfl
  case hr => kernel_rfl
  case hQ => exact (fun _ _ _ h => h)
  case hS => assumption
  case hy => (refine Or.inl ⟨by rfl, ?_⟩; intro w hSw; (try dsimp only at hSw); go_simp; try with_reducible rfl)
  try simp only [Act.put, List.setIfInBounds_toArray, List.set_cons_zero, List.set_cons_succ]
  apply wpAnyH_take (i := 11)
  case hi => exact (List.getElem?_toArray (xs := _)).trans rfl
  case hs => kernel_rfl
  case hf => kernel_rfl
  case hr => kernel_rfl
  case hQ => exact (fun _ _ _ h => h)
  case hS => assumption
  case hy => (refine Or.inl ⟨by rfl, ?_⟩; intro w hSw; (try dsimp only at hSw); go_simp; try with_reducible rfl)
  try simp only [Act.put, List.setIfInBounds_toArray, List.set_cons_zero, List.set_cons_succ]
  apply wpAnyH_take (i := 13)
  case hi => exact (List.getElem?_toArray (xs := _)).trans rfl
  case hs => kernel_rfl
  case hf => kernel_rfl
  case hr => kernel_rfl
  case hQ => exact (fun _ _ _ h => h)
  case hS => assumption
  case hy => (refine Or.inl ⟨by rfl, ?_⟩; intro w hSw; (try dsimp only at hSw); go_simp; try with_reducible rfl)
  try simp only [Act.put, List.setIfInBounds_toArray, List.set_cons_zero, List.set_cons_succ]
  refine wpAnyH_ready (rs := [12]) (by kernel_rfl) (by simp) ?_
  refine AllReadyH.cons rfl (fun K hK => ?_) AllReadyH.nil
  go_simp
  (((with_reducible refine (IA.out _).mono ?_); rintro e wk ⟨rfl, hbk⟩; have KB := KB.trans (hbk.mono KB.size); clear hbk))
  refine hK.out _ _ (SKK.out _ KB) (fun hHeld => ?_)
  clear hK K
  try simp only [Act.put, List.setIfInBounds_toArray, List.set_cons_zero, List.set_cons_succ]
  refine wpAnyH_ready (rs := [14]) (by kernel_rfl) (by simp) ?_
  refine AllReadyH.cons rfl (fun K hK => ?_) AllReadyH.nil
  go_simp
  (((with_reducible refine (OA.out _).mono ?_); rintro e wk ⟨A4, k4, c4, rfl, h41, h42, h43⟩; have T4 := Lib.hid h41; have KB := KB.trans (h43.mono KB.size); clear h41 h43))
  refine hK.out _ _ (SKK.out _ KB) (fun hHeld => ?_)
  clear hK K
  try simp only [Act.put, List.setIfInBounds_toArray, List.set_cons_zero, List.set_cons_succ]
  refine wpAnyH_ready (rs := [15]) (by kernel_rfl) (by simp) ?_
  refine AllReadyH.cons rfl (fun K hK => ?_) AllReadyH.nil
  go_simp
  (((with_reducible refine (RInv_any A4 k4 c4 (a.val % pp) _ (by rw [← sl_len T4.out]; exact len16 (mod_lt _)) T4.out).mono ?_); rintro e wk ⟨A6, k6, c6, rfl, h61, h62, h63⟩; have T6 := Lib.hid h61; have KB := KB.trans (h63.mono KB.size); clear h61 h63))
  refine hK.out _ _ (SKK.out _ KB) (fun hHeld => ?_)
  clear hK K
  try simp only [Act.put, List.setIfInBounds_toArray, List.set_cons_zero, List.set_cons_succ]
  refine wpAnyH_ready (rs := [16]) (by kernel_rfl) (by simp) ?_
  refine AllReadyH.cons rfl (fun K hK => ?_) AllReadyH.nil
  go_simp
  (((with_reducible refine (IS2.out A6 k6 c6 _ T6.out).mono ?_); rintro e wk ⟨rfl, hbk⟩; have KB := KB.trans (hbk.mono KB.size); clear hbk))
  refine hK.out _ _ (SKK.out _ KB) (fun hHeld => ?_)
  clear hK K
  try simp only [Act.put, List.setIfInBounds_toArray, List.set_cons_zero, List.set_cons_succ]
  apply wpAnyH_take (i := 17)
  case hi => exact (List.getElem?_toArray (xs := _)).trans rfl
  case hs => kernel_rfl
  case hf => kernel_rfl
  case hr => kernel_rfl
  case hQ => exact (fun _ _ _ h => h)
  case hS => assumption
  case hy => (refine Or.inl ⟨by rfl, ?_⟩; intro w hSw; (try dsimp only at hSw); go_simp; try with_reducible rfl)
  try simp only [Act.put, List.setIfInBounds_toArray, List.set_cons_zero, List.set_cons_succ]
  apply wpAnyH_take (i := 18)
  case hi => exact (List.getElem?_toArray (xs := _)).trans rfl
  case hs => kernel_rfl
  case hf => kernel_rfl
  case hr => kernel_rfl
  case hQ => exact (fun _ _ _ h => h)
  case hS => assumption
  case hy => (refine Or.inl ⟨by rfl, ?_⟩; intro w hSw; (try dsimp only at hSw); go_simp; try with_reducible rfl)
  try simp only [Act.put, List.setIfInBounds_toArray, List.set_cons_zero, List.set_cons_succ]
  refine wpAnyH_ready (rs := [19]) (by kernel_rfl) (by simp) ?_
  refine AllReadyH.cons rfl (fun K hK => ?_) AllReadyH.nil
  go_simp
  (((with_reducible refine (known_any _ (TK.out _ KB)).mono ?_); rintro e wk ⟨rfl, hbk⟩; have KB := KB.trans (hbk.mono KB.size); clear hbk))
  refine hK.out _ _ (SKK.out _ KB) (fun hHeld => ?_)
  clear hK K
  try simp only [Act.put, List.setIfInBounds_toArray, List.set_cons_zero, List.set_cons_succ]
  apply wpAnyH_take (i := 20)
  case hi => exact (List.getElem?_toArray (xs := _)).trans rfl
  case hs => kernel_rfl
  case hf => kernel_rfl
  case hr => kernel_rfl
  case hQ => exact (fun _ _ _ h => h)
  case hS => assumption
  case hy => (refine Or.inl ⟨by rfl, ?_⟩; intro w hSw; (try dsimp only at hSw); go_simp; try with_reducible rfl)
  try simp only [Act.put, List.setIfInBounds_toArray, List.set_cons_zero, List.set_cons_succ]
  apply wpAnyH_take (i := 21)
  case hi => exact (List.getElem?_toArray (xs := _)).trans rfl
  case hs => kernel_rfl
  case hf => kernel_rfl
  case hr => kernel_rfl
  case hQ => exact (fun _ _ _ h => h)
  case hS => assumption
  case hy => (refine Or.inl ⟨by rfl, ?_⟩; intro w hSw; (try dsimp only at hSw); go_simp; try with_reducible rfl)
  try simp only [Act.put, List.setIfInBounds_toArray, List.set_cons_zero, List.set_cons_succ]
  refine wpAnyH_done (by kernel_rfl) ?_ _
  go_wp2_with fail
  go_ret
  exact ⟨rfl, below_nx D3.out (Nat.le_refl _) KB⟩
set_option maxHeartbeats 2000000 in
theorem powers_mid {w : World} (tab : Tab w) (a : E5) (A : Option Addr) (n c : Nat) (h1 : 40 < n) (h2 : n ≤ 64) :
    Calls Tryd.prog 8 #[.agg a.v, .slice A n c] w fun e w' => e = .returned (.bool true) ∧ Below w.heap.size w w' := by
  have t0 : decide ((40 : Int) < (n : Int)) = true := by simp; omega
  have t1 : decide ((n : Int) ≤ 64) = true := by simp; omega
  have a0 := (Below.refl w.heap.size w).alloc (Nat.le_refl _) (.cells a.v 24)
  have TA := Lib.hid (tab.below a0)
  have WA := Lib.hid a0
  clear tab h1 h2 a0
  go_enter Tryd.func8, Tryd.ntmps8
  go_wp2_with fail
  change Calls _ _ _ (w.alloc (.cells a.v 24)) _
  (with_reducible refine (known_any _ TA.out).mono ?_)
  rintro e w1 ⟨rfl, hb1⟩
  have W1 := Lib.hid (below_nx WA.out (Nat.le_refl _) hb1)
  clear hb1
  go_wp2_with fail
  go_ret
  exact ⟨rfl, W1.out⟩
set_option maxHeartbeats 2000000 in
theorem powers_long {w : World} (tab : Tab w) (a : E5) (A : Option Addr) (n c : Nat) (h1 : 64 < n) (h2 : n ≤ 9223372036854775807) :
    Calls Tryd.prog 8 #[.agg a.v, .slice A n c] w fun e w' => e = .returned (.bool true) ∧ Below w.heap.size w w' := by
  have PL := Lib.hid (show ∀ u, Calls Tryd.prog 34 #[(.agg #[.int .u64 (a.a : Int), .int .u64 (a.b : Int), .int .u64 (a.c : Int), .int .u64 (a.d : Int), .int .u64 (a.e : Int)]), .slice A n c] u fun e w' => e = .returned (.tuple #[.agg #[.int .u64 0, .int .u64 0, .int .u64 0, .int .u64 0, .int .u64 0], .int .i64 1]) ∧ Below u.heap.size u w' from fun u => pow_long a A n c u h1)
  have t0 : decide ((40 : Int) < (n : Int)) = true := by simp; omega
  have t1 : decide ((n : Int) ≤ 64) = false := by simp; omega
  have t2 : decide ((64 : Int) < (n : Int)) = true := by simp; omega
  have a0 := (Below.refl w.heap.size w).alloc (Nat.le_refl _) (.cells a.v 24)
  have BA := Lib.hid (Bl.new_ w 24 a.v)
  have TA := Lib.hid (tab.below a0)
  have WA := Lib.hid a0
  have G1 := guard5
  have G2 : ∀ w, (Op.equalIn 10000 24 (.agg #[.int .u64 0, .int .u64 0, .int .u64 0, .int .u64 0, .int .u64 0]) (.agg #[.int .u64 0, .int .u64 0, .int .u64 0, .int .u64 0, .int .u64 0])).run Tryd.prog w = .ok true w := fun w => by
    have := equal5 ⟨0, 0, 0, 0, 0⟩ ⟨0, 0, 0, 0, 0⟩ w
    rw [decide_eq_true rfl] at this
    exact this
  clear tab h1 h2 a0
  go_enter Tryd.func8, Tryd.ntmps8
  go_upto_region 3 with fail
  change Code.wp _ _ _ _ (w.alloc (.cells a.v 24))
  generalize w.alloc (.cells a.v 24) = W0 at BA TA WA ⊢
  obtain ⟨q0, q1, q2, q3, q4⟩ := c5_of BA.out
  go_wp2_with fail
  (with_reducible refine (PL.out _).mono ?_)
  rintro e w1 ⟨rfl, hb1⟩
  have W1 := Lib.hid (below_nx WA.out (Nat.le_refl _) (hb1.alloc hb1.size (.cells #[.int .u64 0, .int .u64 0, .int .u64 0, .int .u64 0, .int .u64 0] 24)))
  have T1 := Lib.hid (TA.out.below (hb1.alloc hb1.size (.cells #[.int .u64 0, .int .u64 0, .int .u64 0, .int .u64 0, .int .u64 0] 24)))
  clear hb1 q0 q1 q2 q3 q4
  go_wp2_with fail
  (with_reducible refine (known_any _ T1.out).mono ?_)
  rintro e w2 ⟨rfl, hb2⟩
  have W2 := Lib.hid (below_nx W1.out (Nat.le_refl _) hb2)
  clear hb2
  go_wp2_with fail
  go_ret
  exact ⟨rfl, W2.out⟩
theorem walk_fieldPowers {w : World} (tab : Tab w) (a : E5) (ha : a.ok) (A : Option Addr) (n c : Nat) (l : List Nat) (hb : BL w A n c l) :
    Calls Tryd.prog 8 #[.agg a.v, .slice A n c] w fun e w' => e = .returned (.bool true) ∧ Below w.heap.size w w' := by
  by_cases h1 : n ≤ 40
  · have PW : ∀ u, Sl u A n (bl l) → Calls Tryd.prog 34 #[.agg a.v, .slice A n c] u fun e w' => e = .returned (.tuple #[.agg (el (a.val ^ le l % pp)).v, .int .i64 0]) ∧ Below u.heap.size u w' := fun u hs => pow_any a A n c l u ha (by omega) hb.2.2.1 hs
    refine powers_walk tab a (el (a.val ^ le l % pp)) (el (a.val ^ (pp - 2) % pp)) ha A n c l h1 hb.2.2.1 hb.1 PW (fun u => Inv_any a u ha) (fun B k d u hs => ?_) (fun B k d u hs => ?_)
    · rw [pw_cg] at hs
      exact is_any _ B k d u (mod_lt _) hs
    · rw [pw_cg] at hs
      exact is_any _ B k d u (mod_lt _) hs
  · by_cases h2 : n ≤ 64
    · exact powers_mid tab a A n c (by omega) h2
    · exact powers_long tab a A n c (by omega) hb.2.1
end Go.Proofs.YteechlkccmcpfaaDoor.Fd
