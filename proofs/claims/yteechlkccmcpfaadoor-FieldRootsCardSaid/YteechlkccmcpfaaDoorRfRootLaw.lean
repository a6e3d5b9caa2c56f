/-
  Roots of quotients of elements are what the document says: the walk of the law.
-/
import Derived.Test.YteechlkccmcpfaaDoorRfRoot
import Derived.Test.YteechlkccmcpfaaDoorRfReads
namespace Go.Proofs.YteechlkccmcpfaaDoor.Fd
open Go.RowKit Go.Proofs.YteechlkccmcpfaaDoor.Gn Go.Deep
set_option linter.unusedVariables false

theorem rt_mods (u v : Nat) : rt u v = rt (u % pp) (v % pp) := by
  have hu : cg u (u % pp) := (cg.mod u).symm
  have hv : cg v (v % pp) := (cg.mod v).symm
  have h1 : u * v ^ 3 * (u * v ^ 7) ^ e8 % pp = u % pp * (v % pp) ^ 3 * (u % pp * (v % pp) ^ 7) ^ e8 % pp := (hu.mul (hv.pow 3)).mul ((hu.mul (hv.pow 7)).pow e8)
  have h2 : ng u = ng (u % pp) := by unfold ng; rw [Nat.mod_mod]
  unfold rt
  rw [h1, h2, Nat.mod_mod]
  dsimp only
  generalize u % pp * (v % pp) ^ 3 * (u % pp * (v % pp) ^ 7) ^ e8 % pp = r
  have h3 : r * r * v % pp = r * r * (v % pp) % pp := (cg.rfl' (r * r)).mul hv
  rw [h3]

set_option maxHeartbeats 8000000 in
set_option maxRecDepth 100000 in
theorem roots_walk {w : World} (tab : Tab w) (x y q : E5) (hx : x.ok) (hy : y.ok) (o : Option Nat) (s0 : Nat) (b0 : Bool) (hr : rr (x.val % pp) (y.val % pp) = o) (ho : s0 = o.getD 0 ∧ b0 = o.isSome) (hq : el s0 = q)
    (RO : ∀ u, Tab u → Calls Tryd.prog 38 #[(.agg #[.int .u64 (x.a : Int), .int .u64 (x.b : Int), .int .u64 (x.c : Int), .int .u64 (x.d : Int), .int .u64 (x.e : Int)]), (.agg #[.int .u64 (y.a : Int), .int .u64 (y.b : Int), .int .u64 (y.c : Int), .int .u64 (y.d : Int), .int .u64 (y.e : Int)])] u fun e w' => e = .returned (.tuple #[(.agg #[.int .u64 (q.a : Int), .int .u64 (q.b : Int), .int .u64 (q.c : Int), .int .u64 (q.d : Int), .int .u64 (q.e : Int)]), .bool b0]) ∧ Below u.heap.size u w') :
    Calls Tryd.prog 9 #[.agg x.v, .agg y.v] w fun e w' => e = .returned (.bool true) ∧ Below w.heap.size w w' := by
  have HR := Lib.hid hr
  have HO := Lib.hid ho
  have HQ := Lib.hid hq
  have RO := Lib.hid RO
  have OX := Lib.hid (show ∀ u, Calls Tryd.prog 19 #[(.agg #[.int .u64 (x.a : Int), .int .u64 (x.b : Int), .int .u64 (x.c : Int), .int .u64 (x.d : Int), .int .u64 (x.e : Int)])] u (RetN (x.val % pp) u) from fun u => Of_any x u hx)
  have OY := Lib.hid (show ∀ u, Calls Tryd.prog 19 #[(.agg #[.int .u64 (y.a : Int), .int .u64 (y.b : Int), .int .u64 (y.c : Int), .int .u64 (y.d : Int), .int .u64 (y.e : Int)])] u (RetN (y.val % pp) u) from fun u => Of_any y u hy)
  have B0 := Lib.hid (And.intro (box2 w x y).1 (box2 w x y).2.1)
  have HB := Lib.hid (box2 w x y).2.2
  have TAB := Lib.hid (tab.below (((Below.refl w.heap.size w).alloc (Nat.le_refl _) (.cells x.v 24)).alloc (by simp) (.cells y.v 24)))
  have G1 := guard5
  have G2 : ∀ w, (Op.equalIn 10000 24 (.agg #[.int .u64 (q.a : Int), .int .u64 (q.b : Int), .int .u64 (q.c : Int), .int .u64 (q.d : Int), .int .u64 (q.e : Int)]) (.agg #[.int .u64 (q.a : Int), .int .u64 (q.b : Int), .int .u64 (q.c : Int), .int .u64 (q.d : Int), .int .u64 (q.e : Int)])).run Tryd.prog w = .ok true w := fun w => by
    have := equal5 q q w
    rw [decide_eq_true rfl] at this
    exact this
  clear tab hx hy hr ho hq
  go_enter Tryd.func9, Tryd.ntmps9
  go_upto_region 1 with fail
  change Code.wp _ _ _ _ ((w.alloc (.cells x.v 24)).alloc (.cells y.v 24))
  generalize (w.alloc (.cells x.v 24)).alloc (.cells y.v 24) = W0 at B0 HB TAB ⊢
  obtain ⟨p0, p1, p2, p3, p4⟩ := c5_of B0.out.1
  obtain ⟨r0, r1, r2, r3, r4⟩ := c5_of B0.out.2
  go_wp2_with fail
  (with_reducible refine (RO.out _ TAB.out).mono ?_)
  rintro e w1 ⟨rfl, hb1⟩
  have a2 := hb1.alloc hb1.size (.cells q.v 24)
  have D3 := Lib.hid (below_nx HB.out (Nat.le_refl _) a2)
  have BX := Lib.hid (B0.out.1.below' a2)
  have BY := Lib.hid (B0.out.2.below' a2)
  have BQ := Lib.hid (Bl.new_ w1 24 q.v)
  have TK0 := Lib.hid (TAB.out.below a2)
  clear hb1 a2 p0 p1 p2 p3 p4 r0 r1 r2 r3 r4 B0 HB TAB RO
  go_upto_region 2 with fail
  change Code.wp _ _ _ _ (w1.alloc (.cells q.v 24))
  obtain ⟨gq, hgq⟩ : ∃ g, w1.heap.size = g := ⟨_, rfl⟩
  simp only [hgq] at BQ ⊢
  generalize w1.alloc (.cells q.v 24) = W3 at BX BY BQ TK0 D3 ⊢
  clear hgq
  have SKK := Lib.hid (show ∀ u : World, Below W3.heap.size W3 u → C5 u w.heap.size x ∧ C5 u (w.heap.size + 1) y from fun u h => ⟨c5_of (Bl.below' BX.out h), c5_of (Bl.below' BY.out h)⟩)
  have KB : Below W3.heap.size W3 W3.drew := (Below.refl _ _).drew
  refine wp_region_held_drew (S := (fun u => C5 u w.heap.size x ∧ C5 u (w.heap.size + 1) y)) (by kernel_rfl) (SKK.out _ ((Below.refl _ _).drew)) (fun hHeld => ?_)
  apply wpAnyH_take (i := 0)
  case hi => exact (List.getElem?_toArray (xs := _)).trans rfl
  case hs => kernel_rfl
  case hf => kernel_rfl
  case hr => kernel_rfl
  case hQ => exact (fun _ _ _ h => h)
  case hS => assumption
  case hy => (refine Or.inl ⟨by rfl, ?_⟩; intro w hSw; (try dsimp only at hSw); go_simp; try with_reducible rfl)
  try simp only [Act.put, List.setIfInBounds_toArray, List.set_cons_zero, List.set_cons_succ]
  apply wpAnyH_take (i := 2)
  case hi => exact (List.getElem?_toArray (xs := _)).trans rfl
  case hs => kernel_rfl
  case hf => kernel_rfl
  case hr => kernel_rfl
  case hQ => exact (fun _ _ _ h => h)
  case hS => assumption
  case hy => (refine Or.inl ⟨by rfl, ?_⟩; intro w hSw; (try dsimp only at hSw); go_simp; try with_reducible rfl)
  try simp only [Act.put, List.setIfInBounds_toArray, List.set_cons_zero, List.set_cons_succ]
  refine wpAnyH_ready (rs := [1]) (by kernel_rfl) (by simp) ?_
  refine AllReadyH.cons rfl (fun K hK => ?_) AllReadyH.nil
  go_simp
  (((with_reducible refine (OX.out _).mono ?_); rintro e wk ⟨A1, k1, c1, rfl, h11, h12, h13⟩; have T1 := Lib.hid h11; have V1 := Lib.hid h13; have KB := KB.trans (h13.mono KB.size); clear h11 h13))
  refine hK.out _ _ (SKK.out _ KB) (fun hHeld => ?_)
  clear hK K
  try simp only [Act.put, List.setIfInBounds_toArray, List.set_cons_zero, List.set_cons_succ]
  refine wpAnyH_ready (rs := [3]) (by kernel_rfl) (by simp) ?_
  refine AllReadyH.cons rfl (fun K hK => ?_) AllReadyH.nil
  go_simp
  (((with_reducible refine (OY.out _).mono ?_); rintro e wk ⟨A2, k2, c2, rfl, h21, h22, h23⟩; have T2 := Lib.hid h21; have V2 := Lib.hid h23; have KB := KB.trans (h23.mono KB.size); clear h21 h23))
  refine hK.out _ _ (SKK.out _ KB) (fun hHeld => ?_)
  clear hK K
  try simp only [Act.put, List.setIfInBounds_toArray, List.set_cons_zero, List.set_cons_succ]
  refine wpAnyH_ready (rs := [4]) (by kernel_rfl) (by simp) ?_
  refine AllReadyH.cons rfl (fun K hK => ?_) AllReadyH.nil
  go_simp
  (((with_reducible refine (RRoot_any A1 A2 k1 k2 c1 c2 (x.val % pp) (y.val % pp) _ (mod_lt _) (mod_lt _) (T1.out.below V2.out) T2.out).mono ?_); rintro e wk ⟨As, ks, cs, s, b, rfl, hs1, hsl, hss, hsb, hs3⟩; rw [HR.out] at hss hsb; have TS := Lib.hid hs1; have HSE := Lib.hid (And.intro hss hsb); have SL := Lib.hid hsl; have KB := KB.trans (hs3.mono KB.size); clear hs1 hs3 hss hsb hsl))
  refine hK.out _ _ (SKK.out _ KB) (fun hHeld => ?_)
  clear hK K
  try simp only [Act.put, List.setIfInBounds_toArray, List.set_cons_zero, List.set_cons_succ]
  apply wpAnyH_take (i := 5)
  case hi => exact (List.getElem?_toArray (xs := _)).trans rfl
  case hs => kernel_rfl
  case hf => kernel_rfl
  case hr => kernel_rfl
  case hQ => exact (fun _ _ _ h => h)
  case hS => assumption
  case hy => (refine Or.inl ⟨by rfl, ?_⟩; intro w hSw; (try dsimp only at hSw); go_simp; try with_reducible rfl)
  try simp only [Act.put, List.setIfInBounds_toArray, List.set_cons_zero, List.set_cons_succ]
  apply wpAnyH_take (i := 6)
  case hi => exact (List.getElem?_toArray (xs := _)).trans rfl
  case hs => kernel_rfl
  case hf => kernel_rfl
  case hr => kernel_rfl
  case hQ => exact (fun _ _ _ h => h)
  case hS => assumption
  case hy => (refine Or.inl ⟨by rfl, ?_⟩; intro w hSw; (try dsimp only at hSw); go_simp; try with_reducible rfl)
  try simp only [Act.put, List.setIfInBounds_toArray, List.set_cons_zero, List.set_cons_succ]
  apply wpAnyH_take (i := 7)
  case hi => exact (List.getElem?_toArray (xs := _)).trans rfl
  case hs => kernel_rfl
  case hf => kernel_rfl
  case hr => kernel_rfl
  case hQ => exact (fun _ _ _ h => h)
  case hS => assumption
  case hy => (refine Or.inl ⟨by rfl, ?_⟩; intro w hSw; (try dsimp only at hSw); go_simp; try with_reducible rfl)
  try simp only [Act.put, List.setIfInBounds_toArray, List.set_cons_zero, List.set_cons_succ]
  apply wpAnyH_take (i := 8)
  case hi => exact (List.getElem?_toArray (xs := _)).trans rfl
  case hs => kernel_rfl
  case hf => kernel_rfl
  case hr => kernel_rfl
  case hQ => exact (fun _ _ _ h => h)
  case hS => assumption
  case hy => (refine Or.inl ⟨by rfl, ?_⟩; intro w hSw; (try dsimp only at hSw); go_simp; try with_reducible rfl)
  try simp only [Act.put, List.setIfInBounds_toArray, List.set_cons_zero, List.set_cons_succ]
  apply wpAnyH_take (i := 9)
  case hi => exact (List.getElem?_toArray (xs := _)).trans rfl
  case hs => kernel_rfl
  case hf => kernel_rfl
  case hr => kernel_rfl
  case hQ => exact (fun _ _ _ h => h)
  case hS => assumption
  case hy => (refine Or.inl ⟨by rfl, ?_⟩; intro w hSw; (try dsimp only at hSw); go_simp; try with_reducible rfl)
  try simp only [Act.put, List.setIfInBounds_toArray, List.set_cons_zero, List.set_cons_succ]
  refine wpAnyH_done (by kernel_rfl) ?_ _
  obtain ⟨rfl, rfl⟩ : s = s0 ∧ b = b0 := ⟨HSE.out.1.trans HO.out.1.symm, HSE.out.2.trans HO.out.2.symm⟩
  have D4 := Lib.hid (below_nx D3.out (Nat.le_refl _) KB)
  have BQ4 := Lib.hid (BQ.out.below' KB)
  have TK4 := Lib.hid (TK0.out.below KB)
  have KS := Lib.hid (show ks ≤ 100 by rw [← sl_len TS.out]; exact Nat.le_trans (len16 SL.out) (by decide))
  clear KB SKK BX BY BQ TK0 hHeld T1 T2 V1 V2
  generalize wk = W4 at *
  go_upto_region 3 with fail
  have SKK := Lib.hid (show ∀ u : World, Below W4.heap.size W4 u → C5 u gq q from fun u h => c5_of (Bl.below' BQ4.out h))
  have TK := Lib.hid (show ∀ u : World, Below W4.heap.size W4 u → Tab u from fun u h => TK4.out.below h)
  have RE := Lib.hid (show ∀ u : World, Below W4.heap.size W4 u → Calls Tryd.prog 40 #[.slice As ks cs] u fun e w' => e = .returned (.agg #[.int .u64 (q.a : Int), .int .u64 (q.b : Int), .int .u64 (q.c : Int), .int .u64 (q.d : Int), .int .u64 (q.e : Int)]) ∧ Below u.heap.size u w' from fun u h => by
    have := RElem_any As ks cs s u KS.out SL.out (TS.out.below h)
    rw [HQ.out] at this
    exact this)
  have KB : Below W4.heap.size W4 W4.drew := (Below.refl _ _).drew
  refine wp_region_held_drew (S := (fun u => C5 u gq q)) (by kernel_rfl) (SKK.out _ ((Below.refl _ _).drew)) (fun hHeld => ?_)
  apply wpAnyH_take (i := 0)
  case hi => exact (List.getElem?_toArray (xs := _)).trans rfl
  case hs => kernel_rfl
  case hf => kernel_rfl
  case hr => kernel_rfl
  case hQ => exact (fun _ _ _ h => h)
  case hS => assumption
  case hy => (refine Or.inl ⟨by rfl, ?_⟩; intro w hSw; (try dsimp only at hSw); go_simp; try with_reducible rfl)
  try simp only [Act.put, List.setIfInBounds_toArray, List.set_cons_zero, List.set_cons_succ]
  apply wpAnyH_take (i := 1)
  case hi => exact (List.getElem?_toArray (xs := _)).trans rfl
  case hs => kernel_rfl
  case hf => kernel_rfl
  case hr => kernel_rfl
  case hQ => exact (fun _ _ _ h => h)
  case hS => assumption
  case hy => (refine Or.inl ⟨by rfl, ?_⟩; intro w hSw; (try dsimp only at hSw); go_simp; try with_reducible rfl)
  try simp only [Act.put, List.setIfInBounds_toArray, List.set_cons_zero, List.set_cons_succ]
  refine wpAnyH_ready (rs := [2]) (by kernel_rfl) (by simp) ?_
  refine AllReadyH.cons rfl (fun K hK => ?_) AllReadyH.nil
  go_simp
  (((with_reducible refine (RE.out _ KB).mono ?_); rintro e wk ⟨rfl, hbk⟩; have KB := KB.trans (hbk.mono KB.size); clear hbk))
  refine hK.out _ _ (SKK.out _ KB) (fun hHeld => ?_)
  clear hK K
  try simp only [Act.put, List.setIfInBounds_toArray, List.set_cons_zero, List.set_cons_succ]
  apply wpAnyH_take (i := 3)
  case hi => exact (List.getElem?_toArray (xs := _)).trans rfl
  case hs => kernel_rfl
  case hf => kernel_rfl
  case hr => kernel_rfl
  case hQ => exact (fun _ _ _ h => h)
  case hS => assumption
  case hy => (refine Or.inl ⟨by rfl, ?_⟩; intro w hSw; (try dsimp only at hSw); go_simp; try with_reducible rfl)
  try simp only [Act.put, List.setIfInBounds_toArray, List.set_cons_zero, List.set_cons_succ]
  apply wpAnyH_take (i := 4)
  case hi => exact (List.getElem?_toArray (xs := _)).trans rfl
  case hs => kernel_rfl
  case hf => kernel_rfl
  case hr => kernel_rfl
  case hQ => exact (fun _ _ _ h => h)
  case hS => assumption
  case hy => (refine Or.inl ⟨by rfl, ?_⟩; intro w hSw; (try dsimp only at hSw); go_simp; try with_reducible rfl)
  try simp only [Act.put, List.setIfInBounds_toArray, List.set_cons_zero, List.set_cons_succ]
  apply wpAnyH_take (i := 5)
  case hi => exact (List.getElem?_toArray (xs := _)).trans rfl
  case hs => kernel_rfl
  case hf => kernel_rfl
  case hr => kernel_rfl
  case hQ => exact (fun _ _ _ h => h)
  case hS => assumption
  case hy => (refine Or.inl ⟨by rfl, ?_⟩; intro w hSw; (try dsimp only at hSw); go_simp; try with_reducible rfl)
  try simp only [Act.put, List.setIfInBounds_toArray, List.set_cons_zero, List.set_cons_succ]
  apply wpAnyH_take (i := 6)
  case hi => exact (List.getElem?_toArray (xs := _)).trans rfl
  case hs => kernel_rfl
  case hf => kernel_rfl
  case hr => kernel_rfl
  case hQ => exact (fun _ _ _ h => h)
  case hS => assumption
  case hy => (refine Or.inl ⟨by rfl, ?_⟩; intro w hSw; (try dsimp only at hSw); go_simp; try with_reducible rfl)
  try simp only [Act.put, List.setIfInBounds_toArray, List.set_cons_zero, List.set_cons_succ]
  apply wpAnyH_take (i := 7)
  case hi => exact (List.getElem?_toArray (xs := _)).trans rfl
  case hs => kernel_rfl
  case hf => kernel_rfl
  case hr => kernel_rfl
  case hQ => exact (fun _ _ _ h => h)
  case hS => assumption
  case hy => (refine Or.inl ⟨by rfl, ?_⟩; intro w hSw; (try dsimp only at hSw); go_simp; try with_reducible rfl)
  try simp only [Act.put, List.setIfInBounds_toArray, List.set_cons_zero, List.set_cons_succ]
  apply wpAnyH_take (i := 8)
  case hi => exact (List.getElem?_toArray (xs := _)).trans rfl
  case hs => kernel_rfl
  case hf => kernel_rfl
  case hr => kernel_rfl
  case hQ => exact (fun _ _ _ h => h)
  case hS => assumption
  case hy => (refine Or.inl ⟨by rfl, ?_⟩; intro w hSw; (try dsimp only at hSw); go_simp; try with_reducible rfl)
  try simp only [Act.put, List.setIfInBounds_toArray, List.set_cons_zero, List.set_cons_succ]
  apply wpAnyH_take (i := 9)
  case hi => exact (List.getElem?_toArray (xs := _)).trans rfl
  case hs => kernel_rfl
  case hf => kernel_rfl
  case hr => kernel_rfl
  case hQ => exact (fun _ _ _ h => h)
  case hS => assumption
  case hy => (refine Or.inl ⟨by rfl, ?_⟩; intro w hSw; (try dsimp only at hSw); go_simp; try with_reducible rfl)
  try simp only [Act.put, List.setIfInBounds_toArray, List.set_cons_zero, List.set_cons_succ]
  refine wpAnyH_ready (rs := [10]) (by kernel_rfl) (by simp) ?_
  refine AllReadyH.cons rfl (fun K hK => ?_) AllReadyH.nil
  go_simp
  (((with_reducible refine (known_any _ (TK.out _ KB)).mono ?_); rintro e wk ⟨rfl, hbk⟩; have KB := KB.trans (hbk.mono KB.size); clear hbk))
  refine hK.out _ _ (SKK.out _ KB) (fun hHeld => ?_)
  clear hK K
  try simp only [Act.put, List.setIfInBounds_toArray, List.set_cons_zero, List.set_cons_succ]
  apply wpAnyH_take (i := 11)
  case hi => exact (List.getElem?_toArray (xs := _)).trans rfl
  case hs => kernel_rfl
  case hf => kernel_rfl
  case hr => kernel_rfl
  case hQ => exact (fun _ _ _ h => h)
  case hS => assumption
  case hy => (refine Or.inl ⟨by rfl, ?_⟩; intro w hSw; (try dsimp only at hSw); go_simp; try with_reducible rfl)
  try simp only [Act.put, List.setIfInBounds_toArray, List.set_cons_zero, List.set_cons_succ]
  apply wpAnyH_take (i := 12)
  case hi => exact (List.getElem?_toArray (xs := _)).trans rfl
  case hs => kernel_rfl
  case hf => kernel_rfl
  case hr => kernel_rfl
  case hQ => exact (fun _ _ _ h => h)
  case hS => assumption
  case hy => (refine Or.inl ⟨by rfl, ?_⟩; intro w hSw; (try dsimp only at hSw); go_simp; try with_reducible rfl)
  try simp only [Act.put, List.setIfInBounds_toArray, List.set_cons_zero, List.set_cons_succ]
  refine wpAnyH_done (by kernel_rfl) ?_ _
  go_wp2_with fail
  go_ret
  exact ⟨rfl, below_nx D4.out (Nat.le_refl _) KB⟩
theorem walk_fieldRoots {w : World} (tab : Tab w) (x : E5) (hx : x.ok) (y : E5) (hy : y.ok) :
    Calls Tryd.prog 9 #[.agg x.v, .agg y.v] w fun e w' => e = .returned (.bool true) ∧ Below w.heap.size w w' := by
  obtain ⟨o, ho⟩ : ∃ o, rr (x.val % pp) (y.val % pp) = o := ⟨_, rfl⟩
  have hrt : rt x.val y.val = o := by rw [rt_mods, rt_eq _ _ (mod_lt _) (mod_lt _), ho]
  refine roots_walk tab x y (el (o.getD 0)) hx hy o (o.getD 0) o.isSome ho ⟨rfl, rfl⟩ rfl ?_
  intro u ht
  have := Root_any x y u hx hy ht
  rw [hrt] at this
  refine this.mono fun e w' h => ⟨?_, h.2⟩
  have h1 := h.1
  cases o with
  | none => exact h1
  | some r => exact h1
end Go.Proofs.YteechlkccmcpfaaDoor.Fd
