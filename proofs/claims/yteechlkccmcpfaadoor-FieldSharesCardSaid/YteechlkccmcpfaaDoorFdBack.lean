/-
  Two rows of bytes held against each other by the document's helper; bytes of elements go there and back: the walk of the law.
-/
import Derived.Test.YteechlkccmcpfaaDoorFdOpen
import Derived.Deep.RegionWith
import Derived.Deep.RegionHeld3
import Derived.Laws.BytesArg
namespace Go.Proofs.YteechlkccmcpfaaDoor.Fd
open Go.RowKit Go.Proofs.YteechlkccmcpfaaDoor.Gn Go.Deep
set_option linter.unusedVariables false

/-- Two rows of bytes are compared by their texts. -/
theorem samebytes_any (A B : Option Addr) (n m c d : Nat) (l k : List Nat) (w : World) (hl : ∀ x ∈ l, x < 256) (hk : ∀ x ∈ k, x < 256) (h1 : Sl w A n (bl l)) (h2 : Sl w B m (bl k)) :
    Calls Tryd.prog 16 #[.slice A n c, .slice B m d] w fun e w' => e = .returned (.bool (l == k)) ∧ w = w' := by
  have r1 := run_txt (P := Tryd.prog) w 25 9 5 Tryd.underlying25 Tryd.underlying5 Tryd.underlying9 A n c l h1
  have r2 := run_txt (P := Tryd.prog) w 25 9 5 Tryd.underlying25 Tryd.underlying5 Tryd.underlying9 B m d k h2
  have HE := Lib.hid (fun h => txt_inj (l := l) (k := k) hl hk h)
  clear h1 h2 hl hk
  obtain ⟨s, hs⟩ : ∃ s, s = txt l := ⟨_, rfl⟩
  obtain ⟨t, ht⟩ : ∃ t, t = txt k := ⟨_, rfl⟩
  rw [← hs] at r1
  rw [← ht] at r2
  have HS := Lib.hid hs
  have HT := Lib.hid ht
  clear hs ht
  go_enter Tryd.func16, Tryd.ntmps16
  go_wp2
  go_ret
  refine ⟨ret_bool ?_, rfl⟩
  rw [HS.out, HT.out, ByteArray.toList_eq, ByteArray.toList_eq, Bool.eq_iff_iff, beq_iff_eq, beq_iff_eq]
  constructor
  · intro h
    exact HE.out (Go.WideShapes.bytes_inj h)
  · intro h; rw [h]
/-- New bytes, 32 of them. -/
def RetS (l : List Nat) (w : World) (e : Ending) (w' : World) : Prop := ∃ g, e = .returned (.slice (some ⟨g, 0, none⟩) 32 32) ∧ Sl w' (some ⟨g, 0, none⟩) 32 (bl l) ∧ Below w.heap.size w w'
theorem RetB.s {l : List Nat} {w w' : World} {e : Ending} (h : RetB l w e w') (hl : l.length = 32) : RetS l w e w' := by
  obtain ⟨g, h1, h2, h3, h4⟩ := h
  rw [hl] at h1
  exact ⟨g, h1, Sl.of_bl h3 0 32 _ (by simp [bl, hl]) (fun k v hv => by rw [Nat.zero_add]; simpa using hv), h4⟩
set_option maxRecDepth 100000 in
set_option maxHeartbeats 16000000 in
theorem back_walk {w : World} (tab : Tab w) (x rx y : E5) (A : Option Addr) (n c : Nat) (l L : List Nat) (k : Int) (hk : k = 0 ∨ k = 1 ∨ k = 30) (hlp : ∀ u ∈ l, u < 256) (hsl : Sl w A n (bl l))
    (EN : ∀ w, Calls Tryd.prog 14 #[(.agg #[.int .u64 (x.a : Int), .int .u64 (x.b : Int), .int .u64 (x.c : Int), .int .u64 (x.d : Int), .int .u64 (x.e : Int)])] w (RetS L w))
    (DE : ∀ g w, Sl w (some ⟨g, 0, none⟩) 32 (bl L) → Calls Tryd.prog 13 #[.slice (some ⟨g, 0, none⟩) 32 32] w fun e w' => e = .returned (.tuple #[(.agg #[.int .u64 (rx.a : Int), .int .u64 (rx.b : Int), .int .u64 (rx.c : Int), .int .u64 (rx.d : Int), .int .u64 (rx.e : Int)]), .int .i64 0]) ∧ Below w.heap.size w w')
    (RX : ∀ w, Calls Tryd.prog 15 #[(.agg #[.int .u64 (x.a : Int), .int .u64 (x.b : Int), .int .u64 (x.c : Int), .int .u64 (x.d : Int), .int .u64 (x.e : Int)])] w fun e w' => e = .returned (.agg #[.int .u64 (rx.a : Int), .int .u64 (rx.b : Int), .int .u64 (rx.c : Int), .int .u64 (rx.d : Int), .int .u64 (rx.e : Int)]) ∧ Below w.heap.size w w')
    (DB : ∀ w, Sl w A n (bl l) → Calls Tryd.prog 13 #[.slice A n c] w fun e w' => e = .returned (.tuple #[(.agg #[.int .u64 (y.a : Int), .int .u64 (y.b : Int), .int .u64 (y.c : Int), .int .u64 (y.d : Int), .int .u64 (y.e : Int)]), .int .i64 k]) ∧ Below w.heap.size w w')
    (EY : k = 0 → ∀ w, Calls Tryd.prog 14 #[(.agg #[.int .u64 (y.a : Int), .int .u64 (y.b : Int), .int .u64 (y.c : Int), .int .u64 (y.d : Int), .int .u64 (y.e : Int)])] w (RetS l w))
    (RY : k = 0 → ∀ w, Calls Tryd.prog 15 #[(.agg #[.int .u64 (y.a : Int), .int .u64 (y.b : Int), .int .u64 (y.c : Int), .int .u64 (y.d : Int), .int .u64 (y.e : Int)])] w fun e w' => e = .returned (.agg #[.int .u64 (y.a : Int), .int .u64 (y.b : Int), .int .u64 (y.c : Int), .int .u64 (y.d : Int), .int .u64 (y.e : Int)]) ∧ Below w.heap.size w w') :
    Calls Tryd.prog 3 #[.agg x.v, .slice A n c] w fun e w' => e = .returned (.bool true) ∧ Below w.heap.size w w' := by
  have TAB := Lib.hid tab
  have HLP := Lib.hid hlp
  have HSL := Lib.hid hsl
  replace EN := Lib.hid EN
  replace DE := Lib.hid DE
  replace RX := Lib.hid RX
  replace DB := Lib.hid DB
  replace EY := Lib.hid EY
  replace RY := Lib.hid RY
  have G1 := guard5
  have G2 : ∀ w, (Op.equalIn 10000 24 (.agg #[.int .u64 (rx.a : Int), .int .u64 (rx.b : Int), .int .u64 (rx.c : Int), .int .u64 (rx.d : Int), .int .u64 (rx.e : Int)]) (.agg #[.int .u64 (rx.a : Int), .int .u64 (rx.b : Int), .int .u64 (rx.c : Int), .int .u64 (rx.d : Int), .int .u64 (rx.e : Int)])).run Tryd.prog w = .ok true w := fun w => by
    have := equal5 rx rx w
    rw [decide_eq_true rfl] at this
    exact this
  have G3 : ∀ w, (Op.equalIn 10000 24 (.agg #[.int .u64 (y.a : Int), .int .u64 (y.b : Int), .int .u64 (y.c : Int), .int .u64 (y.d : Int), .int .u64 (y.e : Int)]) (.agg #[.int .u64 (y.a : Int), .int .u64 (y.b : Int), .int .u64 (y.c : Int), .int .u64 (y.d : Int), .int .u64 (y.e : Int)])).run Tryd.prog w = .ok true w := fun w => by
    have := equal5 y y w
    rw [decide_eq_true rfl] at this
    exact this
  obtain ⟨a0, a1, a2, a3, a4⟩ := c5_box w x
  have HX := Lib.hid (Bl.new_ w 24 x.v)
  have HB := Lib.hid ((Below.refl w.heap.size w).alloc (Nat.le_refl _) (.cells x.v 24))
  clear tab hlp hsl
  go_enter Tryd.func3, Tryd.ntmps3
  go_wp2_with fail
  refine (EN.out _).mono ?_
  rintro e w1 ⟨g1, rfl, hs1, hb1⟩
  have D1 := Lib.hid (below_nx HB.out (Nat.le_refl _) hb1)
  have HX1 := Lib.hid (HX.out.below' hb1)
  have HS1 := Lib.hid hs1
  clear hb1 hs1 a0 a1 a2 a3 a4 HB HX EN
  go_wp2_with fail
  refine (DE.out _ _ HS1.out).mono ?_
  rintro e w2 ⟨rfl, hb2⟩
  have D2 := Lib.hid ((below_nx D1.out (Nat.le_refl _) hb2).alloc (below_nx D1.out (Nat.le_refl _) hb2).size (.cells rx.v 24))
  have HX2 := Lib.hid ((HX1.out.below' hb2).alloc (.cells rx.v 24))
  have HR2 := Lib.hid (Bl.new_ w2 24 rx.v)
  obtain ⟨gr, hgr⟩ : ∃ g, w2.heap.size = g := ⟨_, rfl⟩
  clear hb2 D1 HX1 HS1 DE
  go_wp2_with fail
  refine (DB.out _ (HSL.out.below D2.out)).mono ?_
  rintro e w3 ⟨rfl, hb3⟩
  have D3 := Lib.hid ((below_nx D2.out (Nat.le_refl _) hb3).alloc (below_nx D2.out (Nat.le_refl _) hb3).size (.cells y.v 24))
  have HX3 := Lib.hid ((HX2.out.below' hb3).alloc (.cells y.v 24))
  have HR3 := Lib.hid ((HR2.out.below' hb3).alloc (.cells y.v 24))
  have HY3 := Lib.hid (Bl.new_ w3 24 y.v)
  clear hb3 D2 HX2 HR2 DB
  go_upto_region 3 with fail
  change Code.wp _ _ _ _ (w3.alloc (.cells y.v 24))
  obtain ⟨gy, hgy⟩ : ∃ g, w3.heap.size = g := ⟨_, rfl⟩
  simp only [hgy] at HY3 ⊢
  try simp only [hgr] at HR3 ⊢
  generalize w3.alloc (.cells y.v 24) = W3 at *
  clear hgy hgr
  have SK := Lib.hid (show ∀ u : World, Below W3.heap.size W3 u → C5 u w.heap.size x ∧ C5 u gr rx ∧ C5 u gy y from fun u h => ⟨c5_of (Bl.below' HX3.out h), c5_of (Bl.below' HR3.out h), c5_of (Bl.below' HY3.out h)⟩)
  have LK := Lib.hid (show ∀ u : World, Below W3.heap.size W3 u → Sl u A n (bl l) from fun u h => HSL.out.below (below_nx D3.out (Nat.le_refl _) h))
  have TK := Lib.hid (show ∀ u : World, Below W3.heap.size W3 u → Tab u from fun u h => TAB.out.below (below_nx D3.out (Nat.le_refl _) h))
  go_cut [4] (fun s wx => s = .bool true ∧ Below W3.heap.size W3 wx)
  case first =>
    rcases hk with rfl | hk
    · replace EY := Lib.hid (EY.out rfl)
      replace RY := Lib.hid (RY.out rfl)
      go_region_held3 (fun u => C5 u w.heap.size x ∧ C5 u gr rx ∧ C5 u gy y)
        (first | (refine SK.out _ ?_; first | (with_reducible exact Below.refl _ _) | (with_reducible exact (Below.refl _ _).drew) | (with_reducible exact KK)))
        (first
          | (go_at_call 14; (with_reducible refine (EY.out _).mono ?_); rintro e wk ⟨g4, rfl, hs4, hbk⟩; have KK := KK.trans (hbk.mono KK.size); have HS4 := Lib.hid hs4; clear hs4)
          | (go_at_call 16; (with_reducible refine (samebytes_any _ _ _ _ _ _ l l _ HLP.out HLP.out HS4.out (LK.out _ KK)).mono ?_); rintro e wk ⟨rfl, rfl⟩; rw [beq_self_eq_true])
          | (((first | (go_at_call 15; (first | (with_reducible refine (RX.out _).mono ?_) | (with_reducible refine (RY.out _).mono ?_))) | (go_at_call 17; refine (known_any _ (TK.out _ KK)).mono ?_)); rintro e wk ⟨rfl, hbk⟩; first | (with_reducible (have KK := KK.trans (hbk.mono KK.size))) | (with_reducible (have KK := k_drew hbk)))))
      all_goals go_wp2_with fail
      all_goals go_meet
      all_goals exact ⟨rfl, KK⟩
    · clear EY RY
      rcases hk with rfl | rfl
      all_goals
        refine wp_region_held_drew (S := (fun u => C5 u w.heap.size x ∧ C5 u gr rx ∧ C5 u gy y)) (by kernel_rfl) (SK.out _ ((Below.refl _ _).drew)) (fun hHeld => ?_)
        apply wpAnyH_take (i := 0)
        case hi => exact (List.getElem?_toArray (xs := _)).trans rfl
        case hs => kernel_rfl
        case hf => kernel_rfl
        case hr => kernel_rfl
        case hQ => exact (fun _ _ _ h => h)
        case hS => assumption
        case hy => (refine Or.inl ⟨by rfl, ?_⟩; intro w hSw; (try dsimp only at hSw); go_simp; try with_reducible rfl)
        try simp only [Act.put, List.setIfInBounds_toArray, List.set_cons_zero, List.set_cons_succ]
        apply wpAnyH_take (i := 1)
        case hi => exact (List.getElem?_toArray (xs := _)).trans rfl
        case hs => kernel_rfl
        case hf => kernel_rfl
        case hr => kernel_rfl
        case hQ => exact (fun _ _ _ h => h)
        case hS => assumption
        case hy => (refine Or.inl ⟨by rfl, ?_⟩; intro w hSw; (try dsimp only at hSw); go_simp; try with_reducible rfl)
        try simp only [Act.put, List.setIfInBounds_toArray, List.set_cons_zero, List.set_cons_succ]
        apply wpAnyH_take (i := 2)
        case hi => exact (List.getElem?_toArray (xs := _)).trans rfl
        case hs => kernel_rfl
        case hf => kernel_rfl
        case hr => kernel_rfl
        case hQ => exact (fun _ _ _ h => h)
        case hS => assumption
        case hy => (refine Or.inl ⟨by rfl, ?_⟩; intro w hSw; (try dsimp only at hSw); go_simp; try with_reducible rfl)
        try simp only [Act.put, List.setIfInBounds_toArray, List.set_cons_zero, List.set_cons_succ]
        apply wpAnyH_take (i := 3)
        case hi => exact (List.getElem?_toArray (xs := _)).trans rfl
        case hs => kernel_rfl
        case hf => kernel_rfl
        case hr => kernel_rfl
        case hQ => exact (fun _ _ _ h => h)
        case hS => assumption
        case hy => (refine Or.inl ⟨by rfl, ?_⟩; intro w hSw; (try dsimp only at hSw); go_simp; try with_reducible rfl)
        try simp only [Act.put, List.setIfInBounds_toArray, List.set_cons_zero, List.set_cons_succ]
        apply wpAnyH_take (i := 4)
        case hi => exact (List.getElem?_toArray (xs := _)).trans rfl
        case hs => kernel_rfl
        case hf => kernel_rfl
        case hr => kernel_rfl
        case hQ => exact (fun _ _ _ h => h)
        case hS => assumption
        case hy => (refine Or.inl ⟨by rfl, ?_⟩; intro w hSw; (try dsimp only at hSw); go_simp; try with_reducible rfl)
        try simp only [Act.put, List.setIfInBounds_toArray, List.set_cons_zero, List.set_cons_succ]
        refine wpAnyH_ready (rs := [5]) (by kernel_rfl) (by simp) ?_
        refine AllReadyH.cons rfl (fun K hK => ?_) AllReadyH.nil
        go_simp
        (((with_reducible refine (RX.out _).mono ?_); rintro e wk ⟨rfl, hbk⟩; first | (with_reducible (have KK := KK.trans (hbk.mono KK.size))) | (with_reducible (have KK := k_drew hbk))))
        refine hK.out _ _ (SK.out _ KK) (fun hHeld => ?_)
        clear hK K
        try simp only [Act.put, List.setIfInBounds_toArray, List.set_cons_zero, List.set_cons_succ]
        apply wpAnyH_take (i := 6)
        case hi => exact (List.getElem?_toArray (xs := _)).trans rfl
        case hs => kernel_rfl
        case hf => kernel_rfl
        case hr => kernel_rfl
        case hQ => exact (fun _ _ _ h => h)
        case hS => assumption
        case hy => (refine Or.inl ⟨by rfl, ?_⟩; intro w hSw; (try dsimp only at hSw); go_simp; try with_reducible rfl)
        try simp only [Act.put, List.setIfInBounds_toArray, List.set_cons_zero, List.set_cons_succ]
        apply wpAnyH_take (i := 7)
        case hi => exact (List.getElem?_toArray (xs := _)).trans rfl
        case hs => kernel_rfl
        case hf => kernel_rfl
        case hr => kernel_rfl
        case hQ => exact (fun _ _ _ h => h)
        case hS => assumption
        case hy => (refine Or.inl ⟨by rfl, ?_⟩; intro w hSw; (try dsimp only at hSw); go_simp; try with_reducible rfl)
        try simp only [Act.put, List.setIfInBounds_toArray, List.set_cons_zero, List.set_cons_succ]
        apply wpAnyH_take (i := 8)
        case hi => exact (List.getElem?_toArray (xs := _)).trans rfl
        case hs => kernel_rfl
        case hf => kernel_rfl
        case hr => kernel_rfl
        case hQ => exact (fun _ _ _ h => h)
        case hS => assumption
        case hy => (refine Or.inl ⟨by rfl, ?_⟩; intro w hSw; (try dsimp only at hSw); go_simp; try with_reducible rfl)
        try simp only [Act.put, List.setIfInBounds_toArray, List.set_cons_zero, List.set_cons_succ]
        apply wpAnyH_take (i := 9)
        case hi => exact (List.getElem?_toArray (xs := _)).trans rfl
        case hs => kernel_rfl
        case hf => kernel_rfl
        case hr => kernel_rfl
        case hQ => exact (fun _ _ _ h => h)
        case hS => assumption
        case hy => (refine Or.inl ⟨by rfl, ?_⟩; intro w hSw; (try dsimp only at hSw); go_simp; try with_reducible rfl)
        try simp only [Act.put, List.setIfInBounds_toArray, List.set_cons_zero, List.set_cons_succ]
        apply wpAnyH_take (i := 10)
        case hi => exact (List.getElem?_toArray (xs := _)).trans rfl
        case hs => kernel_rfl
        case hf => kernel_rfl
        case hr => kernel_rfl
        case hQ => exact (fun _ _ _ h => h)
        case hS => assumption
        case hy => (refine Or.inl ⟨by rfl, ?_⟩; intro w hSw; (try dsimp only at hSw); go_simp; try with_reducible rfl)
        try simp only [Act.put, List.setIfInBounds_toArray, List.set_cons_zero, List.set_cons_succ]
        apply wpAnyH_take (i := 11)
        case hi => exact (List.getElem?_toArray (xs := _)).trans rfl
        case hs => kernel_rfl
        case hf => kernel_rfl
        case hr => kernel_rfl
        case hQ => exact (fun _ _ _ h => h)
        case hS => assumption
        case hy => (refine Or.inl ⟨by rfl, ?_⟩; intro w hSw; (try dsimp only at hSw); go_simp; try with_reducible rfl)
        try simp only [Act.put, List.setIfInBounds_toArray, List.set_cons_zero, List.set_cons_succ]
        apply wpAnyH_take (i := 12)
        case hi => exact (List.getElem?_toArray (xs := _)).trans rfl
        case hs => kernel_rfl
        case hf => kernel_rfl
        case hr => kernel_rfl
        case hQ => exact (fun _ _ _ h => h)
        case hS => assumption
        case hy => exact Or.inr ⟨by rfl, rfl⟩
        try simp only [Act.put, List.setIfInBounds_toArray, List.set_cons_zero, List.set_cons_succ]
        apply wpAnyH_take (i := 13)
        case hi => exact (List.getElem?_toArray (xs := _)).trans rfl
        case hs => kernel_rfl
        case hf => kernel_rfl
        case hr => kernel_rfl
        case hQ => exact (fun _ _ _ h => h)
        case hS => assumption
        case hy => exact Or.inr ⟨by rfl, rfl⟩
        try simp only [Act.put, List.setIfInBounds_toArray, List.set_cons_zero, List.set_cons_succ]
        apply wpAnyH_take (i := 14)
        case hi => exact (List.getElem?_toArray (xs := _)).trans rfl
        case hs => kernel_rfl
        case hf => kernel_rfl
        case hr => kernel_rfl
        case hQ => exact (fun _ _ _ h => h)
        case hS => assumption
        case hy => exact Or.inr ⟨by rfl, rfl⟩
        try simp only [Act.put, List.setIfInBounds_toArray, List.set_cons_zero, List.set_cons_succ]
        apply wpAnyH_take (i := 15)
        case hi => exact (List.getElem?_toArray (xs := _)).trans rfl
        case hs => kernel_rfl
        case hf => kernel_rfl
        case hr => kernel_rfl
        case hQ => exact (fun _ _ _ h => h)
        case hS => assumption
        case hy => exact Or.inr ⟨by rfl, rfl⟩
        try simp only [Act.put, List.setIfInBounds_toArray, List.set_cons_zero, List.set_cons_succ]
        apply wpAnyH_take (i := 16)
        case hi => exact (List.getElem?_toArray (xs := _)).trans rfl
        case hs => kernel_rfl
        case hf => kernel_rfl
        case hr => kernel_rfl
        case hQ => exact (fun _ _ _ h => h)
        case hS => assumption
        case hy => exact Or.inr ⟨by rfl, rfl⟩
        try simp only [Act.put, List.setIfInBounds_toArray, List.set_cons_zero, List.set_cons_succ]
        apply wpAnyH_take (i := 17)
        case hi => exact (List.getElem?_toArray (xs := _)).trans rfl
        case hs => kernel_rfl
        case hf => kernel_rfl
        case hr => kernel_rfl
        case hQ => exact (fun _ _ _ h => h)
        case hS => assumption
        case hy => exact Or.inr ⟨by rfl, rfl⟩
        try simp only [Act.put, List.setIfInBounds_toArray, List.set_cons_zero, List.set_cons_succ]
        apply wpAnyH_take (i := 18)
        case hi => exact (List.getElem?_toArray (xs := _)).trans rfl
        case hs => kernel_rfl
        case hf => kernel_rfl
        case hr => kernel_rfl
        case hQ => exact (fun _ _ _ h => h)
        case hS => assumption
        case hy => exact Or.inr ⟨by rfl, rfl⟩
        try simp only [Act.put, List.setIfInBounds_toArray, List.set_cons_zero, List.set_cons_succ]
        apply wpAnyH_take (i := 19)
        case hi => exact (List.getElem?_toArray (xs := _)).trans rfl
        case hs => kernel_rfl
        case hf => kernel_rfl
        case hr => kernel_rfl
        case hQ => exact (fun _ _ _ h => h)
        case hS => assumption
        case hy => exact Or.inr ⟨by rfl, rfl⟩
        try simp only [Act.put, List.setIfInBounds_toArray, List.set_cons_zero, List.set_cons_succ]
        apply wpAnyH_take (i := 20)
        case hi => exact (List.getElem?_toArray (xs := _)).trans rfl
        case hs => kernel_rfl
        case hf => kernel_rfl
        case hr => kernel_rfl
        case hQ => exact (fun _ _ _ h => h)
        case hS => assumption
        case hy => exact Or.inr ⟨by rfl, rfl⟩
        try simp only [Act.put, List.setIfInBounds_toArray, List.set_cons_zero, List.set_cons_succ]
        apply wpAnyH_take (i := 21)
        case hi => exact (List.getElem?_toArray (xs := _)).trans rfl
        case hs => kernel_rfl
        case hf => kernel_rfl
        case hr => kernel_rfl
        case hQ => exact (fun _ _ _ h => h)
        case hS => assumption
        case hy => exact Or.inr ⟨by rfl, rfl⟩
        try simp only [Act.put, List.setIfInBounds_toArray, List.set_cons_zero, List.set_cons_succ]
        apply wpAnyH_take (i := 22)
        case hi => exact (List.getElem?_toArray (xs := _)).trans rfl
        case hs => kernel_rfl
        case hf => kernel_rfl
        case hr => kernel_rfl
        case hQ => exact (fun _ _ _ h => h)
        case hS => assumption
        case hy => (refine Or.inl ⟨by rfl, ?_⟩; intro w hSw; (try dsimp only at hSw); go_simp; try with_reducible rfl)
        try simp only [Act.put, List.setIfInBounds_toArray, List.set_cons_zero, List.set_cons_succ]
        apply wpAnyH_take (i := 23)
        case hi => exact (List.getElem?_toArray (xs := _)).trans rfl
        case hs => kernel_rfl
        case hf => kernel_rfl
        case hr => kernel_rfl
        case hQ => exact (fun _ _ _ h => h)
        case hS => assumption
        case hy => (refine Or.inl ⟨by rfl, ?_⟩; intro w hSw; (try dsimp only at hSw); go_simp; try with_reducible rfl)
        try simp only [Act.put, List.setIfInBounds_toArray, List.set_cons_zero, List.set_cons_succ]
        apply wpAnyH_take (i := 24)
        case hi => exact (List.getElem?_toArray (xs := _)).trans rfl
        case hs => kernel_rfl
        case hf => kernel_rfl
        case hr => kernel_rfl
        case hQ => exact (fun _ _ _ h => h)
        case hS => assumption
        case hy => (refine Or.inl ⟨by rfl, ?_⟩; intro w hSw; (try dsimp only at hSw); go_simp; try with_reducible rfl)
        try simp only [Act.put, List.setIfInBounds_toArray, List.set_cons_zero, List.set_cons_succ]
        refine wpAnyH_ready (rs := [25]) (by kernel_rfl) (by simp) ?_
        refine AllReadyH.cons rfl (fun K hK => ?_) AllReadyH.nil
        go_simp
        (((with_reducible refine (known_any _ (TK.out _ KK)).mono ?_); rintro e wk ⟨rfl, hbk⟩; first | (with_reducible (have KK := KK.trans (hbk.mono KK.size))) | (with_reducible (have KK := k_drew hbk))))
        refine hK.out _ _ (SK.out _ KK) (fun hHeld => ?_)
        clear hK K
        try simp only [Act.put, List.setIfInBounds_toArray, List.set_cons_zero, List.set_cons_succ]
        apply wpAnyH_take (i := 26)
        case hi => exact (List.getElem?_toArray (xs := _)).trans rfl
        case hs => kernel_rfl
        case hf => kernel_rfl
        case hr => kernel_rfl
        case hQ => exact (fun _ _ _ h => h)
        case hS => assumption
        case hy => (refine Or.inl ⟨by rfl, ?_⟩; intro w hSw; (try dsimp only at hSw); go_simp; try with_reducible rfl)
        try simp only [Act.put, List.setIfInBounds_toArray, List.set_cons_zero, List.set_cons_succ]
        apply wpAnyH_take (i := 27)
        case hi => exact (List.getElem?_toArray (xs := _)).trans rfl
        case hs => kernel_rfl
        case hf => kernel_rfl
        case hr => kernel_rfl
        case hQ => exact (fun _ _ _ h => h)
        case hS => assumption
        case hy => (refine Or.inl ⟨by rfl, ?_⟩; intro w hSw; (try dsimp only at hSw); go_simp; try with_reducible rfl)
        try simp only [Act.put, List.setIfInBounds_toArray, List.set_cons_zero, List.set_cons_succ]
        refine wpAnyH_done (by kernel_rfl) ?_ _
      all_goals go_wp2_with fail
      all_goals go_meet
      all_goals exact ⟨rfl, KK⟩
  case rest =>
    obtain ⟨rfl, hbw⟩ := hcut
    have D4 := Lib.hid (below_nx D3.out (Nat.le_refl _) hbw)
    go_wp2_with fail
    go_ret
    exact ⟨rfl, D4.out⟩
theorem walk_fieldBack {w : World} (tab : Tab w) (x : E5) (hx : x.ok) (A : Option Addr) (n c : Nat) (l : List Nat) (hb : BL w A n c l) : Calls Tryd.prog 3 #[.agg x.v, .slice A n c] w fun e w' => e = .returned (.bool true) ∧ Below w.heap.size w w' := by
  have hlL := by_lt (x.val % pp) 32
  have ok := el_ok (mod_lt x.val)
  have e1 : le (by_ (x.val % pp) 32) = x.val % pp := by
    rw [le_by]
    refine Nat.mod_eq_of_lt (Nat.lt_trans (mod_lt x.val) ?_)
    rw [pp_eq]; decide
  have EN := fun w => (Encode_any x w hx).mono fun e w' h => RetB.s h (by_length _ _)
  have DE : ∀ g w, Sl w (some ⟨g, 0, none⟩) 32 (bl (by_ (x.val % pp) 32)) → Calls Tryd.prog 13 #[.slice (some ⟨g, 0, none⟩) 32 32] w fun e w' => e = .returned (.tuple #[.agg (el (x.val % pp)).v, .int .i64 0]) ∧ Below w.heap.size w w' := by
    intro g w hs
    have := decode_any (some ⟨g, 0, none⟩) 32 _ w hlL hs
    rw [e1] at this
    unfold DecP at this
    simp only [if_pos (mod_lt x.val)] at this
    exact this
  by_cases hn : n = 32
  · subst hn
    have hl32 : l.length = 32 := by simpa [bl] using hb.1.1
    have DB := fun w' h => decode_any A c l w' hb.2.2.1 h
    by_cases hp : le l < pp
    · unfold DecP at DB
      simp only [if_pos hp] at DB
      have yok := el_ok hp
      have EY : ∀ w, Calls Tryd.prog 14 #[.agg (el (le l)).v] w (RetS l w) := fun w => (Encode_any (el (le l)) w yok).mono fun e w' h => by
        rw [el_val, Nat.mod_eq_of_lt hp, show by_ (le l) 32 = l by rw [← hl32]; exact by_le l hb.2.2.1] at h
        exact RetB.s h hl32
      have RY : ∀ w, Calls Tryd.prog 15 #[.agg (el (le l)).v] w fun e w' => e = .returned (.agg (el (le l)).v) ∧ Below w.heap.size w w' := fun w => by
        have := Reduce_any (el (le l)) w yok
        rwa [el_val, Nat.mod_eq_of_lt hp] at this
      exact back_walk tab x (el (x.val % pp)) (el (le l)) A 32 c l _ 0 (.inl rfl) hb.2.2.1 hb.1 EN DE (fun w => Reduce_any x w hx) DB (fun _ => EY) (fun _ => RY)
    · unfold DecP at DB
      simp only [if_neg hp] at DB
      exact back_walk tab x (el (x.val % pp)) ⟨0, 0, 0, 0, 0⟩ A 32 c l _ 30 (.inr (.inr rfl)) hb.2.2.1 hb.1 EN DE (fun w => Reduce_any x w hx) DB (fun h => absurd h (by decide)) (fun h => absurd h (by decide))
  · exact back_walk tab x (el (x.val % pp)) ⟨0, 0, 0, 0, 0⟩ A n c l _ 1 (.inr (.inl rfl)) hb.2.2.1 hb.1 EN DE (fun w => Reduce_any x w hx) (fun w' _ => decode_len A n c w' hn) (fun h => absurd h (by decide)) (fun h => absurd h (by decide))
end Go.Proofs.YteechlkccmcpfaaDoor.Fd
