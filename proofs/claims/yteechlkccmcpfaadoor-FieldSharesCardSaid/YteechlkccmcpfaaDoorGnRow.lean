/-
  Whole arrays and structs out of blocks that are known whole, and into them.
-/
import Derived.Test.YteechlkccmcpfaaDoorGnSl
import Derived.Deep.MidRow
import Derived.Laws.CopyOwn
namespace Go.Proofs.YteechlkccmcpfaaDoor.Gn
open Go.RowKit Go.Deep
set_option linter.unusedVariables false

/-- Cells laid over others from a place on. -/
def spl (cs : Array Value) (o : Nat) : List Value → Array Value
  | [] => cs
  | v :: r => spl (cs.setIfInBounds o v) (o + 1) r
theorem spl_size (vs : List Value) : ∀ (cs : Array Value) (o : Nat), (spl cs o vs).size = cs.size := by
  induction vs with
  | nil => intro cs o; rfl
  | cons v r ih => intro cs o; rw [spl, ih]; simp
theorem spl_get (vs : List Value) : ∀ (cs : Array Value) (o j : Nat), o + vs.length ≤ cs.size → (spl cs o vs)[j]? = if o ≤ j ∧ j < o + vs.length then vs[j - o]? else cs[j]? := by
  induction vs with
  | nil =>
    intro cs o j _
    rw [spl, if_neg]
    simp only [List.length_nil]
    omega
  | cons v r ih =>
    intro cs o j h
    simp only [List.length_cons] at h ⊢
    rw [spl, ih _ _ _ (by simp; omega)]
    by_cases hj : j = o
    · subst hj
      rw [if_neg (by omega), if_pos (by omega), Array.getElem?_setIfInBounds, if_pos rfl, if_pos (by omega)]; simp
    · by_cases h2 : o + 1 ≤ j ∧ j < o + 1 + r.length
      · rw [if_pos h2, if_pos (by omega), show j - o = (j - (o + 1)) + 1 by omega, List.getElem?_cons_succ]
      · rw [if_neg h2, if_neg (by omega), Array.getElem?_setIfInBounds, if_neg (by omega)]
theorem spl_all (cs : Array Value) (vs : List Value) (h : cs.size = vs.length) : spl cs 0 vs = vs.toArray := by
  apply Array.ext_getElem?
  intro j
  rw [spl_get _ _ _ _ (by omega)]
  by_cases hj : j < vs.length
  · rw [if_pos (by omega)]; simp
  · rw [if_neg (by omega), Array.getElem?_eq_none (by omega)]
    simp; omega
theorem bl_setCells {g : Nat} {t : TypeId} (vs : List Value) : ∀ (w : World) (cs : Array Value) (o : Nat), Bl w g t cs → Bl (w.setCells g o vs) g t (spl cs o vs) := by
  induction vs with
  | nil => intro w cs o h; exact h
  | cons v r ih => intro w cs o h; exact ih _ _ _ (h.set_ o v)
theorem only_setCells {g : Nat} (vs : List Value) : ∀ (w a : World) (o : Nat), w.grownBy a (some g) → w.grownBy (a.setCells g o vs) (some g) := by
  induction vs with
  | nil => intro w a o h; exact h
  | cons v r ih => intro w a o h; exact ih _ _ _ (only_set h (.inl rfl) v)

theorem set8 {z : Array Value} (h : z.size = 8) (a b c d e f g k : Value) :
    (((((((z.setIfInBounds 0 a).setIfInBounds 1 b).setIfInBounds 2 c).setIfInBounds 3 d).setIfInBounds 4 e).setIfInBounds 5 f).setIfInBounds 6 g).setIfInBounds 7 k = #[a, b, c, d, e, f, g, k] := by
  obtain ⟨l⟩ := z
  match l, h with
  | [_, _, _, _, _, _, _, _], _ => simp [List.setIfInBounds_toArray]
theorem set8_bl {w : World} {g : Nat} {t : TypeId} {z : Array Value} (hm : Bl w g t z) (h : z.size = 8) (a b c d e f u k : Value) :
    Bl ((((((((w.setCell ⟨g, 0, none⟩ a).setCell ⟨g, 1, none⟩ b).setCell ⟨g, 2, none⟩ c).setCell ⟨g, 3, none⟩ d).setCell ⟨g, 4, none⟩ e).setCell ⟨g, 5, none⟩ f).setCell ⟨g, 6, none⟩ u).setCell ⟨g, 7, none⟩ k) g t #[a, b, c, d, e, f, u, k] := by
  have := ((((((((hm.set_ 0 a).set_ 1 b).set_ 2 c).set_ 3 d).set_ 4 e).set_ 5 f).set_ 6 u).set_ 7 k)
  rwa [set8 h] at this
theorem set8_below {B : Nat} {w0 w : World} {g : Nat} (hb : Below B w0 w) (hg : B ≤ g) (a b c d e f u k : Value) :
    Below B w0 ((((((((w.setCell ⟨g, 0, none⟩ a).setCell ⟨g, 1, none⟩ b).setCell ⟨g, 2, none⟩ c).setCell ⟨g, 3, none⟩ d).setCell ⟨g, 4, none⟩ e).setCell ⟨g, 5, none⟩ f).setCell ⟨g, 6, none⟩ u).setCell ⟨g, 7, none⟩ k) :=
  (((((((hb.setCell hg a).setCell hg b).setCell hg c).setCell hg d).setCell hg e).setCell hg f).setCell hg u).setCell hg k
/-- Each value is one cell. -/
def Ones (arr : Array Value) : Prop := ∀ v ∈ arr.toList, v.oneCell' = true
theorem Ones.set_ {arr : Array Value} (h : Ones arr) (i : Nat) (v : Value) (hv : v.oneCell' = true) : Ones (arr.setIfInBounds i v) := by
  intro u hu
  rw [Array.toList_setIfInBounds] at hu
  rcases List.mem_or_eq_of_mem_set hu with h1 | h1
  · exact h u h1
  · subst h1; exact hv
theorem Ones.of_all {arr : Array Value} (h : arr.toList.all (fun v => v.oneCell') = true) : Ones arr := fun v hv => List.all_eq_true.1 h v hv
theorem extract_all {cs : Array Value} {n : Nat} (h : cs.size = n) : cs.extract 0 (0 + n) = cs := by simp [← h]
theorem spl_eq (cs : Array Value) (o : Nat) (l : List Value) (h : o + l.length ≤ cs.size) : spl cs o l = (cs.toList.take o ++ (l ++ cs.toList.drop (o + l.length))).toArray := by
  apply Array.ext_getElem?
  intro j
  rw [spl_get _ _ _ _ h]
  have hs : cs.toList.length = cs.size := Array.length_toList
  have e : cs[j]? = cs.toList[j]? := by simp
  have e2 : ∀ L : List Value, L.toArray[j]? = L[j]? := fun L => by simp
  rw [e, e2, List.getElem?_append, List.getElem?_append, List.length_take, hs, List.getElem?_take, List.getElem?_drop]
  by_cases h1 : j < o
  · rw [if_neg (by omega), if_pos (by omega), if_pos h1]
  · rw [if_neg (show ¬ j < min o cs.size by omega), show j - min o cs.size = j - o by omega]
    by_cases h2 : j < o + l.length
    · rw [if_pos (by omega), if_pos (by omega)]
    · rw [if_neg (by omega), if_neg (by omega)]
      congr 1
      omega
section
variable {P : Program} {w : World}
/-- A copy into a block that is known whole; the source may lie anywhere. -/
theorem wpList_copy_bl {ops : Array Oper} {rest : List Oper} {o : Oper} {a : Act} {Q : Exit → Act → World → Prop} (hgd : o.guard = none) (d s : Operand) (dT sT : TypeId)
    (ho : o.op = .call { callee := .builtin .copy, args := #[d, s], argTypes := #[dT, sT] }) (elem : TypeId) (hu : P.underlying dT = some (.slice elem)) (hsz : (P.info? elem).map (·.size) = some 1)
    (g off dLen dCap : Nat) (ad : Addr) (sLen sCap : Nat) (hd : a.eval d = .slice (some ⟨g, off, none⟩) dLen dCap) (hs : a.eval s = .slice (some ad) sLen sCap)
    (t : TypeId) (cs : Array Value) (hb : Bl w g t cs) (xs : List Value) (hsl : Sl w (some ad) sLen xs) (m : Nat) (hm : m = Nat.min sLen dLen) (hfit : off + m ≤ cs.size) (h1 : ∀ v ∈ xs, v.oneCell' = true)
    (h : ∀ w', Bl w' g t (spl cs off (xs.take m)) → w.grownBy w' (some g) → wpList P ops Q rest (a.put o.dst (goInt m)) w') : wpList P ops Q (o :: rest) a w := by
  have hlen : (xs.take m).length = m := by rw [List.length_take, hsl.1, hm]; exact Nat.min_eq_left (Nat.min_le_left _ _)
  refine wpList_copy_own hgd d s dT sT ho elem hu hsz g off dLen dCap ad sLen sCap hd hs cs t hb (xs.take m) (by rw [hlen, hm]) (fun j v hj => ?_) (by rw [hlen]; exact hfit) (fun v hv => h1 v (List.mem_of_mem_take hv)) ?_
  · rw [List.getElem?_take] at hj
    split at hj
    · obtain ⟨ad', he, hc⟩ := hsl.2 j v hj
      cases he
      exact hc
    · cases hj
  · rw [← spl_eq _ _ _ (by rw [hlen]; exact hfit), hlen]
    exact h _ (setRow_heap w g cs _ t _ hb) ⟨rfl, rfl, rfl, by simp [World.setRow], fun i _ hn => setRow_other w g i _ (fun e => hn (by rw [e]))⟩
theorem wpList_load_bl {ops : Array Oper} {rest : List Oper} {op : Oper} {a : Act} {Q : Exit → Act → World → Prop} (hgd : op.guard = none) (ty : TypeId) (x : Operand) (ho : op.op = .load ty x)
    (g o n : Nat) (hx : a.eval x = .pointer (some ⟨g, o, none⟩)) (t : TypeId) (cs : Array Value) (hb : Bl w g t cs) (d : TypeDesc) (hle : o + n ≤ cs.size) (vs : Array Value) (hvs : cs.extract o (o + n) = vs)
    (hu : P.underlying ty = some d) (hd : d.isRow = true) (hi : (P.info? ty).map (·.size) = some n)
    (h : wpList P ops Q rest (a.put op.dst (.agg vs)) w) : wpList P ops Q (op :: rest) a w := by
  subst hvs
  have hl : (cs.extract o (o + n)).toList.length = n := by simp; omega
  refine wpList_load_mid hgd ty x ho g o hx (cs.extract o (o + n)).toList d (World.rangeAt_of_block hb o n) hu hd (by rw [hl]; exact hi) ?_
  rw [Array.toArray_toList]
  exact h
theorem wp_load_bl {op : Oper} {a : Act} {K : Act → World → Prop} {Q : Exit → Act → World → Prop} (ty : TypeId) (x : Operand) (ho : op.op = .load ty x)
    (g o n : Nat) (hx : a.eval x = .pointer (some ⟨g, o, none⟩)) (t : TypeId) (cs : Array Value) (hb : Bl w g t cs) (d : TypeDesc) (hle : o + n ≤ cs.size) (vs : Array Value) (hvs : cs.extract o (o + n) = vs)
    (hu : P.underlying ty = some d) (hd : d.isRow = true) (hi : (P.info? ty).map (·.size) = some n)
    (h : K (a.put op.dst (.agg vs)) w) : op.wp P a w K Q := by
  subst hvs
  have hl : (cs.extract o (o + n)).toList.length = n := by simp; omega
  refine wp_load_mid ty x ho g o hx (cs.extract o (o + n)).toList d (World.rangeAt_of_block hb o n) hu hd (by rw [hl]; exact hi) ?_
  rw [Array.toArray_toList]
  exact h
theorem wp_store_bl {op : Oper} {a : Act} {K : Act → World → Prop} {Q : Exit → Act → World → Prop} (ty : TypeId) (x y : Operand) (ho : op.op = .store ty x y)
    (g o : Nat) (vs : Array Value) (hx : a.eval x = .pointer (some ⟨g, o, none⟩)) (hy : a.eval y = .agg vs) (t : TypeId) (cs : Array Value) (hb : Bl w g t cs) (hle : o + vs.size ≤ cs.size)
    (hi : (P.info? ty).map (·.size) = some vs.size) (h1 : ∀ v ∈ vs.toList, v.oneCell' = true)
    (h : ∀ w', Bl w' g t (spl cs o vs.toList) → w.grownBy w' (some g) → K (a.put op.dst undef) w') : op.wp P a w K Q := by
  refine wp_store_mid ty x y ho g o vs hx hy (fun j hj => ?_) hi ?_ (h _ (bl_setCells _ _ _ _ hb) (only_setCells _ _ _ _ (World.grownBy.refl w _)))
  · have hlt : o + j < cs.size := by omega
    rw [hb.cell, Array.getElem?_eq_getElem hlt]
    exact ⟨rfl, hb.frozen _⟩
  · have := all_oneCell_toArray h1
    simpa using this
theorem wpList_store_bl {ops : Array Oper} {rest : List Oper} {op : Oper} {a : Act} {Q : Exit → Act → World → Prop} (hgd : op.guard = none) (ty : TypeId) (x y : Operand) (ho : op.op = .store ty x y)
    (g o : Nat) (vs : Array Value) (hx : a.eval x = .pointer (some ⟨g, o, none⟩)) (hy : a.eval y = .agg vs) (t : TypeId) (cs : Array Value) (hb : Bl w g t cs) (hle : o + vs.size ≤ cs.size)
    (hi : (P.info? ty).map (·.size) = some vs.size) (h1 : ∀ v ∈ vs.toList, v.oneCell' = true)
    (h : ∀ w', Bl w' g t (spl cs o vs.toList) → w.grownBy w' (some g) → wpList P ops Q rest (a.put op.dst undef) w') : wpList P ops Q (op :: rest) a w := by
  refine wpList_store_mid hgd ty x y ho g o vs hx hy (fun j hj => ?_) hi ?_ (h _ (bl_setCells _ _ _ _ hb) (only_setCells _ _ _ _ (World.grownBy.refl w _)))
  · have hlt : o + j < cs.size := by omega
    rw [hb.cell, Array.getElem?_eq_getElem hlt]
    exact ⟨rfl, hb.frozen _⟩
  · have := all_oneCell_toArray h1
    simpa using this
/-- The store's own run, for the walk: the world behind it under a name. -/
theorem run_store_bl (P : Program) {w : World} {g : Nat} {t : TypeId} {cs : Array Value} (hb : Bl w g t cs) (o : Nat) (vs : List Value) (hle : o + vs.length ≤ cs.size) (h1 : ∀ v ∈ vs, v.oneCell' = true) :
    ∃ w', (storeCells ⟨g, o, none⟩ vs).run P w = .ok () w' ∧ Bl w' g t (spl cs o vs) ∧ w.grownBy w' (some g) := by
  refine ⟨w.setCells g o vs, ?_, bl_setCells _ _ _ _ hb, only_setCells _ _ _ _ (World.grownBy.refl w _)⟩
  have := run_storeCells_cells (P := P) g o vs 0 w (fun j hj => by
    have hlt : o + j < cs.size := by omega
    rw [Nat.add_zero, hb.cell, Array.getElem?_eq_getElem hlt]; rfl) (fun j hj => hb.frozen _) h1
  simpa using this
/-- An array by value, read at a place that is a letter. -/
theorem run_index_agg {t e : TypeId} {n : Nat} {ik : IntKind} (h : P.underlying t = some (.array n e)) (he : P.underlying e = some (.int ik)) (hs : (P.info? e).map (·.size) = some 1) (cs : Array Value) (k : Nat) (v : Value) (hk : k < n) (hv : cs[k]? = some v) (w : World) :
    (Instr.index t (.agg cs) (.int .i64 (k : Int))).run P w = .ok v w := by
  cases hq : P.info? e with
  | none => simp [hq] at hs
  | some i =>
    have hi : i.size = 1 := by simpa [hq] using hs
    have hin : (0 : Int) ≤ (k : Int) ∧ (k : Int) < (n : Int) := by omega
    simp [Instr.index, run_underlying h, asIntOf, hin, part, isAgg, run_underlying he, sizeOf, typeInfo, hq, hi, hv]
    omega
end
end Go.Proofs.YteechlkccmcpfaaDoor.Gn
