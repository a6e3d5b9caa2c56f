/- Joined texts. -/
import Derived.Test.YtjimhjfjfpeojaaGreatDoorQaEdF
set_option linter.unusedVariables false
namespace Go.Proofs.YtjimhjfjfpeojaaGreatDoor.Gn
open Go.RowKit Go.Deep
section
variable {P : Program} {ops : Array Oper} {Q : Exit → Act → World → Prop} {rest : List Oper} {o : Oper} {a : Act} {w w' : World}
theorem sq_new (w' : World) (v : Value) (hgd : o.guard = none) (h : (execOp a.eval o).run P w = .ok (.value v) w') (hk : wpList P ops Q rest (a.put o.dst v) w') : wpList P ops Q (o :: rest) a w :=
 wpList_plain hgd fun K hK => wp_val h (hK _ _ hk)
theorem sq_run (v : Value) (hgd : o.guard = none) (h : (execOp a.eval o).run P w = .ok (.value v) w) (hk : wpList P ops Q rest (a.put o.dst v) w) : wpList P ops Q (o :: rest) a w := sq_new w v hgd h hk
theorem sq_enter (f : FuncId) (args : Array Value) (hgd : o.guard = none) (h : (execOp a.eval o).run P w = .ok (.enter f args) w) (hc : Calls P f args w fun e w'' => ∃ v, e = .returned v ∧ wpList P ops Q rest (a.put o.dst v) w'') : wpList P ops Q (o :: rest) a w :=
 wpList_plain hgd fun K hK => wp_enter h (hc.mono (by rintro e w'' ⟨v, he, hk⟩; exact ⟨v, he, hK _ _ hk⟩))
theorem sq_load (g k n : Nat) (t : TypeId) (cs : Array Value) (hb : Bl w g t cs) (vs : Array Value) (ty : TypeId) (x : Operand) {d : TypeDesc} (hgd : o.guard = none) (ho : o.op = .load ty x) (hx : a.eval x = .pointer (some ⟨g, k, none⟩)) (hle : Nat.ble (k + n) cs.size = true) (hvs : cs.extract k (k + n) = vs)
  (hu : P.underlying ty = some d) (hd : d.isRow = true) (hi : (P.info? ty).map (·.size) = some n) (hk : wpList P ops Q rest (a.put o.dst (.agg vs)) w) : wpList P ops Q (o :: rest) a w :=
 sq_run (.agg vs) hgd (run_load_op ty x ho g k n hx t cs hb d (Nat.le_of_ble_eq_true hle) vs hvs hu hd hi) hk
theorem sq_cell (ad : Addr) (v : Value) (hc : w.cell? ad = some v) (ty : TypeId) (x : Operand) {d : TypeDesc} (hgd : o.guard = none) (ho : o.op = .load ty x) (hx : a.eval x = .pointer (some ad)) (hu : P.underlying ty = some d) (hd : d.isRow = false) (hk : wpList P ops Q rest (a.put o.dst v) w) : wpList P ops Q (o :: rest) a w :=
 sq_run v hgd (run_cell_op ty x ho ad hx v hc d hu hd) hk
theorem sq_store (g : Nat) (t : TypeId) (cs vs : Array Value) (hb : Bl w g t cs) (ty : TypeId) (x y : Operand) (hgd : o.guard = none) (ho : o.op = .store ty x y) (hx : a.eval x = .pointer (some ⟨g, 0, none⟩)) (hy : a.eval y = .agg vs) (hz : cs.size = vs.size) (hi : (P.info? ty).map (·.size) = some vs.size) (h1 : ∀ v ∈ vs.toList, v.oneCell' = true)
  (hk : ∀ w', Bl w' g t vs → w.grownBy w' (some g) → wpList P ops Q rest (a.put o.dst undef) w') : wpList P ops Q (o :: rest) a w := by
 refine wpList_store_bl hgd ty x y ho g 0 vs hx hy t cs hb (by omega) hi h1 fun w' h2 h3 => ?_
 rw [spl_all _ _ (by simpa using hz)] at h2
 exact hk w' (by simpa using h2) h3
theorem sq_done (h : Q .normal a w) : wpList P ops Q [] a w := h
end
end Go.Proofs.YtjimhjfjfpeojaaGreatDoor.Gn
