/-
  Arrays of integers, held against each other.
-/
import Derived.Test.YteechlkccmcpfaaDoorGnMore
import Derived.Laws.StructEq
namespace Go.Proofs.YteechlkccmcpfaaDoor.Gn
open Go.RowKit Go.Deep
set_option linter.unusedVariables false
section
variable {P : Program}
theorem run_part_int {e : TypeId} {ik : IntKind} (he : P.underlying e = some (.int ik)) (hs : (P.info? e).map (·.size) = some 1) (cs : Array Value) (k : Nat) (v : Value) (hv : cs[k]? = some v) (w : World) :
    (part e cs k).run P w = .ok v w := by
  cases hq : P.info? e with
  | none => simp [hq] at hs
  | some i =>
    simp [part, isAgg, run_underlying he, hv]
theorem run_equalIn_arr (d : Nat) {t e : TypeId} {n : Nat} {ik : IntKind} (h : P.underlying t = some (.array n e)) (he : P.underlying e = some (.int ik)) (hs : (P.info? e).map (·.size) = some 1) (w : World) :
    ∀ (l m : List Int), l.length = n → m.length = n → (Op.equalIn (d + 2) t (.agg (l.map (Value.int ik)).toArray) (.agg (m.map (Value.int ik)).toArray)).run P w = .ok (decide (l = m)) w := by
  intro l m hl hm
  cases hq : P.info? e with
  | none => simp [hq] at hs
  | some i =>
  have hi : i.size = 1 := by simpa [hq] using hs
  have key : ∀ (k j : Nat), j + k = n → (ForIn.forIn (m := Sem) (List.range' j k) ((none, ()) : Option Bool × Unit) (fun i r => do
      let a ← part e (l.map (Value.int ik)).toArray (i * 1)
      let b ← part e (m.map (Value.int ik)).toArray (i * 1)
      let q ← Op.equalIn (d + 1) e a b
      if (!q) = true then pure (ForInStep.done (some false, ())) else pure (ForInStep.yield (none, ())))).run P w = .ok (bif decide (l.drop j = m.drop j) then (none, ()) else (some false, ())) w := by
    intro k
    induction k with
    | zero => intro j hj; simp [List.drop_of_length_le (show l.length ≤ j by omega), List.drop_of_length_le (show m.length ≤ j by omega)]
    | succ k ih =>
      intro j hj
      have hlj : j < l.length := by omega
      have hmj : j < m.length := by omega
      have p1 := run_part_int (P := P) he hs (l.map (Value.int ik)).toArray (j * 1) (.int ik l[j]) (by simp [hlj]) w
      have p2 := run_part_int (P := P) he hs (m.map (Value.int ik)).toArray (j * 1) (.int ik m[j]) (by simp [hmj]) w
      rw [List.range'_succ, List.forIn_cons]
      simp only [Sem.run_bind, p1, p2, Result.andThen_ok, run_equalIn_int w d e ik ik l[j] m[j] he]
      have hL : l.drop j = m.drop j ↔ (l[j] = m[j] ∧ l.drop (j + 1) = m.drop (j + 1)) := by
        rw [List.drop_eq_getElem_cons hlj, List.drop_eq_getElem_cons hmj, List.cons.injEq]
      by_cases hE : l[j] = m[j]
      · have hd : decide (l.drop j = m.drop j) = decide (l.drop (j + 1) = m.drop (j + 1)) := decide_eq_decide.2 (hL.trans ⟨fun h => h.2, fun h => ⟨hE, h⟩⟩)
        have := ih (j + 1) (by omega)
        rw [hd]
        simp only [hE, beq_self_eq_true, Bool.not_true, Bool.false_eq_true, if_false, Sem.run_pure, Result.andThen_ok]
        exact this
      · have hd : decide (l.drop j = m.drop j) = false := decide_eq_false (fun h => hE (hL.1 h).1)
        rw [hd]
        simp [hE]
  have := key n 0 (by omega)
  have hso : (sizeOf e).run P w = .ok 1 w := by simp [sizeOf, typeInfo, hq, hi]
  rw [show d + 2 = (d + 1) + 1 from rfl, Op.equalIn]
  simp only [Sem.run_bind, run_underlying h, Result.andThen_ok, hso]
  rw [Std.Legacy.Range.forIn_eq_forIn_range']
  simp only [List.drop_zero] at this
  have hsz : ([:n] : Std.Legacy.Range).size = n := by simp [Std.Legacy.Range.size]
  rw [hsz]
  change Result.andThen (Sem.run P (forIn (List.range' 0 n 1) _ _) w) _ = _
  rw [this]
  by_cases hE : l = m
  · simp [hE]
  · simp [hE]
end
end Go.Proofs.YteechlkccmcpfaaDoor.Gn
