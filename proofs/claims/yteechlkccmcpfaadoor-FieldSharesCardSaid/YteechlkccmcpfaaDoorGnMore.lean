/-
  More small laws of no program.
-/
import Derived.Test.YteechlkccmcpfaaDoorGnRow
namespace Go.Proofs.YteechlkccmcpfaaDoor.Gn
open Go.RowKit Go.Deep
set_option linter.unusedVariables false

theorem Sl.only {w w' : World} {A : Option Addr} {n : Nat} {xs : List Value} (h : Sl w A n xs) {row : Option Nat} (hg : w.grownBy w' row) (hA : ∀ ad, A = some ad → row ≠ some ad.block) : Sl w' A n xs :=
  ⟨h.1, fun k v hv => by
    obtain ⟨ad, e, hc⟩ := h.2 k v hv
    refine ⟨ad, e, ?_⟩
    rw [only_cell hg (cell_lt hc) (by rw [add_block]; exact hA ad e)]
    exact hc⟩
/-- A slice's length, of a slot: for a loop's measure. -/
def slen : Value → Nat
  | .slice _ n _ => n
  | _ => 0
/-- A list with others laid over it. -/
def spr {α : Type} (l : List α) (k : Nat) (p : List α) : List α := l.take k ++ (p ++ l.drop (k + p.length))
theorem spr_length {α : Type} (l : List α) (k : Nat) (p : List α) (h : k + p.length ≤ l.length) : (spr l k p).length = l.length := by simp [spr]; omega
theorem spr_take {α : Type} (l : List α) (k : Nat) (p : List α) (h : k ≤ l.length) : (spr l k p).take (k + p.length) = l.take k ++ p := by
  have hk : (l.take k).length = k := by simp; omega
  unfold spr
  rw [← List.append_assoc, List.take_append_of_le_length (by simp; omega), List.take_of_length_le (by simp; omega)]
theorem drop_step {A : Option Addr} {c k : Nat} {g : Nat} (h : ∀ ad, A = some ad → ad.block ≠ g) : ∀ ad, (if c = k then A else A.map (fun x => x.add k)) = some ad → ad.block ≠ g := by
  intro ad had
  split at had
  · exact h ad had
  · cases A with
    | none => cases had
    | some a =>
      simp only [Option.map_some, Option.some.injEq] at had
      rw [← had, add_block]
      exact h a rfl
/-- A slice of an array that lies in the midst of a block. -/
theorem run_sliceAt_arr {P : Program} {t e : TypeId} {n : Nat} (h : P.underlying t = some (.array n e)) (hs : (P.info? e).map (·.size) = some 1) (g off l : Nat) (H : Int) (h1 : (l : Int) ≤ H) (h2 : H ≤ (n : Int)) (hl : l < n) (W : World) :
    (Instr.sliceAt t (.pointer (some ⟨g, off, none⟩)) (some (.int .i64 (l : Int))) (some (.int .i64 H)) none).run P W = .ok (.slice (some ⟨g, off + l, none⟩) (H.toNat - l) (n - l)) W := by
  cases hq : P.info? e with
  | none => simp [hq] at hs
  | some i =>
    have hi : i.size = 1 := by simpa [hq] using hs
    have hne : ¬ n = l := by omega
    have hadd : (⟨g, off, none⟩ : Addr).add l = ⟨g, off + l, none⟩ := by unfold Addr.add; split <;> simp_all
    have hH : (H.toNat : Int) = H := Int.toNat_of_nonneg (by omega)
    simp [Instr.sliceAt, Instr.sureAddr, run_underlying h, Instr.sliceBounds, run_sliceBound, sizeOf, typeInfo, hq, hi, hne, hadd, hH, h1, h2, show 0 ≤ H by omega]
theorem run_sliceAt_to {P : Program} {t e : TypeId} {n : Nat} (h : P.underlying t = some (.array n e)) (hs : (P.info? e).map (·.size) = some 1) (g off : Nat) (H : Int) (h1 : 0 ≤ H) (h2 : H ≤ (n : Int)) (W : World) :
    (Instr.sliceAt t (.pointer (some ⟨g, off, none⟩)) none (some (.int .i64 H)) none).run P W = .ok (.slice (some ⟨g, off, none⟩) H.toNat n) W := by
  cases hq : P.info? e with
  | none => simp [hq] at hs
  | some i =>
    have h0 : (⟨g, off, none⟩ : Addr).add 0 = ⟨g, off, none⟩ := rfl
    simp [Instr.sliceAt, Instr.sureAddr, run_underlying h, Instr.sliceBounds, run_sliceBound, sizeOf, typeInfo, hq, h1, h2, h0]
end Go.Proofs.YteechlkccmcpfaaDoor.Gn
