/-
  The document's package's own arithmetic: products, powers, roots.
-/
import Derived.Test.YtfdjphinicafiabDoorShPrime
namespace Go.Proofs.YtfdjphinicafiabDoor.Sh
open Go.RowKit Go.Proofs.YtfdjphinicafiabDoor.Gn Go.Deep
set_option linter.unusedVariables false
attribute [local go_sem ↓] Go.wp_at_zero Go.wp_at_succ

def tx (o a b c : Nat) : Nat := ((o + (a * b) % 18446744073709551616) % 18446744073709551616 + c) % 18446744073709551616
def tin (a : Nat) (b : List Nat) (i : Nat) (out : List Nat) : Nat → List Nat × Nat
  | 0 => (out, 0)
  | k + 1 =>
    let p := tin a b i out k
    let x := tx (p.1.getD (i + k) 0) a (b.getD k 0) p.2
    (p.1.set (i + k) (x % 4294967296), x / 4294967296)
def tou (a b : List Nat) : Nat → List Nat
  | 0 => List.replicate (a.length + b.length) 0
  | i + 1 =>
    let p := tin (a.getD i 0) b i (tou a b i) b.length
    p.1.set (i + b.length) p.2
def tm (a b : List Nat) : List Nat := tou a b a.length
def ab (a b : List Nat) : Nat → Bool
  | 0 => false
  | i + 1 => if a.getD i 0 = b.getD i 0 then ab a b i else decide (b.getD i 0 < a.getD i 0)
def abv (a b : List Nat) : Bool := ab a b (a.length + b.length)
def incl : List Nat → List Nat
  | [] => []
  | x :: l => if x + 1 < 4294967296 then (x + 1) :: l else 0 :: incl l
def pr0 (h c : Nat) (more : Bool) : List Nat := if more then incl [c % 4294967296, c / 4294967296, h] else [c % 4294967296, c / 4294967296, h]
def pw (h c of : Nat) (more : Bool) : List Nat := if of = 3 then tm (tm (pr0 h c more) (pr0 h c more)) (pr0 h c more) else tm (pr0 h c more) (pr0 h c more)
def want (of p : Nat) : List Nat := List.replicate (2 * of) 0 ++ [p]
def rok (h c of p : Nat) : Bool := !abv (pw h c of false) (want of p) && abv (pw h c of true) (want of p)
def rk3 : Bool := (List.range 80).all fun k => (List.range 22).all fun h => !(decide (h * h * h ≤ prl.getD k 0) && decide (prl.getD k 0 < (h + 1) * (h + 1) * (h + 1))) || rok h (kc.getD k 0) 3 (prl.getD k 0)
def rk2 : Bool := (List.range 8).all fun k => (List.range 22).all fun h => !(decide (h * h ≤ prl.getD k 0) && decide (prl.getD k 0 < (h + 1) * (h + 1))) || rok h (sc.getD k 0) 2 (prl.getD k 0)
theorem rk2_true : rk2 = true := by kernel_rfl
theorem rk3_true : rk3 = true := by kernel_rfl

theorem tin_len (a : Nat) (b : List Nat) (i : Nat) (out : List Nat) : ∀ k, (tin a b i out k).1.length = out.length := by
  intro k
  induction k with
  | zero => rfl
  | succ k ih => simp only [tin, List.length_set, ih]
theorem tou_len (a b : List Nat) : ∀ i, (tou a b i).length = a.length + b.length := by
  intro i
  induction i with
  | zero => simp [tou]
  | succ i ih => simp only [tou, List.length_set, tin_len, ih]
theorem tm_len (a b : List Nat) : (tm a b).length = a.length + b.length := tou_len a b _
theorem nl_set (l : List Nat) (k x : Nat) : (nl l).toArray.setIfInBounds k (.int .u64 (x : Int)) = (nl (l.set k x)).toArray := by
  simp [nl, List.setIfInBounds_toArray, List.map_set]
theorem nl_cell {w : World} {g : Nat} {t : TypeId} {l : List Nat} (h : Bl w g t (nl l).toArray) {k : Nat} (hk : k < l.length) : w.cell? ⟨g, k, none⟩ = some (.int .u64 ((l.getD k 0 : Nat) : Int)) := by
  refine h.cell_ ?_
  rw [List.getElem?_toArray, nl_get, List.getElem?_eq_getElem hk]
  simp [hk]
def TO (a b : List Nat) (g : Nat) (w0 : World) (i : Value) (wr : World) : Prop :=
  ∃ j : Nat, j ≤ a.length ∧ i = .int .i64 (j : Int) ∧ Bl wr g 22 (nl (tou a b j)).toArray ∧ w0.grownBy wr (some g)
def TI (A : Nat) (b : List Nat) (j : Nat) (out : List Nat) (g : Nat) (w0 : World) (c i : Value) (wr : World) : Prop :=
  ∃ k : Nat, k ≤ b.length ∧ i = .int .i64 (k : Int) ∧ c = .int .u64 (((tin A b j out k).2 : Nat) : Int) ∧ Bl wr g 22 (nl (tin A b j out k).1).toArray ∧ w0.grownBy wr (some g)
set_option maxHeartbeats 2000000 in
set_option maxRecDepth 100000 in
theorem times_any (a b : List Nat) (n m : Nat) (hn : a.length = n) (hm : b.length = m) (A B : Option Addr) (c d : Nat) (w : World) (hn1 : n ≤ 12) (hm1 : m ≤ 12) (ha : Sl w A n (nl a)) (hb : Sl w B m (nl b)) :
    Calls Tryd.prog 51 #[.slice A n c, .slice B m d] w fun e w' => ∃ g, e = .returned (.slice (some ⟨g, 0, none⟩) (n + m : Nat) (n + m : Nat)) ∧ w.heap.size ≤ g ∧ Bl w' g 22 (nl (tm a b)).toArray ∧ Below w.heap.size w w' := by
  obtain ⟨N, hN⟩ : ∃ N, N = n + m := ⟨_, rfl⟩
  rw [← hN]
  have eN : (n : Int) + (m : Int) = (N : Int) := by omega
  have hN2 : N ≤ 24 := by omega
  have hmk := fun w => run_make_row' (P := Tryd.prog) 56 22 (.int .u64 0) 8 Tryd.underlying56 info64 rfl .i64 .i64 N (by omega) (by omega) w
  have HA := Lib.hid ha
  have HB := Lib.hid hb
  have HL := Lib.hid (And.intro hn hm)
  have HN := Lib.hid hN
  clear ha hb hn hm hN
  go_enter Tryd.func51, Tryd.ntmps51
  go_wp2_with fail
  clear hmk
  have B0 := Lib.hid (show Bl (w.alloc (.cells (madeCells #[.int .u64 0] N) 22)) w.heap.size 22 (nl (tou a b 0)).toArray from by
    have e : madeCells #[.int .u64 0] N = (nl (tou a b 0)).toArray := by
      apply Array.ext'
      rw [toList_madeCells_one, HN.out, ← HL.out.1, ← HL.out.2]
      simp [tou, nl]
    rw [e]; exact Bl.new_ _ _ _)
  have G0 := Lib.hid (show Below w.heap.size w (w.alloc (.cells (madeCells #[.int .u64 0] N) 22)) from (Below.refl _ _).alloc (Nat.le_refl _) _)
  obtain ⟨g, hg⟩ : ∃ g, g = w.heap.size := ⟨_, rfl⟩
  have HG := Lib.hid hg
  rw [← hg] at B0 ⊢
  generalize hw0 : w.alloc _ = w0 at B0 G0 ⊢
  clear hw0 hg
  go_loopw [6] (fun i wr => TO a b g w0 i wr) (fun i _ => n - (intOf i).toNat)
  case atStart => exact ⟨0, Nat.zero_le _, rfl, B0.out, World.grownBy.refl _ _⟩
  case round =>
    obtain ⟨j, hj, rfl, hbl, hgr⟩ := hrel
    have BL0 := Lib.hid hbl
    have GR := Lib.hid hgr
    rw [HL.out.1] at hj
    clear hbl hgr
    by_cases hlt : j < n
    · obtain ⟨X, hX⟩ : ∃ X, X = a.getD j 0 := ⟨_, rfl⟩
      have HX := Lib.hid hX
      clear hX
      have R0 := Lib.hid (show TI X b j (tou a b j) g w0 (.int .u64 0) (.int .i64 0) wr from ⟨0, Nat.zero_le _, rfl, rfl, BL0.out, GR.out⟩)
      go_wp2_with fail
      go_loopw [7, 8] (fun c i wx => TI X b j (tou a b j) g w0 c i wx) (fun _ i _ => m - (intOf i).toNat)
      case atStart => exact R0.out
      case round =>
        obtain ⟨k, hk, rfl, rfl, hbl, hgr⟩ := hrel
        rw [HL.out.2] at hk
        obtain ⟨L, hL⟩ : ∃ L, L = (tin X b j (tou a b j) k).1 := ⟨_, rfl⟩
        obtain ⟨C, hC⟩ : ∃ C, C = (tin X b j (tou a b j) k).2 := ⟨_, rfl⟩
        rw [← hL] at hbl
        rw [← hC]
        have hLl : L.length = N := by rw [hL, tin_len, tou_len, HL.out.1, HL.out.2, HN.out]
        have BX := Lib.hid hbl
        have GX := Lib.hid hgr
        have HLL := Lib.hid hLl
        have HLC := Lib.hid (And.intro hL hC)
        have GW := Lib.hid (G0.out.grown hgr G0.out.size (fun x e => by injection e with e; have := HG.out; omega))
        clear hbl hgr hLl hL hC
        by_cases hlk : k < m
        · obtain ⟨p, hp⟩ : ∃ p, p = j + k := ⟨_, rfl⟩
          have ep : (j : Int) + (k : Int) = (p : Int) := by omega
          have wp : IntKind.i64.wrap (p : Int) = (p : Int) := by rw [IntKind.wrap_i64]; omega
          have p0 : (0 : Int) ≤ (p : Int) := by omega
          have pN : (p : Int) < (N : Int) := by have := HN.out; omega
          have hpN : p < N := by have := HN.out; omega
          obtain ⟨a1, rfl, hca⟩ := (HA.out.below GW.out).at_ hlt
          obtain ⟨b1, rfl, hcb⟩ := (HB.out.below GW.out).at_ hlk
          obtain ⟨Y, hY⟩ : ∃ Y, Y = b.getD k 0 := ⟨_, rfl⟩
          obtain ⟨O, hO⟩ : ∃ O, O = L.getD p 0 := ⟨_, rfl⟩
          have ca := sl_num (HA.out.below GW.out) hlt
          have cb := sl_num (HB.out.below GW.out) hlk
          have co := nl_cell BX.out (show p < L.length by rw [HLL.out]; exact hpN)
          rw [← HX.out] at ca
          rw [← hY] at cb
          rw [← hO] at co
          obtain ⟨V, hV⟩ : ∃ V, V = tx O X Y C := ⟨_, rfl⟩
          have eV : IntKind.u64.wrap (IntKind.u64.wrap ((O : Int) + IntKind.u64.wrap ((X : Int) * (Y : Int))) + (C : Int)) = (V : Int) := by
            rw [hV]
            unfold tx
            rw [← Int.natCast_mul]
            generalize X * Y = Q
            simp only [IntKind.wrap_u64]
            omega
          have hVb : V < 18446744073709551616 := by rw [hV]; exact Nat.mod_lt _ (by decide)
          obtain ⟨V1, hV1⟩ : ∃ V1, V1 = V % 4294967296 := ⟨_, rfl⟩
          obtain ⟨V2, hV2⟩ : ∃ V2, V2 = V / 4294967296 := ⟨_, rfl⟩
          have e1 : (V : Int) % 4294967296 = (V1 : Int) := by omega
          have e2 : (V : Int) / 4294967296 = (V2 : Int) := by omega
          have e1' : IntKind.u64.wrap (V1 : Int) = (V1 : Int) := by rw [IntKind.wrap_u64]; omega
          have e2' : IntKind.u64.wrap (V2 : Int) = (V2 : Int) := by rw [IntKind.wrap_u64]; omega
          have NX := Lib.hid (show tin X b j (tou a b j) (k + 1) = (L.set p V1, V2) by
            simp only [tin]
            rw [← HLC.out.1, ← HLC.out.2, ← hp, ← hY, ← hO, ← hV, hV1, hV2])
          have E := Lib.hid (And.intro (And.intro e1 e2) (And.intro e1' e2'))
          clear hp hVb hV hV1 hV2 hY hO hcb hca e1 e2 e1' e2'
          go_wp2_with fail
          go_quiet (fail)
          have BX2 := Lib.hid (BX.out.drewN nq)
          have GX2 := Lib.hid (only_drewN GX.out nq)
          have e1 := E.out.1.1
          have e2 := E.out.1.2
          have e1' := E.out.2.1
          have e2' := E.out.2.2
          clear ca cb co eV
          generalize hw3 : wr.drewN nq = w3 at BX2 GX2 ⊢
          clear hw3
          have co := nl_cell BX2.out (show p < L.length by rw [HLL.out]; exact hpN)
          have fz := BX2.out.frozen p
          go_wp2_with fail
          go_roundw
          case rel => exact ⟨k + 1, by rw [HL.out.2]; omega, by go_num, by rw [NX.out], by rw [NX.out]; simp only; rw [← nl_set]; exact BX2.out.set_ p _, only_set GX2.out (.inl rfl) _⟩
          case measure => simp [intOf]; omega
        · obtain ⟨p, hp⟩ : ∃ p, p = j + m := ⟨_, rfl⟩
          obtain rfl : k = m := by omega
          have ep : (j : Int) + (k : Int) = (p : Int) := by omega
          have wp : IntKind.i64.wrap (p : Int) = (p : Int) := by rw [IntKind.wrap_i64]; omega
          have p0 : (0 : Int) ≤ (p : Int) := by omega
          have pN : (p : Int) < (N : Int) := by have := HN.out; omega
          have hpN : p < N := by have := HN.out; omega
          have co := nl_cell BX.out (show p < L.length by rw [HLL.out]; exact hpN)
          have fz := BX.out.frozen p
          have NX := Lib.hid (show tou a b (j + 1) = L.set p C by
            simp only [tou]
            rw [HL.out.2, ← HX.out, ← HLC.out.1, ← HLC.out.2, ← hp])
          clear hp
          go_wp2_with fail
          go_roundw
          case rel => exact ⟨j + 1, by rw [HL.out.1]; omega, by go_num, by rw [NX.out, ← nl_set]; exact BX.out.set_ p _, only_set GX.out (.inl rfl) _⟩
          case measure => simp [intOf]; omega
    · obtain rfl : j = n := by omega
      go_wp2_with fail
      go_ret
      exact ⟨g, rfl, by rw [HG.out]; exact Nat.le_refl _, by unfold tm; rw [HL.out.1]; exact BL0.out, G0.out.grown GR.out G0.out.size (fun x e => by injection e with e; have := HG.out; omega)⟩
end Go.Proofs.YtfdjphinicafiabDoor.Sh
