/-
  The library's insertionSortCmpFunc at numbers: the rows that rise by their numbers become a run.
-/
import Derived.Test.YtdiihpnfeeediaaSoSwap
import Derived.Deep.QuietTactic
import Derived.BigQuiet
import Derived.IntWalk
namespace Go.Proofs.Ytdiihpnfeeediaa.So
open Go.RowKit Go.Sort
variable {α : Type} [Inhabited α] {v : α → Nat} {w0 w : World} {blk : Nat} {d0 d : Array α} {T : α → α → Prop} {cf : α → α → Int} {B : Nat}
set_option linter.unusedVariables false

/-- The test, as the document's: it only reads. -/
def CmpOk (v : α → Nat) (w0 : World) (blk : Nat) (d0 : Array α) (B : Nat) (cf : α → α → Int) : Prop :=
  ∀ (W : World) (dk : Array α), dk.size = d0.size → SW (en v) w0 blk 0 dk W → ∀ p q : Nat, p < dk.size → q < dk.size →
    Calls Try.prog 16 #[.int .i64 (v dk[p]!), .int .i64 (v dk[q]!), .pointer (some ⟨B, 0, none⟩)] W fun e w' => e = .returned (.int .i64 (cf dk[p]! dk[q]!)) ∧ ∃ q, w' = W.drewN q
abbrev Fv (B : Nat) : Value := .func (.func 16) #[] #[.pointer (some ⟨B, 0, none⟩)]
/-- What one question wants. -/
theorem ask_facts {dk : Array α} {wr : World} (H : CmpOk v w0 blk d0 B cf) (S : SW (en v) w0 blk 0 dk wr) (R : Row1 (en v) w0 blk 0 d0) (hs : dk.size = d0.size) (p q : Nat) (hp : p < dk.size) (hq : q < dk.size) :
    ∃ (x y : Nat) (z : Int), (∀ n, (wr.drewN n).cell? ⟨blk, p, none⟩ = some (.int .i64 x)) ∧ (∀ n, (wr.drewN n).cell? ⟨blk, q, none⟩ = some (.int .i64 y)) ∧ z = cf dk[p]! dk[q]! ∧
      (∀ n, Calls Try.prog 16 #[.int .i64 x, .int .i64 y, .pointer (some ⟨B, 0, none⟩)] (wr.drewN n) fun e w' => e = .returned (.int .i64 z) ∧ ∃ q, w' = (wr.drewN n).drewN q) := by
  have a1 := S.c1 R hs p hp
  have a2 := S.c1 R hs q hq
  simp only [Nat.zero_add] at a1 a2
  exact ⟨v dk[p]!, v dk[q]!, _, fun n => a1, fun n => a2, rfl, fun n => H _ dk hs (S.drewN n) p q hp hq⟩
theorem SW.drewN' {dk : Array α} {wr : World} (S : SW (en v) w0 blk 0 dk wr) (n : Nat) : SW (en v) w0 blk 0 dk (wr.drewN n) := S.drewN n
set_option maxHeartbeats 4000000 in
set_option maxRecDepth 100000 in
theorem insertion_any (O : Ord (fun x y => decide (cf x y < 0)) v T) (H : CmpOk v w0 blk d0 B cf) (R : Row1 (en v) w0 blk 0 d0) (hs : d.size = d0.size) (S : SW (en v) w0 blk 0 d w) {a b cap : Nat} (hab : a ≤ b) (hb : b ≤ d.size) (hsz : d.size < 4611686018427387904) (hu : Up v d a b) :
    Calls Try.prog 25 #[.slice (some ⟨blk, 0, none⟩) d.size cap, .int .i64 a, .int .i64 b, Fv B] w fun e w' => e = .returned (.tuple #[]) ∧ ∃ d', SW (en v) w0 blk 0 d' w' ∧ Run T d' a b ∧ Mv a b d d' := by
  have S0 := Lib.hid S
  have HH := Lib.hid H
  have HO := Lib.hid O
  have HU := Lib.hid (InsO.start (T := T) hu)
  have HR := Lib.hid R
  have HSD := Lib.hid hs
  clear S H O hu R hs
  go_enter Try.func25, Try.ntmps25
  go_wp2_with fail
  go_loopg [8] (b - a) (fun g1 vi wr => ∃ (i : Nat) (dk : Array α), vi = .int .i64 i ∧ a < i ∧ i ≤ b + 1 ∧ b + 1 - i ≤ g1 + 1 ∧ Hid (dk.size = d.size) ∧ Hid (SW (en v) w0 blk 0 dk wr) ∧ Hid (b ≤ a ∨ InsO T v d dk a i b) ∧ Hid (b ≤ a → dk = d))
  case atStart => exact ⟨a + 1, d, by go_num, by omega, by omega, by omega, Lib.hid rfl, S0, Lib.hid (Or.inr HU.out), Lib.hid fun _ => rfl⟩
  case round =>
    clear S0
    obtain ⟨i, dk, rfl, hai, hib, hg1, HSK, SK, HI, HE⟩ := hrel
    by_cases hlt : i < b
    · have hltz : (i : Int) < (b : Int) := by omega
      have HI2 := Lib.hid (HI.out.resolve_left (by omega))
      go_wp2_with fail
      go_loopg [9] i (fun g2 vj wr2 => ∃ (j : Nat) (dj : Array α), vj = .int .i64 j ∧ a ≤ j ∧ j ≤ i ∧ j ≤ g2 ∧ Hid (dj.size = d.size) ∧ Hid (SW (en v) w0 blk 0 dj wr2) ∧ Hid (InsI T dk dj j i))
      case atStart => exact ⟨i, dk, rfl, by omega, Nat.le_refl _, Nat.le_refl _, HSK, SK, Lib.hid (InsI.start dk i)⟩
      case round =>
        clear SK
        obtain ⟨j, dj, rfl, haj, hji, hg2, HSJ, SJ, HJ⟩ := hrel
        by_cases hja : a < j
        · obtain ⟨jp, rfl⟩ : ∃ q, j = q + 1 := ⟨j - 1, by omega⟩
          have hjad : decide ((jp : Int) + 1 > (a : Int)) = true := decide_eq_true (by omega)
          have hjaz' : (a : Int) < (jp : Int) + 1 := by omega
          obtain ⟨x, y, z, c1, c2, hz, hc⟩ := ask_facts HH.out SJ.out HR.out (by have := HSJ.out; have := HSD.out; omega) (jp + 1) jp (by have := HSJ.out; have := HSD.out; omega) (by have := HSJ.out; have := HSD.out; omega)
          obtain ⟨p, hp⟩ : ∃ p, p = jp + 1 := ⟨_, rfl⟩
          have e1 : ((jp : Int) + 1) = (p : Int) := by omega
          have r0 : IntKind.i64.wrap ((p : Int) - 1) = (jp : Int) := by rw [IntKind.wrap_i64]; omega
          have r3 : (p : Int) - 1 = (jp : Int) := by omega
          have q1 : (p : Int) < (d.size : Int) := by omega
          have q2 : (jp : Int) < (d.size : Int) := by omega
          have q3 : (0 : Int) ≤ (p : Int) := by omega
          have HP := Lib.hid hp
          have HZ := Lib.hid hz
          rw [← hp] at c1
          simp only [show ((jp + 1 : Nat) : Int) = (p : Int) from by omega]
          rw [e1] at hjad hjaz'
          have C := Lib.hid hc
          clear hp hz hc e1
          by_cases hl : z < 0
          · have hd : decide (z < 0) = true := decide_eq_true hl
            go_wp2_with fail
            go_quiet ((go_at_call 16; exact Calls.quiet_of (C.out _)))
            have S2 := Lib.hid (SW.drewN' SJ.out nq)
            clear c1 c2 C
            generalize wr.drewN nq = w2 at S2 ⊢
            obtain ⟨x, y, a1, a2, b1, b2, c, e⟩ := swap_facts S2.out HR.out (by have := HSJ.out; have := HSD.out; omega) p jp (by have := HSJ.out; have := HSD.out; omega) (by have := HSJ.out; have := HSD.out; omega)
            obtain ⟨z', c⟩ := c (.int .i64 y)
            have E := Lib.hid e
            clear e
            go_wp2_with fail
            go_region
            go_wp2_with fail
            go_roundg jp
            case measure => omega
            case rel => exact ⟨jp, swp dj p jp, by go_num, by omega, by omega, by omega, Lib.hid ((swp_size _ _ _).trans HSJ.out), E, (show InsI T dk (swp dj p jp) jp i from by rw [HP.out]; exact HJ.out.go HO.out HI2.out hji (by omega) hlt (by have := HSK.out; have := HSD.out; omega) (by have := HZ.out; rw [this] at hd; exact hd))⟩
          · have hd : decide (z < 0) = false := decide_eq_false hl
            go_wp2_with fail
            go_quiet ((go_at_call 16; exact Calls.quiet_of (C.out _)))
            go_wp2_with fail
            go_roundg (b - (i + 1))
            case measure => omega
            case rel => exact ⟨i + 1, dj, by go_num, by omega, by omega, by omega, HSJ, Lib.hid (SW.drewN' SJ.out _), Lib.hid (Or.inr (HJ.out.stop HO.out HI2.out hji haj hlt (Or.inr ⟨hja, by have := HZ.out; rw [this] at hd; exact hd⟩))), Lib.hid (fun h => by omega)⟩
        · obtain rfl : j = a := by omega
          have hjad : decide ((j : Int) > (j : Int)) = false := decide_eq_false (by omega)
          go_wp2_with fail
          go_quiet (fail)
          go_wp2_with fail
          go_roundg (b - (i + 1))
          case measure => omega
          case rel => exact ⟨i + 1, dj, by go_num, by omega, by omega, by omega, HSJ, Lib.hid (SW.drewN' SJ.out _), Lib.hid (Or.inr (HJ.out.stop HO.out HI2.out hji (Nat.le_refl _) hlt (Or.inl rfl))), Lib.hid (fun h => by omega)⟩
    · have hltz : ¬ (i : Int) < (b : Int) := by omega
      go_wp2_with fail
      go_end0
      refine ⟨rfl, dk, SK.out, ?_⟩
      rcases Nat.lt_or_ge a b with h | h
      · have I := HI.out.resolve_left (by omega)
        exact ⟨I.run.sub (Nat.le_refl _) (by omega), I.mv⟩
      · have := HE.out h
        subst this
        exact ⟨fun i j h1 h2 h3 => by omega, Mv.refl _ _ _⟩
end Go.Proofs.Ytdiihpnfeeediaa.So
