/-
  The walks of the laws of scores and their bytes.
-/
import Derived.Test.YtfdjphinicafiaaScMake
namespace Go.Proofs.Ytfdjphinicafiaa.Sc
open Go.RowKit Go.ChangeShapes Go.WideShapes Go.ChangeAt Go.Deep
set_option linter.unusedVariables false

theorem beb_lt (x k : Nat) : ∀ y ∈ beb x k, y < 256 := by
  induction k with
  | zero => intro y hy; simp [beb] at hy
  | succ k ih =>
    intro y hy
    rcases List.mem_cons.1 hy with rfl | hy
    · omega
    · exact ih y hy
/-- A slice of bytes that came in. -/
def BL (w : World) (a : Option Addr) (len cap : Nat) (l : List Nat) : Prop := Sl w a len (bl l) ∧ len ≤ 9223372036854775807 ∧ (∀ x ∈ l, x < 256) ∧ (a = none → cap = 0)
section
variable {H : Type} {enc : TypeId × Value → H} {P : Program} {w : World} {base : Nat} {spare : Nat → Bool} {held : Bool}
theorem open_bl {t e : TypeId} {a : Option Addr} {len cap : Nat} {d : DataW H} {ps : List MemPlace} (ht : P.underlying t = some (.slice e)) (he : P.underlying e = some (.int .u8)) (hc : P.cellsOf e = 1)
    (_ : ∀ x ∈ ps, x.block < w.heap.size) (h : DataW.Trod enc P w base spare held t (.slice a len cap) d ps) : ∃ l : List Nat, BL w a len cap l := by
  obtain ⟨vs, hs, hm, hv⟩ := open_row ht hc h
  have hnil : a = none → cap = 0 := by
    rintro rfl
    obtain ⟨fuel, hf⟩ := h
    rcases open_slice1 ht hc hf with ⟨hcs, -⟩ | ⟨x, l, c, m, n, V, D, Pl, hcs, -⟩
    · simp [Value.cells] at hcs; exact hcs.2
    · simp [Value.cells] at hcs
  have : ∀ us : List Value, (∀ v ∈ us, v ∈ vs) → ∃ l : List Nat, us = bl l ∧ ∀ x ∈ l, x < 256 := by
    intro us
    induction us with
    | nil => intro _; exact ⟨[], rfl, by simp⟩
    | cons u us ih =>
      intro hu
      obtain ⟨l, rfl, hl⟩ := ih fun v hv => hu v (List.mem_cons_of_mem _ hv)
      obtain ⟨n, y, hy⟩ := hv u (hu u List.mem_cons_self)
      obtain ⟨b, hb, -, hw⟩ := DataW.trod_int he hy
      have hw' : 0 ≤ b ∧ b ≤ 255 := by simpa [Lit.wf, IntKind.min, IntKind.max, IntKind.signed, IntKind.bits] using hw
      refine ⟨b.toNat :: l, ?_, fun x hx => ?_⟩
      · have : u = .int .u8 b := by simpa using hb
        rw [this]; simp [bl]; omega
      · rcases List.mem_cons.1 hx with rfl | hx
        · omega
        · exact hl x hx
  obtain ⟨l, rfl, hl⟩ := this vs fun _ h => h
  exact ⟨l, hs, by unfold maxLen at hm; omega, hl, hnil⟩
end

set_option maxHeartbeats 800000 in
theorem walk_scoreBytes (w : World) (x : Nat) (wx : (Lit.float .f64 x).wf = true) (A : Option Addr) (n c : Nat) (l : List Nat) (hf : BL w A n c l) :
    Calls Try.prog 5 #[.float .f64 x, .slice A n c] w fun e w' => e = .returned (.bool true) ∧ Below w.heap.size w w' := by
  obtain ⟨hs, hn, hl, -⟩ := hf
  have HX := Lib.hid (wf_f64 wx)
  have HS := Lib.hid hs
  have HL := Lib.hid hl
  clear hs hl wx
  cases hv : valid x
  · go_enter Try.func5, Try.ntmps5
    go_wp2_with fail
    refine (bytes_bad x _ HX.out hv).mono ?_
    rintro e w1 ⟨rfl, rfl⟩
    go_wp2_with fail
    refine (rbytes_bad x _ HX.out hv).mono ?_
    rintro e w1 ⟨rfl, rfl⟩
    have HN := Lib.hid (show Sl w1 none 0 (bl []) from ⟨rfl, fun k v h => by simp [bl] at h⟩)
    go_wp2_with (first | (go_at_call 27; refine (read_any _ _ _ l _ hn HL.out HS.out).mono ?_; rintro e w' ⟨rfl, rfl⟩) | (go_at_call 28; refine (rread_any _ _ _ l _ hn HL.out HS.out).mono ?_; rintro e w' ⟨rfl, rfl⟩) | (go_at_call 29; refine (valid_any _ _ HX.out).mono ?_; rintro e w' ⟨rfl, rfl⟩) | (go_at_call 30; refine (rvalid_any _ _ HX.out).mono ?_; rintro e w' ⟨rfl, rfl⟩) | (go_at_call 31; refine (samebytes_any _ _ _ _ _ _ [] [] _ (by simp) (by simp) HN.out HN.out).mono ?_; rintro e w' ⟨rfl, rfl⟩) | (go_at_call 24; refine (rsame_any _ _ _).mono ?_; rintro e w' ⟨rfl, rfl⟩) | (go_at_call 21; refine (known_any _).mono ?_; rintro e w' ⟨rfl, hb⟩))
    go_ret
    exact ⟨rfl, hb⟩
  · go_enter Try.func5, Try.ntmps5
    go_wp2_with fail
    refine (bytes_ok x _ HX.out hv).mono ?_
    rintro e w1 ⟨rfl, hw1⟩
    have hb1 := Lib.hid (show Below w.heap.size w w1 by rw [hw1]; exact (Below.refl _ _).alloc (Nat.le_refl _) _)
    have HS1 := Lib.hid (show Sl w1 (some ⟨w.heap.size, 0, none⟩) 8 (bl (beb x 8)) by
      rw [hw1]; have := Sl.new_ w 5 (bl (beb x 8)); rwa [show (bl (beb x 8)).length = 8 by simp [bl, beb_length]] at this)
    clear hw1
    go_wp2_with fail
    refine (rbytes_ok x _ HX.out hv).mono ?_
    rintro e w2 ⟨v, rfl, hown, hb2⟩
    have HB2 := Lib.hid hb2
    obtain ⟨A2, c2, rfl, hsl2, -, -⟩ := Sl.own hown
    have HS2 := Lib.hid (HS1.out.below hb2)
    have HS3 := Lib.hid hsl2
    have HS4 := Lib.hid ((HS.out.below hb1.out).below hb2)
    clear hb2 hown hsl2
    go_wp2_with (first | (go_at_call 27; refine (read_any _ _ _ l _ hn HL.out HS4.out).mono ?_; rintro e w' ⟨rfl, rfl⟩) | (go_at_call 28; refine (rread_any _ _ _ l _ hn HL.out HS4.out).mono ?_; rintro e w' ⟨rfl, rfl⟩) | (go_at_call 29; refine (valid_any _ _ HX.out).mono ?_; rintro e w' ⟨rfl, rfl⟩) | (go_at_call 30; refine (rvalid_any _ _ HX.out).mono ?_; rintro e w' ⟨rfl, rfl⟩) | (go_at_call 31; refine (samebytes_any _ _ _ _ _ _ (beb x 8) (beb x 8) _ (beb_lt x 8) (beb_lt x 8) HS2.out HS3.out).mono ?_; rintro e w' ⟨rfl, rfl⟩) | (go_at_call 24; refine (rsame_any _ _ _).mono ?_; rintro e w' ⟨rfl, rfl⟩) | (go_at_call 21; refine (known_any _).mono ?_; rintro e w' ⟨rfl, hb⟩))
    go_ret
    exact ⟨rfl, (hb1.out.trans (HB2.out.mono hb1.out.size)).trans (hb.mono (Nat.le_trans hb1.out.size HB2.out.size))⟩
end Go.Proofs.Ytfdjphinicafiaa.Sc
