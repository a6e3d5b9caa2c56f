/-
  Products of elements.
-/
import Derived.Test.YteechlkccmcpfaaDoorFdElem
namespace Go.Proofs.YteechlkccmcpfaaDoor.Fd
open Go.RowKit Go.Proofs.YteechlkccmcpfaaDoor.Gn Go.Deep
set_option linter.unusedVariables false

theorem sb_zero (v : Nat) : sb 0 v = ng v := by unfold sb ng; rw [Nat.zero_add]
set_option maxHeartbeats 1000000 in
theorem Neg_any (x : E5) (w : World) (hx : x.ok) :
    Calls Tryd.prog 27 #[.agg x.v] w fun e w' => e = .returned (.agg (el (ng x.val)).v) ∧ Below w.heap.size w w' := by
  have z0 : (⟨0, 0, 0, 0, 0⟩ : E5).ok := by unfold E5.ok; decide
  have S := fun w => Sub_any ⟨0, 0, 0, 0, 0⟩ x w z0 hx
  rw [show (⟨0, 0, 0, 0, 0⟩ : E5).val = 0 from rfl, sb_zero] at S
  obtain ⟨r, hr⟩ : ∃ r, el (ng x.val) = r := ⟨_, rfl⟩
  simp only [hr] at S
  rw [hr]
  clear hr hx z0
  have S := Lib.hid (show ∀ w, Calls Tryd.prog 25 #[.agg #[.int .u64 0, .int .u64 0, .int .u64 0, .int .u64 0, .int .u64 0], .agg #[.int .u64 (x.a : Int), .int .u64 (x.b : Int), .int .u64 (x.c : Int), .int .u64 (x.d : Int), .int .u64 (x.e : Int)]] w fun e w' => e = .returned (.agg #[.int .u64 (r.a : Int), .int .u64 (r.b : Int), .int .u64 (r.c : Int), .int .u64 (r.d : Int), .int .u64 (r.e : Int)]) ∧ Below w.heap.size w w' from S)
  obtain ⟨⟨a0, a1, a2, a3, a4⟩, -⟩ := cells5 (show Bl ((w.alloc (.cells x.v 24)).alloc (.cells z5 24)) w.heap.size 24 #[.int .u64 (x.a : Int), .int .u64 (x.b : Int), .int .u64 (x.c : Int), .int .u64 (x.d : Int), .int .u64 (x.e : Int)] from (Bl.new_ w _ x.v).alloc _)
  have HZ := Lib.hid (show Bl ((w.alloc (.cells x.v 24)).alloc (.cells z5 24)) (w.heap.size + 1) 24 z5 from Bl.new' _ _ (by simp))
  unfold z5 at a0 a1 a2 a3 a4
  go_enter Tryd.func27, Tryd.ntmps27
  go_wp2_with (go_at_call 25; (with_reducible refine (S.out _).mono ?_); rintro e w1 ⟨rfl, hb1⟩; have hz1 := HZ.out.below' hb1; obtain ⟨⟨r0, r1, r2, r3, r4⟩, f0, f1, f2, f3, f4⟩ := cells5 hz1; have HB1 := Lib.hid hb1; clear hb1 hz1)
  have hB := ((Below.refl w.heap.size w).alloc (Nat.le_refl _) (.cells x.v 24)).alloc (by simp) (.cells z5 24)
  refine bodyPost_ret (v := .agg r.v) ?_ rfl ⟨rfl, set5_below (hB.trans (HB1.out.mono (by simp; omega))) (by omega) _ _ _ _ _⟩
  simp [results, Tryd.results27, go_sem, E5.v, r0, r1, r2, r3, r4]

/-- Five sums in memory. -/
def E5.wv (x : E5) : Array Value := #[.int .u64 ((x.a / 18446744073709551616 : Nat) : Int), .int .u64 ((x.a % 18446744073709551616 : Nat) : Int), .int .u64 ((x.b / 18446744073709551616 : Nat) : Int), .int .u64 ((x.b % 18446744073709551616 : Nat) : Int), .int .u64 ((x.c / 18446744073709551616 : Nat) : Int), .int .u64 ((x.c % 18446744073709551616 : Nat) : Int), .int .u64 ((x.d / 18446744073709551616 : Nat) : Int), .int .u64 ((x.d % 18446744073709551616 : Nat) : Int), .int .u64 ((x.e / 18446744073709551616 : Nat) : Int), .int .u64 ((x.e % 18446744073709551616 : Nat) : Int)]
theorem E5.wv_hi (x : E5) {k : Nat} (hk : k < 5) : x.wv[k * 2]? = some (.int .u64 ((x.l.getD k 0 / 18446744073709551616 : Nat) : Int)) := by
  match k, hk with
  | 0, _ => rfl
  | 1, _ => rfl
  | 2, _ => rfl
  | 3, _ => rfl
  | 4, _ => rfl
theorem E5.wv_lo (x : E5) {k : Nat} (hk : k < 5) : x.wv[k * 2 + 1]? = some (.int .u64 ((x.l.getD k 0 % 18446744073709551616 : Nat) : Int)) := by
  match k, hk with
  | 0, _ => rfl
  | 1, _ => rfl
  | 2, _ => rfl
  | 3, _ => rfl
  | 4, _ => rfl
theorem E5.wide_get {x : E5} (h : x.wide) {k : Nat} (hk : k < 5) : x.l.getD k 0 < 649037107316853453566312041152512 := by
  obtain ⟨h0, h1, h2, h3, h4⟩ := h
  match k, hk with
  | 0, _ => exact h0
  | 1, _ => exact h1
  | 2, _ => exact h2
  | 3, _ => exact h3
  | 4, _ => exact h4
/-- What narrow hands on. -/
theorem E5.nar_carry (x : E5) : x.nar = x.carry := rfl
theorem E5.ov_wide {x : E5} (h : x.wide) (k : Nat) (hk : k ≤ 5) : x.ov k < 9223372036854775808 := by
  cases k with
  | zero => have := h.2.2.2.2; show 19 * (x.e / 2251799813685248) < _; omega
  | succ k => have := E5.wide_get h (k := k) (by omega); show x.l.getD k 0 / 2251799813685248 < _; omega
def zu (x : E5) (k : Nat) : List Nat := x.carry.l.take k ++ List.replicate (5 - k) 0
theorem zu_get (x : E5) {k : Nat} (hk : k < 5) : (nl (zu x k)).toArray[k]? = some (.int .u64 0) := by
  match k, hk with
  | 0, _ => rfl
  | 1, _ => rfl
  | 2, _ => rfl
  | 3, _ => rfl
  | 4, _ => rfl
theorem zu_set (x : E5) {k : Nat} (hk : k < 5) : (nl (zu x k)).toArray.setIfInBounds k (.int .u64 ((x.l.getD k 0 % 2251799813685248 + x.ov k : Nat) : Int)) = (nl (zu x (k + 1))).toArray := by
  match k, hk with
  | 0, _ => rfl
  | 1, _ => rfl
  | 2, _ => rfl
  | 3, _ => rfl
  | 4, _ => rfl
theorem zu_five (x : E5) : (nl (zu x 5)).toArray = x.carry.v := rfl
def NarRel (x : E5) (h g : Nat) (w0 : World) (o i : Value) (wr : World) : Prop :=
  ∃ k : Nat, k ≤ 5 ∧ i = .int .i64 (k : Int) ∧ o = .int .u64 ((x.ov k : Nat) : Int) ∧ Bl wr h 73 x.wv ∧ Bl wr g 24 (nl (zu x k)).toArray ∧ Below g w0 wr
set_option maxHeartbeats 2000000 in
theorem narrow_any (h : Nat) (x : E5) (w : World) (hx : x.wide) (hb : Bl w h 73 x.wv) :
    Calls Tryd.prog 58 #[.pointer (some ⟨h, 0, none⟩)] w fun e w' => e = .returned (.agg (el (x.val % pp)).v) ∧ Below w.heap.size w w' := by
  have HX := Lib.hid hx
  have hlt := hb.lt
  have HB := Lib.hid (hb.alloc (.cells z5 24))
  have c8 : (w.alloc (.cells z5 24)).cell? ⟨h, 8, none⟩ = some (.int .u64 ((x.e / 18446744073709551616 : Nat) : Int)) := (hb.alloc _).cell_ rfl
  have c9 : (w.alloc (.cells z5 24)).cell? ⟨h, 9, none⟩ = some (.int .u64 ((x.e % 18446744073709551616 : Nat) : Int)) := (hb.alloc _).cell_ rfl
  unfold z5 at c8 c9
  have A4 := Lib.hid (fun w => above_any x.e w (by have := hx.2.2.2.2; omega))
  obtain ⟨q, hq⟩ : ∃ q, x.e / 2251799813685248 = q := ⟨_, rfl⟩
  have k0 : IntKind.u64.wrap (19 * (q : Int)) = ((x.ov 0 : Nat) : Int) := by
    have := E5.ov_wide hx 0 (by decide)
    have e : x.ov 0 = 19 * q := by rw [← hq]; rfl
    rw [IntKind.wrap_u64]; omega
  rw [hq] at A4
  obtain ⟨r, hr⟩ : ∃ r, el (x.val % pp) = r := ⟨_, rfl⟩
  have HR := Lib.hid hr
  rw [hr]
  clear hx hb hq hr
  go_enter Tryd.func58, Tryd.ntmps58
  go_wp2_with (go_at_call 69; refine (A4.out _).mono ?_; rintro e w1 ⟨rfl, hb1⟩)
  have b1 := HB.out.below' hb1
  have g1 := (Bl.new_ w 24 z5).below' hb1
  have B1 := Lib.hid (show Below w.heap.size w w1 from ((Below.refl w.heap.size w).alloc (Nat.le_refl _) (.cells z5 24)).trans (hb1.mono (by simp)))
  have HB1 := Lib.hid b1
  have HG1 := Lib.hid g1
  clear b1 g1 hb1 c8 c9 k0 A4 HB
  have hlt' := hlt
  go_loopw [3, 11] (fun o i wr => NarRel x h w.heap.size w1 o i wr) (fun _ i _ => 5 - (intOf i).toNat)
  case atStart => exact ⟨0, by decide, rfl, rfl, HB1.out, HG1.out, Below.refl _ _⟩
  case round =>
    obtain ⟨k, hk, rfl, rfl, hb1, hg1, hbw⟩ := hrel
    have HC1 := Lib.hid hb1
    have HC2 := Lib.hid hg1
    have HC3 := Lib.hid hbw
    clear hbw
    by_cases hlt : k < 5
    · obtain ⟨t, ht⟩ : ∃ t, x.l.getD k 0 = t := ⟨_, rfl⟩
      obtain ⟨o, ho⟩ : ∃ o, x.ov k = o := ⟨_, rfl⟩
      have lt_ : t < 649037107316853453566312041152512 := ht ▸ E5.wide_get HX.out hlt
      have lo : o < 9223372036854775808 := ho ▸ E5.ov_wide HX.out k hk
      have A := Lib.hid (fun w => above_any t w (by omega))
      have d1 := hb1.cell_ (E5.wv_hi x hlt)
      have d2 := hb1.cell_ (E5.wv_lo x hlt)
      have d3 := hg1.cell_ (zu_get x hlt)
      have d4 := hg1.frozen k
      rw [ht] at d1 d2
      obtain ⟨l, hl⟩ : ∃ l, t % 18446744073709551616 = l := ⟨_, rfl⟩
      obtain ⟨hi, hhi⟩ : ∃ hi, t / 18446744073709551616 = hi := ⟨_, rfl⟩
      obtain ⟨m, hm⟩ : ∃ m, t % 2251799813685248 = m := ⟨_, rfl⟩
      have e1 : bits .and .u64 (l : Int) 2251799813685247 = (m : Int) := by rw [and_low l (by omega), show l % 2251799813685248 = m by omega]
      have e2 : IntKind.u64.wrap ((m : Int) + (o : Int)) = ((m + o : Nat) : Int) := by rw [IntKind.wrap_u64]; omega
      have EQ := Lib.hid (show x.ov (k + 1) = t / 2251799813685248 by show x.l.getD k 0 / _ = _; rw [ht])
      have ES := Lib.hid (show (nl (zu x k)).toArray.setIfInBounds k (.int .u64 ((m + o : Nat) : Int)) = (nl (zu x (k + 1))).toArray by rw [← zu_set x hlt, ht, ho, hm])
      have HO := Lib.hid ho
      have HA := Lib.hid (show wv t = .agg #[.int .u64 (hi : Int), .int .u64 (l : Int)] from wv_of hhi hl)
      rw [hl] at d2
      rw [hhi] at d1
      rw [HA.out] at A
      obtain ⟨q, hq⟩ : ∃ q, t / 2251799813685248 = q := ⟨_, rfl⟩
      rw [hq] at A EQ
      clear hb1 hg1 ht ho lt_ lo hl hhi hm hq HA
      rw [HO.out]
      go_wp2_with (go_at_call 69; refine (A.out _).mono ?_; rintro e w2 ⟨rfl, hb2⟩)
      have HB2 := Lib.hid hb2
      clear hb2
      go_roundw
      case rel =>
        refine ⟨k + 1, by omega, by go_num, by rw [EQ.out], ?_, ?_, ?_⟩
        · exact (HC1.out.other (p := ⟨w.heap.size, k, none⟩) (by simp; omega) _).below' HB2.out
        · rw [← ES.out]; exact (HC2.out.set_ k _).below' HB2.out
        · exact (HC3.out.setCell (p := ⟨w.heap.size, k, none⟩) (Nat.le_refl _) _).trans (HB2.out.mono (by have := HC2.out.lt; simp [World.setCell]; omega))
      case measure => simp [intOf]; omega
    · obtain rfl : k = 5 := by omega
      clear hb1 hg1
      go_wp2_with fail
      have hb1 := HC2.out
      rw [zu_five] at hb1
      refine (reduce_any _ _ _ (by rw [← E5.nar_carry]; exact E5.nar_ok HX.out) hb1).mono ?_
      rintro e w3 ⟨rfl, b1, g3⟩
      rw [E5.carry_val, HR.out] at b1
      have b4 := Lib.hid (show Below w.heap.size w w3 from (B1.out.trans HC3.out).grown g3 (B1.out.trans HC3.out).size (by simp))
      clear g3 hb1
      obtain ⟨⟨a0, a1, a2, a3, a4⟩, f0, f1, f2, f3, f4⟩ := cells5 b1
      clear b1
      go_wp2
      refine bodyPost_ret (v := .agg r.v) ?_ rfl ⟨rfl, set5_below b4.out (by omega) _ _ _ _ _⟩
      simp [results, Tryd.results58, go_sem, E5.v, a0, a1, a2, a3, a4]
end Go.Proofs.YteechlkccmcpfaaDoor.Fd
