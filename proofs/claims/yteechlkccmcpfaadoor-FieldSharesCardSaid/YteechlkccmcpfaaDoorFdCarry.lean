/-
  Elements in memory: carrying, and what makes them small.
-/
import Derived.Test.YteechlkccmcpfaaDoorFdWord
import Derived.BigRegion
import Derived.RegionTactic
import Derived.ChangeAlike
namespace Go.Proofs.YteechlkccmcpfaaDoor.Fd
open Go.RowKit Go.Proofs.YteechlkccmcpfaaDoor.Gn Go.Deep
set_option linter.unusedVariables false

theorem only_drew {w a : World} {row : Option Nat} (h : w.grownBy a row) : w.grownBy a.drew row := ⟨h.os, h.tape, h.output, h.size, h.block⟩
/-- Words as values. -/
def nl (l : List Nat) : List Value := l.map fun (x : Nat) => Value.int .u64 (x : Int)
def E5.l (x : E5) : List Nat := [x.a, x.b, x.c, x.d, x.e]
/-- An element as a value's parts. -/
def E5.v (x : E5) : Array Value := #[.int .u64 (x.a : Int), .int .u64 (x.b : Int), .int .u64 (x.c : Int), .int .u64 (x.d : Int), .int .u64 (x.e : Int)]
/-- What carry hands on to a limb. -/
def E5.ov (x : E5) : Nat → Nat
  | 0 => 19 * (x.e / 2251799813685248)
  | k + 1 => x.l.getD k 0 / 2251799813685248
/-- Carried up to a limb. -/
def E5.upto (x : E5) (k : Nat) : List Nat := x.carry.l.take k ++ x.l.drop k
theorem E5.upto_zero (x : E5) : (nl (x.upto 0)).toArray = x.v := rfl
theorem E5.upto_five (x : E5) : (nl (x.upto 5)).toArray = x.carry.v := rfl
theorem E5.upto_get (x : E5) {k : Nat} (hk : k < 5) : (nl (x.upto k)).toArray[k]? = some (.int .u64 ((x.l.getD k 0 : Nat) : Int)) := by
  match k, hk with
  | 0, _ => rfl
  | 1, _ => rfl
  | 2, _ => rfl
  | 3, _ => rfl
  | 4, _ => rfl
theorem E5.upto_set (x : E5) {k : Nat} (hk : k < 5) : (nl (x.upto k)).toArray.setIfInBounds k (.int .u64 ((x.l.getD k 0 % 2251799813685248 + x.ov k : Nat) : Int)) = (nl (x.upto (k + 1))).toArray := by
  match k, hk with
  | 0, _ => rfl
  | 1, _ => rfl
  | 2, _ => rfl
  | 3, _ => rfl
  | 4, _ => rfl
theorem E5.get_lt {x : E5} (h : x.ok) (k : Nat) (hk : k < 5) : x.l.getD k 0 < 18446744073709551616 := by
  obtain ⟨h0, h1, h2, h3, h4⟩ := h
  match k, hk with
  | 0, _ => exact h0
  | 1, _ => exact h1
  | 2, _ => exact h2
  | 3, _ => exact h3
  | 4, _ => exact h4
theorem E5.ov_lt {x : E5} (h : x.ok) (k : Nat) (hk : k ≤ 5) : x.ov k < 262144 := by
  cases k with
  | zero => have := h.2.2.2.2; show 19 * (x.e / 2251799813685248) < _; omega
  | succ k => have := E5.get_lt h k (by omega); show x.l.getD k 0 / 2251799813685248 < _; omega
/-- The rounds of carry. -/
def CaRel (x : E5) (g : Nat) (w0 : World) (o i : Value) (wr : World) : Prop :=
  ∃ k : Nat, k ≤ 5 ∧ i = .int .i64 (k : Int) ∧ o = .int .u64 ((x.ov k : Nat) : Int) ∧ Bl wr g 24 (nl (x.upto k)).toArray ∧ w0.grownBy wr (some g)
set_option maxHeartbeats 1000000 in
theorem carry_any (g : Nat) (x : E5) (w : World) (hx : x.ok) (hb : Bl w g 24 x.v) :
    Calls Tryd.prog 68 #[.pointer (some ⟨g, 0, none⟩)] w fun e w' => e = .returned (.tuple #[]) ∧ Bl w' g 24 x.carry.v ∧ w.grownBy w' (some g) := by
  have HX := Lib.hid hx
  have HB := Lib.hid hb
  have c4 : w.cell? ⟨g, 4, none⟩ = some (.int .u64 (x.e : Int)) := hb.cell_ rfl
  have k0 : (19 : Int) * ((x.e : Int) / 2251799813685248) = ((x.ov 0 : Nat) : Int) := by show _ = ((19 * (x.e / 2251799813685248) : Nat) : Int); omega
  have kw : IntKind.u64.wrap ((x.ov 0 : Nat) : Int) = ((x.ov 0 : Nat) : Int) := by rw [IntKind.wrap_u64]; have := E5.ov_lt hx 0 (by decide); omega
  clear hx hb
  go_enter Tryd.func68, Tryd.ntmps68
  go_wp2
  go_loopw [2, 10] (fun o i wr => CaRel x g w o i wr) (fun _ i _ => 5 - (intOf i).toNat)
  case atStart => exact ⟨0, by decide, rfl, rfl, HB.out, World.grownBy.refl w _⟩
  case round =>
    obtain ⟨k, hk, rfl, rfl, hbl, hgr⟩ := hrel
    have HBL := Lib.hid hbl
    have HG := Lib.hid hgr
    clear hgr k0 kw c4
    by_cases hlt : k < 5
    · obtain ⟨y, hy⟩ : ∃ y, x.l.getD k 0 = y := ⟨_, rfl⟩
      obtain ⟨o, ho⟩ : ∃ o, x.ov k = o := ⟨_, rfl⟩
      have hyl : y < 18446744073709551616 := hy ▸ E5.get_lt HX.out k hlt
      have hol : o < 262144 := ho ▸ E5.ov_lt HX.out k hk
      obtain ⟨r, hr⟩ : ∃ r, y % 2251799813685248 = r := ⟨_, rfl⟩
      obtain ⟨q, hq⟩ : ∃ q, y / 2251799813685248 = q := ⟨_, rfl⟩
      have e1 : bits .and .u64 (y : Int) 2251799813685247 = (r : Int) := by rw [and_low y hyl, hr]
      have e2 : IntKind.u64.wrap ((r : Int) + (o : Int)) = ((r + o : Nat) : Int) := by rw [IntKind.wrap_u64]; omega
      have e3 : (y : Int) / 2251799813685248 = (q : Int) := by omega
      have c1 : wr.cell? ⟨g, k, none⟩ = some (.int .u64 (y : Int)) := by rw [← hy]; exact hbl.cell_ (x.upto_get hlt)
      have c2 : wr.frozen? ⟨g, k, none⟩ = false := hbl.frozen k
      have EQ := Lib.hid (show x.ov (k + 1) = q by show x.l.getD k 0 / 2251799813685248 = q; rw [hy, hq])
      have ES := Lib.hid (show (nl (x.upto k)).toArray.setIfInBounds k (.int .u64 ((r + o : Nat) : Int)) = (nl (x.upto (k + 1))).toArray by rw [← x.upto_set hlt, hy, ho, hr])
      have HO := Lib.hid ho
      clear hbl hy hr hq hyl hol ho
      rw [HO.out]
      go_wp2
      go_region
      all_goals
        go_wp2
        go_roundw
        case rel =>
          refine ⟨k + 1, by omega, by go_num, by rw [EQ.out], ?_, ?_⟩
          · rw [← ES.out]; exact HBL.out.set_ k _
          · exact only_drew (only_set (p := ⟨g, k, none⟩) HG.out (.inl rfl) _)
        case measure => simp [intOf]; omega
    · obtain rfl : k = 5 := by omega
      go_wp2
      go_end0
      exact ⟨rfl, by have := HBL.out; rwa [x.upto_five] at this, HG.out⟩
theorem or_div (a b : Nat) : (a ||| b) / 2251799813685248 = 0 → a < 2251799813685248 ∧ b < 2251799813685248 := by
  intro h
  have h1 : a ||| b < 2251799813685248 := by omega
  exact ⟨Nat.lt_of_le_of_lt Nat.left_le_or h1, Nat.lt_of_le_of_lt Nat.right_le_or h1⟩
theorem or_u64 (a b : Nat) (ha : a < 18446744073709551616) (hb : b < 18446744073709551616) : bits .or .u64 (a : Int) (b : Int) = ((a ||| b : Nat) : Int) ∧ a ||| b < 18446744073709551616 :=
  ⟨bits_or_u64_nat a b ha hb, Nat.or_lt_two_pow (n := 64) ha hb⟩
/-- What lighten and reduce leave: an element that is the same modulo the prime. -/
def Same5 (x y : E5) : Prop := y.val % pp = x.val % pp
/-- What lighten leaves. -/
def LightP (x : E5) (g : Nat) (w : World) (e : Ending) (w' : World) : Prop :=
  e = .returned (.tuple #[]) ∧ ∃ y : E5, y.light ∧ y.val % pp = x.val % pp ∧ Bl w' g 24 y.v ∧ w.grownBy w' (some g)
set_option maxHeartbeats 1000000 in
theorem lighten_any (g : Nat) (x : E5) (w : World) (hx : x.ok) (hb : Bl w g 24 x.v) :
    Calls Tryd.prog 56 #[.pointer (some ⟨g, 0, none⟩)] w (LightP x g w) := by
  obtain ⟨h0, h1, h2, h3, h4⟩ := id hx
  obtain ⟨E1, b1⟩ := or_u64 x.a x.b h0 h1
  obtain ⟨E2, b2⟩ := or_u64 (x.a ||| x.b) x.c b1 h2
  obtain ⟨E3, b3⟩ := or_u64 (x.a ||| x.b ||| x.c) x.d b2 h3
  obtain ⟨E4, b4⟩ := or_u64 (x.a ||| x.b ||| x.c ||| x.d) x.e b3 h4
  obtain ⟨o, ho⟩ : ∃ o, (x.a ||| x.b ||| x.c ||| x.d ||| x.e) / 2251799813685248 = o := ⟨_, rfl⟩
  have F5 : ((x.a ||| x.b ||| x.c ||| x.d ||| x.e : Nat) : Int) / 2251799813685248 = (o : Int) := by omega
  have c0 : w.cell? ⟨g, 0, none⟩ = some (.int .u64 (x.a : Int)) := hb.cell_ rfl
  have c1 : w.cell? ⟨g, 1, none⟩ = some (.int .u64 (x.b : Int)) := hb.cell_ rfl
  have c2 : w.cell? ⟨g, 2, none⟩ = some (.int .u64 (x.c : Int)) := hb.cell_ rfl
  have c3 : w.cell? ⟨g, 3, none⟩ = some (.int .u64 (x.d : Int)) := hb.cell_ rfl
  have c4 : w.cell? ⟨g, 4, none⟩ = some (.int .u64 (x.e : Int)) := hb.cell_ rfl
  have LOW := Lib.hid (show o = 0 → x.low by
    intro h
    rw [h] at ho
    obtain ⟨p4, q4⟩ := or_div _ _ ho
    obtain ⟨p3, q3⟩ := or_div _ _ (show (x.a ||| x.b ||| x.c ||| x.d) / 2251799813685248 = 0 by omega)
    obtain ⟨p2, q2⟩ := or_div _ _ (show (x.a ||| x.b ||| x.c) / 2251799813685248 = 0 by omega)
    obtain ⟨p1, q1⟩ := or_div _ _ (show (x.a ||| x.b) / 2251799813685248 = 0 by omega)
    exact ⟨p1, q1, q2, q3, q4⟩)
  have HX := Lib.hid hx
  have HB := Lib.hid hb
  generalize x.a ||| x.b = o1 at *
  generalize o1 ||| x.c = o2 at *
  generalize o2 ||| x.d = o3 at *
  generalize o3 ||| x.e = o4 at *
  clear b1 b2 b3 b4 h0 h1 h2 h3 h4 ho hx hb
  by_cases hz : o = 0
  · have g0 : ((o : Int) != 0) = false := by subst hz; decide
    have HZ := Lib.hid hz
    clear hz
    go_enter Tryd.func56, Tryd.ntmps56
    go_wp2_with fail
    go_quiet (fail)
    go_wp2
    go_end0
    exact ⟨rfl, x, (LOW.out HZ.out).light, rfl, HB.out.drewN _, only_drewN (World.grownBy.refl w _) _⟩
  · have g0 : ((o : Int) != 0) = true := by simp; omega
    clear hz
    go_enter Tryd.func56, Tryd.ntmps56
    go_wp2_with fail
    go_quiet (fail)
    go_wp2_with (go_at_call 68; refine (carry_any g x _ HX.out (HB.out.drewN _)).mono ?_; rintro e w' ⟨rfl, hb', hg'⟩)
    go_end0
    exact ⟨rfl, x.carry, E5.carry_light HX.out, E5.carry_val x, hb', only_trans (only_drewN (World.grownBy.refl w _) _) hg'⟩
end Go.Proofs.YteechlkccmcpfaaDoor.Fd
