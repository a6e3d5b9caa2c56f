/-
  What makes elements small.
-/
import Derived.Test.YteechlkccmcpfaaDoorFdCarry
import Derived.Deep.LoopGhost
import Derived.Test.YteechlkccmcpfaaDoorGnArr
namespace Go.Proofs.YteechlkccmcpfaaDoor.Fd
open Go.RowKit Go.Proofs.YteechlkccmcpfaaDoor.Gn Go.Deep
set_option linter.unusedVariables false

theorem E5.ext' {x y : E5} : x = y ↔ x.a = y.a ∧ x.b = y.b ∧ x.c = y.c ∧ x.d = y.d ∧ x.e = y.e := by
  obtain ⟨a, b, c, d, e⟩ := x
  obtain ⟨a', b', c', d', e'⟩ := y
  simp
instance : DecidableEq E5 := fun x y => decidable_of_iff _ E5.ext'.symm
/-- Two elements held against each other, limb by limb. -/
theorem equal5 (x y : E5) (w : World) : (Op.equalIn 10000 24 (.agg x.v) (.agg y.v)).run Tryd.prog w = .ok (decide (x = y)) w := by
  have h := run_equalIn_arr (P := Tryd.prog) 9998 (t := 24) (e := 22) (n := 5) (ik := .u64) Tryd.underlying24 Tryd.underlying22 (by kernel_rfl) w [(x.a : Int), x.b, x.c, x.d, x.e] [(y.a : Int), y.b, y.c, y.d, y.e] rfl rfl
  have e : decide ([(x.a : Int), x.b, x.c, x.d, x.e] = [(y.a : Int), y.b, y.c, y.d, y.e]) = decide (x = y) := by
    rw [decide_eq_decide, E5.ext']; simp; omega
  rw [← e]; exact h
theorem guard5 : Tryd.prog.eqGuardType Tryd.prog.depth 24 = false := by kernel_rfl
/-- The outer rounds of reduce. -/
def RedRel (x : E5) (g : Nat) (w0 : World) (n : Nat) (wr : World) : Prop :=
  ∃ y : E5, y.ok ∧ y.val % pp = x.val % pp ∧ y.sum < n ∧ Bl wr g 24 y.v ∧ w0.grownBy wr (some g)
def InRel (y : E5) (wr : World) (n : Nat) (i : Value) (wi : World) : Prop :=
  ∃ k : Nat, k + n = 6 ∧ i = .int .i64 (k : Int) ∧ k ≤ 5 ∧ (∀ j, j < k → y.l.getD j 0 < 2251799813685248) ∧ wi = wr
theorem E5.v_get (x : E5) {k : Nat} (hk : k < 5) : x.v[k]? = some (.int .u64 ((x.l.getD k 0 : Nat) : Int)) := by
  match k, hk with
  | 0, _ => rfl
  | 1, _ => rfl
  | 2, _ => rfl
  | 3, _ => rfl
  | 4, _ => rfl
theorem E5.low_of {x : E5} (h : ∀ j, j < 5 → x.l.getD j 0 < 2251799813685248) : x.low := ⟨h 0 (by decide), h 1 (by decide), h 2 (by decide), h 3 (by decide), h 4 (by decide)⟩
theorem E5.not_low {x : E5} (k : Nat) (hk : k < 5) (h : 2251799813685247 < x.l.getD k 0) : ¬ x.low := by
  intro ⟨h0, h1, h2, h3, h4⟩
  match k, hk with
  | 0, _ => exact absurd h (show ¬ _ < x.a by omega)
  | 1, _ => exact absurd h (show ¬ _ < x.b by omega)
  | 2, _ => exact absurd h (show ¬ _ < x.c by omega)
  | 3, _ => exact absurd h (show ¬ _ < x.d by omega)
  | 4, _ => exact absurd h (show ¬ _ < x.e by omega)
set_option maxHeartbeats 1000000 in
theorem reduce_any (g : Nat) (x : E5) (w : World) (hx : x.ok) (hb : Bl w g 24 x.v) :
    Calls Tryd.prog 49 #[.pointer (some ⟨g, 0, none⟩)] w fun e w' => e = .returned (.tuple #[]) ∧ Bl w' g 24 (el (x.val % pp)).v ∧ w.grownBy w' (some g) := by
  have HX := Lib.hid hx
  have HB := Lib.hid hb
  clear hx hb
  go_enter Tryd.func49, Tryd.ntmps49
  go_wp2
  go_step3
  go_wp2
  go_step3
  go_wp2
  go_loopg [] (x.sum + 1) (fun n wr => RedRel x g w n wr)
  case atStart => exact ⟨x, HX.out, rfl, by omega, HB.out, World.grownBy.refl w _⟩
  case round =>
    obtain ⟨y, hok, hval, hsum, hbl, hgr⟩ := hrel
    have HOK := Lib.hid hok
    have HV := Lib.hid hval
    have HS := Lib.hid hsum
    have HBL := Lib.hid hbl
    have HG := Lib.hid hgr
    clear hok hval hsum hbl hgr
    obtain ⟨wo, rfl⟩ : ∃ wo : World, wo = wr := ⟨_, rfl⟩
    obtain ⟨go, rfl⟩ : ∃ go : Nat, go = gk := ⟨_, rfl⟩
    go_wp2
    go_loopg [3] 6 (fun n i wi => InRel y wo n i wi)
    case atStart => exact ⟨0, rfl, rfl, by decide, fun j h => absurd h (by omega), rfl⟩
    case round =>
      obtain ⟨k, hkn, rfl, hk, hlow, rfl⟩ := hrel
      have HL := Lib.hid hlow
      clear hlow
      by_cases hlt : k < 5
      · obtain ⟨v, hv⟩ : ∃ v, y.l.getD k 0 = v := ⟨_, rfl⟩
        have c1 : wr.cell? ⟨g, k, none⟩ = some (.int .u64 (v : Int)) := by rw [← hv]; exact HBL.out.cell_ (y.v_get hlt)
        have HVV := Lib.hid hv
        clear hv
        by_cases h : 2251799813685247 < v
        · have t : decide ((2251799813685247 : Int) < (v : Int)) = true := by simp; omega
          have H := Lib.hid h
          clear h
          go_wp2_with (go_at_call 68; refine (carry_any g y _ HOK.out HBL.out).mono ?_; rintro e w' ⟨rfl, hb', hg'⟩)
          go_roundg (go - 1)
          case rel => exact ⟨y.carry, (E5.carry_light HOK.out).ok, (E5.carry_val y).trans HV.out, by have := E5.carry_sum (E5.not_low k hlt (by rw [HVV.out]; exact H.out)); have := HS.out; omega, hb', only_trans HG.out hg'⟩
          case measure => have := HS.out; omega
        · have t : decide ((2251799813685247 : Int) < (v : Int)) = false := by simp; omega
          have H := Lib.hid h
          clear h
          go_wp2
          go_roundg (gk - 1)
          case rel =>
            refine ⟨k + 1, by omega, by go_num, by omega, fun j hj => ?_, rfl⟩
            by_cases e : j = k
            · subst e; rw [HVV.out]; have := H.out; omega
            · exact HL.out j (by omega)
          case measure => omega
      · obtain rfl : k = 5 := by omega
        have HLOW := Lib.hid (E5.low_of HL.out)
        have c0 : wr.cell? ⟨g, 0, none⟩ = some (.int .u64 (y.a : Int)) := HBL.out.cell_ rfl
        have c1 : wr.cell? ⟨g, 1, none⟩ = some (.int .u64 (y.b : Int)) := HBL.out.cell_ rfl
        have c2 : wr.cell? ⟨g, 2, none⟩ = some (.int .u64 (y.c : Int)) := HBL.out.cell_ rfl
        have c3 : wr.cell? ⟨g, 3, none⟩ = some (.int .u64 (y.d : Int)) := HBL.out.cell_ rfl
        have c4 : wr.cell? ⟨g, 4, none⟩ = some (.int .u64 (y.e : Int)) := HBL.out.cell_ rfl
        by_cases h : 2251799813685229 ≤ y.a
        · have t : decide ((2251799813685229 : Int) ≤ (y.a : Int)) = true := by simp; omega
          have G1 := guard5
          by_cases h2 : y.b = 2251799813685247 ∧ y.c = 2251799813685247 ∧ y.d = 2251799813685247 ∧ y.e = 2251799813685247
          · have G2 : ∀ w, (Op.equalIn 10000 24 (.agg #[.int .u64 (y.a : Int), .int .u64 (y.b : Int), .int .u64 (y.c : Int), .int .u64 (y.d : Int), .int .u64 (y.e : Int)]) (.agg #[.int .u64 (y.a : Int), .int .u64 2251799813685247, .int .u64 2251799813685247, .int .u64 2251799813685247, .int .u64 2251799813685247])).run Tryd.prog w = .ok true w := fun w => by
              have := equal5 y ⟨y.a, 2251799813685247, 2251799813685247, 2251799813685247, 2251799813685247⟩ w
              rw [show decide (y = ⟨y.a, 2251799813685247, 2251799813685247, 2251799813685247, 2251799813685247⟩) = true from decide_eq_true (E5.ext'.2 ⟨rfl, h2⟩)] at this
              exact this
            have H := Lib.hid h
            have H2 := Lib.hid h2
            have e0 : IntKind.u64.wrap ((y.a : Int) - 2251799813685229) = ((y.a - 2251799813685229 : Nat) : Int) := by rw [IntKind.wrap_u64]; have := HLOW.out.1; omega
            clear h h2
            go_wp2
            have f0 : wr.frozen? ⟨g, 0, none⟩ = false := HBL.out.frozen 0
            have f1 : wr.frozen? ⟨g, 1, none⟩ = false := HBL.out.frozen 1
            have f2 : wr.frozen? ⟨g, 2, none⟩ = false := HBL.out.frozen 2
            have f3 : wr.frozen? ⟨g, 3, none⟩ = false := HBL.out.frozen 3
            have f4 : wr.frozen? ⟨g, 4, none⟩ = false := HBL.out.frozen 4
            go_quiet (fail)
            go_wp2
            rw [Exit.noGoto_normal]
            go_end0
            have e := red_great HLOW.out ⟨H.out, H2.out⟩
            rw [HV.out] at e
            refine ⟨rfl, ?_, ?_⟩
            · rw [← e]
              exact (((((HBL.out.drewN nq).set_ 0 (.int .u64 ((y.a - 2251799813685229 : Nat) : Int))).set_ 1 (.int .u64 0)).set_ 2 (.int .u64 0)).set_ 3 (.int .u64 0)).set_ 4 (.int .u64 0)
            · exact only_set (p := ⟨g, 4, none⟩) (only_set (p := ⟨g, 3, none⟩) (only_set (p := ⟨g, 2, none⟩) (only_set (p := ⟨g, 1, none⟩) (only_set (p := ⟨g, 0, none⟩) (only_drewN HG.out nq) (.inl rfl) _) (.inl rfl) _) (.inl rfl) _) (.inl rfl) _) (.inl rfl) _
          · have G2 : ∀ w, (Op.equalIn 10000 24 (.agg #[.int .u64 (y.a : Int), .int .u64 (y.b : Int), .int .u64 (y.c : Int), .int .u64 (y.d : Int), .int .u64 (y.e : Int)]) (.agg #[.int .u64 (y.a : Int), .int .u64 2251799813685247, .int .u64 2251799813685247, .int .u64 2251799813685247, .int .u64 2251799813685247])).run Tryd.prog w = .ok false w := fun w => by
              have := equal5 y ⟨y.a, 2251799813685247, 2251799813685247, 2251799813685247, 2251799813685247⟩ w
              rw [show decide (y = ⟨y.a, 2251799813685247, 2251799813685247, 2251799813685247, 2251799813685247⟩) = false from decide_eq_false (fun e => h2 (E5.ext'.1 e).2)] at this
              exact this
            have H := Lib.hid h
            have H2 := Lib.hid h2
            clear h h2
            go_wp2
            go_quiet (fail)
            go_wp2
            rw [Exit.noGoto_normal]
            go_end0
            have e := red_small HLOW.out (fun h => H2.out h.2)
            rw [HV.out] at e
            exact ⟨rfl, by rw [← e]; exact HBL.out.drewN _, only_drewN HG.out _⟩
        · have t : decide ((2251799813685229 : Int) ≤ (y.a : Int)) = false := by simp; omega
          have H := Lib.hid h
          clear h
          go_wp2
          go_quiet (fail)
          go_wp2
          rw [Exit.noGoto_normal]
          go_end0
          have e := red_small HLOW.out (fun h => H.out h.1)
          rw [HV.out] at e
          exact ⟨rfl, by rw [← e]; exact HBL.out.drewN _, only_drewN HG.out _⟩
end Go.Proofs.YteechlkccmcpfaaDoor.Fd
