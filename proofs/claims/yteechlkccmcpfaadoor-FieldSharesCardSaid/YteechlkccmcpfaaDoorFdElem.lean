/-
  Elements by value: small ones, sums, differences, which are the same.
-/
import Derived.Test.YteechlkccmcpfaaDoorFdReduce
import Derived.Test.YteechlkccmcpfaaDoorFdRoots
import Derived.Deep.RegionHeld3
namespace Go.Proofs.YteechlkccmcpfaaDoor.Fd
open Go.RowKit Go.Proofs.YteechlkccmcpfaaDoor.Gn Go.Deep
set_option linter.unusedVariables false

/-- What is stored into a result that lies in memory. -/
theorem set5 {z : Array Value} (h : z.size = 5) (a b c d e : Value) : ((((z.setIfInBounds 0 a).setIfInBounds 1 b).setIfInBounds 2 c).setIfInBounds 3 d).setIfInBounds 4 e = #[a, b, c, d, e] := by
  obtain ⟨l⟩ := z
  match l, h with
  | [_, _, _, _, _], _ => simp [List.setIfInBounds_toArray]
theorem set5_bl {w : World} {g : Nat} {t : TypeId} {z : Array Value} (hm : Bl w g t z) (h : z.size = 5) (a b c d e : Value) :
    Bl (((((w.setCell ⟨g, 0, none⟩ a).setCell ⟨g, 1, none⟩ b).setCell ⟨g, 2, none⟩ c).setCell ⟨g, 3, none⟩ d).setCell ⟨g, 4, none⟩ e) g t #[a, b, c, d, e] := by
  have := ((((hm.set_ 0 a).set_ 1 b).set_ 2 c).set_ 3 d).set_ 4 e
  rwa [set5 h] at this
theorem set5_below {B : Nat} {w0 w : World} {g : Nat} (hb : Below B w0 w) (hg : B ≤ g) (a b c d e : Value) :
    Below B w0 (((((w.setCell ⟨g, 0, none⟩ a).setCell ⟨g, 1, none⟩ b).setCell ⟨g, 2, none⟩ c).setCell ⟨g, 3, none⟩ d).setCell ⟨g, 4, none⟩ e) :=
  ((((hb.setCell hg a).setCell hg b).setCell hg c).setCell hg d).setCell hg e
/-- The cells of an element, as the walk asks for them. -/
def Cells5 (w : World) (g : Nat) (a b c d e : Value) : Prop :=
  (w.cell? ⟨g, 0, none⟩ = some a ∧ w.cell? ⟨g, 1, none⟩ = some b ∧ w.cell? ⟨g, 2, none⟩ = some c ∧ w.cell? ⟨g, 3, none⟩ = some d ∧ w.cell? ⟨g, 4, none⟩ = some e) ∧
  (w.frozen? ⟨g, 0, none⟩ = false ∧ w.frozen? ⟨g, 1, none⟩ = false ∧ w.frozen? ⟨g, 2, none⟩ = false ∧ w.frozen? ⟨g, 3, none⟩ = false ∧ w.frozen? ⟨g, 4, none⟩ = false)
theorem cells5 {w : World} {g : Nat} {t : TypeId} {a b c d e : Value} (h : Bl w g t #[a, b, c, d, e]) : Cells5 w g a b c d e :=
  ⟨⟨h.cell_ rfl, h.cell_ rfl, h.cell_ rfl, h.cell_ rfl, h.cell_ rfl⟩, h.frozen 0, h.frozen 1, h.frozen 2, h.frozen 3, h.frozen 4⟩
def z5 : Array Value := #[.int .u64 0, .int .u64 0, .int .u64 0, .int .u64 0, .int .u64 0]
set_option maxHeartbeats 1000000 in
theorem Reduce_any (x : E5) (w : World) (hx : x.ok) :
    Calls Tryd.prog 15 #[.agg x.v] w fun e w' => e = .returned (.agg (el (x.val % pp)).v) ∧ Below w.heap.size w w' := by
  have HX := Lib.hid hx
  clear hx
  obtain ⟨r, hr⟩ : ∃ r, el (x.val % pp) = r := ⟨_, rfl⟩
  have HR := Lib.hid hr
  rw [hr]
  clear hr
  go_enter Tryd.func15, Tryd.ntmps15
  go_wp2_with fail
  have hb : Bl ((w.alloc (.cells x.v 24)).alloc (.cells z5 24)) w.heap.size 24 x.v := (Bl.new_ w _ x.v).alloc _
  have hz : Bl ((w.alloc (.cells x.v 24)).alloc (.cells z5 24)) (w.heap.size + 1) 24 z5 := Bl.new' _ _ (by simp)
  have hB : Below w.heap.size w ((w.alloc (.cells x.v 24)).alloc (.cells z5 24)) := ((Below.refl _ _).alloc (Nat.le_refl _) _).alloc (by simp) _
  change Calls _ _ _ ((w.alloc (.cells x.v 24)).alloc (.cells z5 24)) _
  refine (reduce_any _ x _ HX.out hb).mono ?_
  rintro e w1 ⟨rfl, hb1, hg1⟩
  rw [HR.out] at hb1
  have hz1 := hz.grown hg1 (by simp)
  have hB1 : Below w.heap.size w w1 := hB.grown hg1 (by simp; omega) (by simp)
  clear hb hz hB hg1
  obtain ⟨⟨a0, a1, a2, a3, a4⟩, -⟩ := cells5 hb1
  obtain ⟨⟨r0, r1, r2, r3, r4⟩, f0, f1, f2, f3, f4⟩ := cells5 hz1
  have HB1 := Lib.hid hB1
  clear hB1 hb1
  go_wp2
  refine bodyPost_ret (v := .agg r.v) ?_ rfl ⟨rfl, set5_below HB1.out (by omega) _ _ _ _ _⟩
  simp [results, Tryd.results15, go_sem, E5.v, r0, r1, r2, r3, r4]
set_option maxHeartbeats 1000000 in
theorem Small_any (n : Nat) (w : World) (hn : n < 18446744073709551616) :
    Calls Tryd.prog 22 #[.int .u64 (n : Int)] w fun e w' => e = .returned (.agg (el n).v) ∧ Below w.heap.size w w' := by
  obtain ⟨r, hr⟩ : ∃ r, n % 2251799813685248 = r := ⟨_, rfl⟩
  obtain ⟨q, hq⟩ : ∃ q, n / 2251799813685248 = q := ⟨_, rfl⟩
  have e1 : bits .and .u64 (n : Int) 2251799813685247 = (r : Int) := by rw [and_low n hn, hr]
  have e2 : (n : Int) / 2251799813685248 = (q : Int) := by omega
  have hv : (el n).v = #[.int .u64 (r : Int), .int .u64 (q : Int), .int .u64 0, .int .u64 0, .int .u64 0] := by
    have : el n = ⟨r, q, 0, 0, 0⟩ := by unfold el; simp only [E5.mk.injEq]; omega
    rw [this]; rfl
  rw [hv]
  clear hv hr hq hn
  go_enter Tryd.func22, Tryd.ntmps22
  go_wp2
  refine bodyPost_ret (v := .agg #[.int .u64 (r : Int), .int .u64 (q : Int), .int .u64 0, .int .u64 0, .int .u64 0]) ?_ rfl ⟨rfl, (Below.refl _ _).alloc (Nat.le_refl _) _⟩
  simp [results, Tryd.results22, go_sem]
/-- Behind two boxes. -/
theorem box2 (w : World) (x y : E5) : Bl ((w.alloc (.cells x.v 24)).alloc (.cells y.v 24)) w.heap.size 24 x.v ∧ Bl ((w.alloc (.cells x.v 24)).alloc (.cells y.v 24)) (w.heap.size + 1) 24 y.v ∧
    Below w.heap.size w ((w.alloc (.cells x.v 24)).alloc (.cells y.v 24)) :=
  ⟨(Bl.new_ w _ x.v).alloc _, Bl.new' _ _ (by simp), ((Below.refl _ _).alloc (Nat.le_refl _) _).alloc (by simp) _⟩
abbrev C5 (w : World) (g : Nat) (x : E5) : Prop := w.cell? ⟨g, 0, none⟩ = some (.int .u64 (x.a : Int)) ∧ w.cell? ⟨g, 1, none⟩ = some (.int .u64 (x.b : Int)) ∧ w.cell? ⟨g, 2, none⟩ = some (.int .u64 (x.c : Int)) ∧ w.cell? ⟨g, 3, none⟩ = some (.int .u64 (x.d : Int)) ∧ w.cell? ⟨g, 4, none⟩ = some (.int .u64 (x.e : Int))
theorem c5_of {w : World} {g : Nat} {t : TypeId} {x : E5} (h : Bl w g t x.v) : C5 w g x := ⟨h.cell_ rfl, h.cell_ rfl, h.cell_ rfl, h.cell_ rfl, h.cell_ rfl⟩
set_option maxHeartbeats 1000000 in
theorem Same_any (x y : E5) (w : World) (hx : x.ok) (hy : y.ok) :
    Calls Tryd.prog 31 #[.agg x.v, .agg y.v] w fun e w' => e = .returned (.bool (decide (x.val % pp = y.val % pp))) ∧ Below w.heap.size w w' := by
  have R1 := fun w => Reduce_any x w hx
  have R2 := fun w => Reduce_any y w hy
  obtain ⟨r, hr⟩ : ∃ r, el (x.val % pp) = r := ⟨_, rfl⟩
  obtain ⟨q, hq⟩ : ∃ q, el (y.val % pp) = q := ⟨_, rfl⟩
  have hd : decide (x.val % pp = y.val % pp) = decide (r = q) := decide_eq_decide.2 ⟨fun h => by rw [← hr, ← hq, h], fun h => el_inj (by rw [hr, hq, h])⟩
  obtain ⟨b, hb⟩ : ∃ b, decide (r = q) = b := ⟨_, rfl⟩
  have G1 := guard5
  have G2 := fun w => equal5 r q w
  simp only [hr, hq] at R1 R2
  rw [hb] at G2
  rw [hd, hb]
  clear hr hq hd hb hx hy
  have R1 := Lib.hid (show ∀ w, Calls Tryd.prog 15 #[(.agg #[.int .u64 (x.a : Int), .int .u64 (x.b : Int), .int .u64 (x.c : Int), .int .u64 (x.d : Int), .int .u64 (x.e : Int)])] w fun e w' => e = .returned (.agg r.v) ∧ Below w.heap.size w w' from R1)
  have R2 := Lib.hid (show ∀ w, Calls Tryd.prog 15 #[(.agg #[.int .u64 (y.a : Int), .int .u64 (y.b : Int), .int .u64 (y.c : Int), .int .u64 (y.d : Int), .int .u64 (y.e : Int)])] w fun e w' => e = .returned (.agg q.v) ∧ Below w.heap.size w w' from R2)
  have SK := Lib.hid (show ∀ z, Below (w.heap.size + 2) ((w.alloc (.cells x.v 24)).alloc (.cells y.v 24)) z → C5 z w.heap.size x ∧ C5 z (w.heap.size + 1) y from fun z h =>
    ⟨c5_of ((box2 w x y).1.below h (by omega)), c5_of ((box2 w x y).2.1.below h (by omega))⟩)
  go_enter Tryd.func31, Tryd.ntmps31
  go_wp2_with fail
  go_region_held3 (fun z => C5 z w.heap.size x ∧ C5 z (w.heap.size + 1) y)
    (first | exact SK.out _ ((Below.refl _ _).drew) | exact SK.out _ (((Below.refl _ _).drew).trans (hb1.mono (by simp))) | exact SK.out _ ((((Below.refl _ _).drew).trans (hb1.mono (by simp))).trans (hb2.mono (by have := hb1.size; simp at this; omega))))
    (first | (go_at_call 15; (with_reducible refine (R1.out _).mono ?_); rintro e w1 ⟨rfl, hb1⟩) | (go_at_call 15; (with_reducible refine (R2.out _).mono ?_); rintro e w2 ⟨rfl, hb2⟩))
  rename_i hHeld
  clear hHeld
  go_wp2
  go_ret
  exact ⟨rfl, (((box2 w x y).2.2.drew).trans (hb1.mono (by simp; omega))).trans (hb2.mono (by have := hb1.size; simp at this; omega))⟩
theorem and_one (x : Nat) (hx : x < 18446744073709551616) : bits .and .u64 (x : Int) 1 = ((x % 2 : Nat) : Int) := by
  have h := bits_and_u64_nat x 1 hx (by omega)
  rw [show x &&& 1 = x % 2 from Nat.and_one_is_mod x] at h
  exact h
set_option maxHeartbeats 1000000 in
theorem Odd_any (x : E5) (w : World) (hx : x.ok) :
    Calls Tryd.prog 33 #[.agg x.v] w fun e w' => e = .returned (.bool (decide (x.val % pp % 2 = 1))) ∧ Below w.heap.size w w' := by
  have R1 := fun w => Reduce_any x w hx
  obtain ⟨r, hr⟩ : ∃ r, el (x.val % pp) = r := ⟨_, rfl⟩
  simp only [hr] at R1
  have hm : x.val % pp % 2 = r.a % 2 := by subst hr; show _ = x.val % pp % 2251799813685248 % 2; omega
  have hl : r.a < 18446744073709551616 := by rw [← hr]; exact (el_ok (mod_lt _)).1
  obtain ⟨o, ho⟩ : ∃ o, r.a % 2 = o := ⟨_, rfl⟩
  have e1 : bits .and .u64 (r.a : Int) 1 = (o : Int) := by rw [and_one _ hl, ho]
  obtain ⟨b, hb⟩ : ∃ b, decide (o = 1) = b := ⟨_, rfl⟩
  have g1 : ((o : Int) == 1) = b := by rw [← hb, Bool.eq_iff_iff]; simp; omega
  rw [hm, ho, hb]
  clear hr hm hl ho hb hx
  have i0 := fun w => run_index_agg (P := Tryd.prog) (t := 24) (e := 22) (n := 5) (ik := .u64) Tryd.underlying24 Tryd.underlying22 (by kernel_rfl) #[.int .u64 (r.a : Int), .int .u64 (r.b : Int), .int .u64 (r.c : Int), .int .u64 (r.d : Int), .int .u64 (r.e : Int)] 0 (.int .u64 (r.a : Int)) (by decide) rfl w
  rw [show ((0 : Nat) : Int) = 0 from rfl] at i0
  obtain ⟨⟨a0, a1, a2, a3, a4⟩, -⟩ := cells5 (show Bl (w.alloc (.cells x.v 24)) w.heap.size 24 #[.int .u64 (x.a : Int), .int .u64 (x.b : Int), .int .u64 (x.c : Int), .int .u64 (x.d : Int), .int .u64 (x.e : Int)] from Bl.new_ w _ x.v)
  have R1 := Lib.hid (show ∀ w, Calls Tryd.prog 15 #[(.agg #[.int .u64 (x.a : Int), .int .u64 (x.b : Int), .int .u64 (x.c : Int), .int .u64 (x.d : Int), .int .u64 (x.e : Int)])] w fun e w' => e = .returned (.agg #[.int .u64 (r.a : Int), .int .u64 (r.b : Int), .int .u64 (r.c : Int), .int .u64 (r.d : Int), .int .u64 (r.e : Int)]) ∧ Below w.heap.size w w' from R1)
  go_enter Tryd.func33, Tryd.ntmps33
  go_wp2_with (go_at_call 15; (with_reducible refine (R1.out _).mono ?_); rintro e w1 ⟨rfl, hb1⟩)
  go_ret
  exact ⟨rfl, ((Below.refl _ _).alloc (Nat.le_refl _) _).trans (hb1.mono (by simp))⟩
/-- Two elements lie in memory, and a third one's place. -/
theorem box3 (w : World) (x y : E5) : Bl (((w.alloc (.cells x.v 24)).alloc (.cells y.v 24)).alloc (.cells z5 24)) w.heap.size 24 x.v ∧
    Bl (((w.alloc (.cells x.v 24)).alloc (.cells y.v 24)).alloc (.cells z5 24)) (w.heap.size + 1) 24 y.v ∧
    Bl (((w.alloc (.cells x.v 24)).alloc (.cells y.v 24)).alloc (.cells z5 24)) (w.heap.size + 1 + 1) 24 z5 ∧
    Below w.heap.size w (((w.alloc (.cells x.v 24)).alloc (.cells y.v 24)).alloc (.cells z5 24)) :=
  ⟨(box2 w x y).1.alloc _, (box2 w x y).2.1.alloc _, Bl.new' _ _ (by simp), (box2 w x y).2.2.alloc (by simp; omega) _⟩
/-- Laid over up to a limb. -/
def mix (x y : E5) (k : Nat) : List Nat := y.l.take k ++ x.l.drop k
theorem mix_zero (x y : E5) : (nl (mix x y 0)).toArray = x.v := rfl
theorem mix_five (x y : E5) : (nl (mix x y 5)).toArray = y.v := rfl
theorem mix_get (x y : E5) {k : Nat} (hk : k < 5) : (nl (mix x y k)).toArray[k]? = some (.int .u64 ((x.l.getD k 0 : Nat) : Int)) := by
  match k, hk with
  | 0, _ => rfl
  | 1, _ => rfl
  | 2, _ => rfl
  | 3, _ => rfl
  | 4, _ => rfl
theorem mix_set (x y : E5) {k : Nat} (hk : k < 5) : (nl (mix x y k)).toArray.setIfInBounds k (.int .u64 ((y.l.getD k 0 : Nat) : Int)) = (nl (mix x y (k + 1))).toArray := by
  match k, hk with
  | 0, _ => rfl
  | 1, _ => rfl
  | 2, _ => rfl
  | 3, _ => rfl
  | 4, _ => rfl
theorem add_get (x y : E5) {k : Nat} (hk : k < 5) : (x.add y).l.getD k 0 = x.l.getD k 0 + y.l.getD k 0 := by
  match k, hk with
  | 0, _ => rfl
  | 1, _ => rfl
  | 2, _ => rfl
  | 3, _ => rfl
  | 4, _ => rfl
theorem light_get {x : E5} (h : x.light) {k : Nat} (hk : k < 5) : x.l.getD k 0 < 2251799813947392 := by
  obtain ⟨h0, h1, h2, h3, h4⟩ := h
  match k, hk with
  | 0, _ => exact h0
  | 1, _ => exact h1
  | 2, _ => exact h2
  | 3, _ => exact h3
  | 4, _ => exact h4
def AddRel (x y z : E5) (g h : Nat) (w0 : World) (i : Value) (wr : World) : Prop :=
  ∃ k : Nat, k ≤ 5 ∧ i = .int .i64 (k : Int) ∧ Bl wr g 24 (nl (mix x z k)).toArray ∧ Bl wr h 24 y.v ∧ w0.grownBy wr (some g)
set_option maxHeartbeats 2000000 in
theorem Add_any (x y : E5) (w : World) (hx : x.ok) (hy : y.ok) :
    Calls Tryd.prog 23 #[.agg x.v, .agg y.v] w fun e w' => e = .returned (.agg (el ((x.val + y.val) % pp)).v) ∧ Below w.heap.size w w' := by
  have HX := Lib.hid hx
  have HY := Lib.hid hy
  obtain ⟨r, hr⟩ : ∃ r, el ((x.val + y.val) % pp) = r := ⟨_, rfl⟩
  have HR := Lib.hid hr
  rw [hr]
  clear hx hy hr
  obtain ⟨B1, B2, B3, B4⟩ := box3 w x y
  go_enter Tryd.func23, Tryd.ntmps23
  go_wp2_with fail
  change Calls _ _ _ (((w.alloc (.cells x.v 24)).alloc (.cells y.v 24)).alloc (.cells z5 24)) _
  generalize hW : ((w.alloc (.cells x.v 24)).alloc (.cells y.v 24)).alloc (.cells z5 24) = W0 at *
  clear hW
  refine (lighten_any _ x _ HX.out B1).mono ?_
  rintro e w1 ⟨rfl, y1, l1, v1, b1, g1⟩
  have B2' := B2.grown g1 (by simp)
  have B3' := B3.grown g1 (by simp; omega)
  have B4' : Below w.heap.size w w1 := B4.grown g1 B4.size (by simp)
  clear B1 B2 B3 B4 g1
  go_wp2_with fail
  refine (lighten_any _ y _ HY.out B2').mono ?_
  rintro e w2 ⟨rfl, y2, l2, v2, b2, g2⟩
  have b1' := b1.grown g2 (by simp)
  have b3' := B3'.grown g2 (by simp)
  have b4' : Below w.heap.size w w2 := B4'.grown g2 B4'.size (by simp)
  clear B2' B3' B4' b1 g2
  have HL1 := Lib.hid l1
  have HL2 := Lib.hid l2
  have HV := Lib.hid (show (y1.add y2).val % pp = (x.val + y.val) % pp by rw [E5.add_val, Nat.add_mod, v1, v2, ← Nat.add_mod])
  have HB1 := Lib.hid b1'
  have HB2 := Lib.hid b2
  have HB3 := Lib.hid b3'
  have HB4 := Lib.hid b4'
  clear l1 l2 v1 v2 b1' b2 b3' b4'
  go_wp2
  go_loopw [8] (fun i wr => AddRel y1 y2 (y1.add y2) w.heap.size (w.heap.size + 1) w2 i wr) (fun i _ => 5 - (intOf i).toNat)
  case atStart => exact ⟨0, by decide, rfl, HB1.out, HB2.out, World.grownBy.refl w2 _⟩
  case round =>
    obtain ⟨k, hk, rfl, hb1, hb2, hgr⟩ := hrel
    have HC1 := Lib.hid hb1
    have HC2 := Lib.hid hb2
    have HG := Lib.hid hgr
    clear hgr
    by_cases hlt : k < 5
    · obtain ⟨p, hp⟩ : ∃ p, y1.l.getD k 0 = p := ⟨_, rfl⟩
      obtain ⟨q, hq⟩ : ∃ q, y2.l.getD k 0 = q := ⟨_, rfl⟩
      have c1 : wr.cell? ⟨w.heap.size, k, none⟩ = some (.int .u64 (p : Int)) := by rw [← hp]; exact hb1.cell_ (mix_get _ _ hlt)
      have c2 : wr.cell? ⟨w.heap.size + 1, k, none⟩ = some (.int .u64 (q : Int)) := by rw [← hq]; exact hb2.cell_ (E5.v_get _ hlt)
      have c3 : wr.frozen? ⟨w.heap.size, k, none⟩ = false := hb1.frozen k
      have e1 : IntKind.u64.wrap ((p : Int) + (q : Int)) = ((p + q : Nat) : Int) := by
        have := light_get HL1.out hlt
        have := light_get HL2.out hlt
        rw [IntKind.wrap_u64]; omega
      have HS := Lib.hid (show (y1.add y2).l.getD k 0 = p + q by rw [add_get _ _ hlt, hp, hq])
      clear hb1 hb2 hp hq
      go_wp2
      go_region
      all_goals
        go_wp2
        go_roundw
        case rel =>
          refine ⟨k + 1, by omega, by go_num, ?_, ?_, ?_⟩
          · rw [← mix_set _ _ hlt, HS.out]; exact HC1.out.set_ k _
          · exact HC2.out.other (p := ⟨w.heap.size, k, none⟩) (by simp) _
          · exact only_drew (only_set (p := ⟨w.heap.size, k, none⟩) HG.out (.inl rfl) _)
        case measure => simp [intOf]; omega
    · obtain rfl : k = 5 := by omega
      clear hb1 hb2
      go_wp2_with fail
      have hok := E5.add_ok HL1.out HL2.out
      have hb1 := HC1.out
      rw [mix_five] at hb1
      refine (reduce_any _ _ _ hok hb1).mono ?_
      rintro e w3 ⟨rfl, b1, g3⟩
      rw [HV.out, HR.out] at b1
      have b3 := (HB3.out.grown HG.out (by simp; omega)).grown g3 (by simp; omega)
      have b4 := Lib.hid (show Below w.heap.size w w3 from (HB4.out.grown HG.out HB4.out.size (by simp)).grown g3 (HB4.out.grown HG.out HB4.out.size (by simp)).size (by simp))
      clear g3 hb1 hok
      obtain ⟨⟨a0, a1, a2, a3, a4⟩, -⟩ := cells5 b1
      obtain ⟨⟨r0, r1, r2, r3, r4⟩, f0, f1, f2, f3, f4⟩ := cells5 b3
      clear b1 b3
      go_wp2
      refine bodyPost_ret (v := .agg r.v) ?_ rfl ⟨rfl, set5_below b4.out (by omega) _ _ _ _ _⟩
      simp [results, Tryd.results23, go_sem, E5.v, r0, r1, r2, r3, r4]
theorem sub_get (x y : E5) {k : Nat} (h1 : 1 ≤ k) (hk : k < 5) : (x.sub y).l.getD k 0 = x.l.getD k 0 + (4503599627370494 - y.l.getD k 0) := by
  match k, h1, hk with
  | 1, _, _ => rfl
  | 2, _, _ => rfl
  | 3, _, _ => rfl
  | 4, _, _ => rfl
/-- A difference modulo the prime. -/
def sb (a b : Nat) : Nat := (a + (pp - b % pp)) % pp
theorem sub_mod {x y a b : E5} (h : b.light) (h1 : a.val % pp = x.val % pp) (h2 : b.val % pp = y.val % pp) : (a.sub b).val % pp = sb x.val y.val := by
  have e := E5.sub_val (x := a) h
  have l := mod_lt y.val
  have c1 : ((a.sub b).val + b.val) % pp = (x.val + (pp - y.val % pp) + b.val) % pp := by
    rw [e, Nat.add_mod (x.val + (pp - y.val % pp)), h2]
    conv => rhs; rw [← Nat.add_mod_mod, Nat.mod_add_mod, Nat.mod_mod]
    rw [show x.val + (pp - y.val % pp) + y.val % pp = x.val + pp by omega, Nat.add_mod_right, ← h1, show a.val + 2 * pp = a.val + pp * 2 by omega, Nat.add_mul_mod_self_left]
  unfold sb
  exact cg_add_right (c := b.val) c1
def SubRel (x y z : E5) (g h : Nat) (w0 : World) (i : Value) (wr : World) : Prop :=
  ∃ k : Nat, k ≤ 4 ∧ i = .int .i64 (k : Int) ∧ Bl wr g 24 (nl (mix x z (k + 1))).toArray ∧ Bl wr h 24 y.v ∧ w0.grownBy wr (some g)
set_option maxHeartbeats 2000000 in
theorem Sub_any (x y : E5) (w : World) (hx : x.ok) (hy : y.ok) :
    Calls Tryd.prog 25 #[.agg x.v, .agg y.v] w fun e w' => e = .returned (.agg (el (sb x.val y.val)).v) ∧ Below w.heap.size w w' := by
  have HX := Lib.hid hx
  have HY := Lib.hid hy
  obtain ⟨r, hr⟩ : ∃ r, el (sb x.val y.val) = r := ⟨_, rfl⟩
  have HR := Lib.hid hr
  rw [hr]
  clear hx hy hr
  obtain ⟨B1, B2, B3, B4⟩ := box3 w x y
  go_enter Tryd.func25, Tryd.ntmps25
  go_wp2_with fail
  change Calls _ _ _ (((w.alloc (.cells x.v 24)).alloc (.cells y.v 24)).alloc (.cells z5 24)) _
  generalize hW : ((w.alloc (.cells x.v 24)).alloc (.cells y.v 24)).alloc (.cells z5 24) = W0 at *
  clear hW
  refine (lighten_any _ x _ HX.out B1).mono ?_
  rintro e w1 ⟨rfl, y1, l1, v1, b1, g1⟩
  have B2' := B2.grown g1 (by simp)
  have B3' := B3.grown g1 (by simp; omega)
  have B4' : Below w.heap.size w w1 := B4.grown g1 B4.size (by simp)
  clear B1 B2 B3 B4 g1
  go_wp2_with fail
  refine (lighten_any _ y _ HY.out B2').mono ?_
  rintro e w2 ⟨rfl, y2, l2, v2, b2, g2⟩
  have b1' := b1.grown g2 (by simp)
  have b3' := B3'.grown g2 (by simp)
  have b4' : Below w.heap.size w w2 := B4'.grown g2 B4'.size (by simp)
  clear B2' B3' B4' b1 g2
  have HL1 := Lib.hid l1
  have HL2 := Lib.hid l2
  have HV := Lib.hid (show (y1.sub y2).val % pp = sb x.val y.val from sub_mod l2 v1 v2)
  have HB1 := Lib.hid b1'
  have HB2 := Lib.hid b2
  have HB3 := Lib.hid b3'
  have HB4 := Lib.hid b4'
  clear l1 l2 v1 v2 b1' b2 b3' b4'
  have e0 : IntKind.u64.wrap (4503599627370458 - (y2.a : Int)) = ((4503599627370458 - y2.a : Nat) : Int) := by have := HL2.out.1; rw [IntKind.wrap_u64]; omega
  have e00 : IntKind.u64.wrap ((y1.a : Int) + ((4503599627370458 - y2.a : Nat) : Int)) = ((y1.a + (4503599627370458 - y2.a) : Nat) : Int) := by have := HL1.out.1; rw [IntKind.wrap_u64]; omega
  generalize hu : 4503599627370458 - y2.a = u at *
  generalize ht : y1.a + u = t at *
  have HS0 := Lib.hid (show (nl (mix y1 (y1.sub y2) 0)).toArray.setIfInBounds 0 (.int .u64 (t : Int)) = (nl (mix y1 (y1.sub y2) 1)).toArray by subst ht hu; exact mix_set y1 (y1.sub y2) (k := 0) (by decide))
  clear hu ht
  have d1 : w2.cell? ⟨w.heap.size, 0, none⟩ = some (.int .u64 (y1.a : Int)) := HB1.out.cell_ rfl
  have d2 : w2.cell? ⟨w.heap.size + 1, 0, none⟩ = some (.int .u64 (y2.a : Int)) := HB2.out.cell_ rfl
  have d3 : w2.frozen? ⟨w.heap.size, 0, none⟩ = false := HB1.out.frozen 0
  go_wp2
  clear d1 d2 d3 e0 e00
  go_loopw [15] (fun i wr => SubRel y1 y2 (y1.sub y2) w.heap.size (w.heap.size + 1) w2 i wr) (fun i _ => 4 - (intOf i).toNat)
  case atStart => exact ⟨0, by decide, rfl, by rw [← HS0.out]; exact HB1.out.set_ 0 _, HB2.out.other (p := ⟨w.heap.size, 0, none⟩) (by simp) _, only_set (p := ⟨w.heap.size, 0, none⟩) (World.grownBy.refl w2 _) (.inl rfl) _⟩
  case round =>
    obtain ⟨k, hk, rfl, hb1, hb2, hgr⟩ := hrel
    have HC1 := Lib.hid hb1
    have HC2 := Lib.hid hb2
    have HG := Lib.hid hgr
    clear hgr
    by_cases hlt : k < 4
    · obtain ⟨j, hj⟩ : ∃ j, j = k + 1 := ⟨_, rfl⟩
      rw [← hj] at hb1
      obtain ⟨p, hp⟩ : ∃ p, y1.l.getD j 0 = p := ⟨_, rfl⟩
      obtain ⟨q, hq⟩ : ∃ q, y2.l.getD j 0 = q := ⟨_, rfl⟩
      have c1 : wr.cell? ⟨w.heap.size, j, none⟩ = some (.int .u64 (p : Int)) := by rw [← hp]; exact hb1.cell_ (mix_get _ _ (by omega))
      have c2 : wr.cell? ⟨w.heap.size + 1, j, none⟩ = some (.int .u64 (q : Int)) := by rw [← hq]; exact hb2.cell_ (E5.v_get _ (by omega))
      have c3 : wr.frozen? ⟨w.heap.size, j, none⟩ = false := hb1.frozen j
      have lp := light_get HL1.out (k := j) (by omega)
      have lq := light_get HL2.out (k := j) (by omega)
      obtain ⟨u, hu⟩ : ∃ u, 4503599627370494 - q = u := ⟨_, rfl⟩
      have e1 : IntKind.u64.wrap (4503599627370494 - (q : Int)) = (u : Int) := by rw [IntKind.wrap_u64]; omega
      have e2 : IntKind.u64.wrap ((p : Int) + (u : Int)) = ((p + u : Nat) : Int) := by rw [IntKind.wrap_u64]; omega
      have HS := Lib.hid (show (y1.sub y2).l.getD j 0 = p + u by rw [sub_get _ _ (by omega) (by omega), hp, hq, hu])
      have ej : IntKind.i64.wrap ((k : Int) + 1) = (j : Int) := by rw [IntKind.wrap_i64]; omega
      have j0 : (0 : Int) ≤ (j : Int) := by omega
      have HJ := Lib.hid hj
      have j5 : (j : Int) < 5 := by omega
      clear hb1 hb2 hp hq lp lq hu hj
      go_wp2_with fail
      go_region
      all_goals
        clear ej j0 j5 e1 e2
        go_wp2
        go_roundw
        case rel =>
          refine ⟨k + 1, by omega, by go_num, ?_, ?_, ?_⟩
          · rw [← HJ.out, ← mix_set _ _ (show j < 5 by have := HJ.out; omega), HS.out]; rw [← HJ.out] at HC1; exact HC1.out.set_ j _
          · exact HC2.out.other (p := ⟨w.heap.size, j, none⟩) (by simp) _
          · exact only_drew (only_set (p := ⟨w.heap.size, j, none⟩) HG.out (.inl rfl) _)
        case measure => simp [intOf]; omega
    · obtain rfl : k = 4 := by omega
      clear hb1 hb2
      go_wp2_with fail
      have hok := E5.sub_ok HL1.out HL2.out
      have hb1 := HC1.out
      rw [mix_five] at hb1
      refine (reduce_any _ _ _ hok hb1).mono ?_
      rintro e w3 ⟨rfl, b1, g3⟩
      rw [HV.out, HR.out] at b1
      have b3 := (HB3.out.grown HG.out (by simp; omega)).grown g3 (by simp; omega)
      have b4 := Lib.hid (show Below w.heap.size w w3 from (HB4.out.grown HG.out HB4.out.size (by simp)).grown g3 (HB4.out.grown HG.out HB4.out.size (by simp)).size (by simp))
      clear g3 hb1 hok
      obtain ⟨⟨a0, a1, a2, a3, a4⟩, -⟩ := cells5 b1
      obtain ⟨⟨r0, r1, r2, r3, r4⟩, f0, f1, f2, f3, f4⟩ := cells5 b3
      clear b1 b3
      go_wp2
      refine bodyPost_ret (v := .agg r.v) ?_ rfl ⟨rfl, set5_below b4.out (by omega) _ _ _ _ _⟩
      simp [results, Tryd.results25, go_sem, E5.v, r0, r1, r2, r3, r4]
end Go.Proofs.YteechlkccmcpfaaDoor.Fd
