/-
  Inverses and square roots: the walks.
-/
import Derived.Test.YteechlkccmcpfaaDoorFdRep
import Derived.Test.YteechlkccmcpfaaDoorFdRoots
namespace Go.Proofs.YteechlkccmcpfaaDoor.Fd
open Go.RowKit Go.Proofs.YteechlkccmcpfaaDoor.Gn Go.Deep
set_option linter.unusedVariables false

/-- The bytes that power takes an element to. -/
def pbl (a b : Nat) : List Nat := a :: (List.replicate 30 255 ++ [b])
theorem pbl_len (a b : Nat) : (pbl a b).length = 32 := by simp [pbl]
theorem pbl_lt (a b : Nat) (ha : a < 256) (hb : b < 256) : ∀ x ∈ pbl a b, x < 256 := by
  intro x hx
  simp only [pbl, List.mem_cons, List.mem_append, List.mem_replicate, List.not_mem_nil, or_false] at hx
  omega
theorem le_inv : le (pbl 235 127) = pp - 2 := by rw [pp_eq]; decide
theorem le_e8 : le (pbl 253 15) = e8 := by
  have h : pp = 8 * e8 + 5 := e8_eq
  have : le (pbl 253 15) = (pp - 5) / 8 := by rw [pp_eq]; decide
  omega
theorem pbl_cells (a b : Nat) (cs : Array Value) (h : FF cs 32) (hs : 32 ≤ cs.size) : ∀ (k : Nat) (v : Value), (bl (pbl a b))[k]? = some v → ((cs.setIfInBounds 0 (.int .u8 (a : Int))).setIfInBounds 31 (.int .u8 (b : Int)))[k]? = some v := by
  intro k v hv
  have hk : k < 32 := by have := (List.getElem?_eq_some_iff.1 hv).1; simpa [bl, pbl] using this
  rw [bl_get] at hv
  rw [Array.getElem?_setIfInBounds, Array.getElem?_setIfInBounds]
  by_cases h0 : k = 0
  · subst h0
    rw [if_neg (by decide), if_pos rfl, if_pos (by omega)]
    simpa [pbl] using hv
  · by_cases h1 : k = 31
    · subst h1
      rw [if_pos rfl, if_pos (by simp; omega)]
      simpa [pbl] using hv
    · rw [if_neg (by omega), if_neg (by omega), h k hk]
      obtain ⟨j, rfl⟩ : ∃ j, k = j + 1 := ⟨k - 1, by omega⟩
      have : (pbl a b)[j + 1]? = some 255 := by
        show (a :: (List.replicate 30 255 ++ [b]))[j + 1]? = _
        rw [List.getElem?_cons_succ, List.getElem?_append_left (by simp; omega), List.getElem?_replicate, if_pos (by omega)]
      rw [this] at hv
      simpa using hv
theorem loadE {w : World} {g : Nat} (x : E5) (h : Bl w g 24 x.v) : (loadVar 24 ⟨g, 0, none⟩).run Tryd.prog w = .ok (.agg x.v) w :=
  run_loadVar_row (P := Tryd.prog) w g 24 24 x.v (0, 0) _ h Tryd.underlying24 rfl info_elem
set_option maxHeartbeats 2000000 in
theorem power_any (x : E5) (a b : Nat) (w : World) (hx : x.ok) (ha : a < 256) (hb : b < 256) :
    Calls Tryd.prog 62 #[.agg x.v, .int .u8 (a : Int), .int .u8 (b : Int)] w fun e w' => e = .returned (.agg (el (x.val ^ (le (pbl a b)) % pp)).v) ∧ Below w.heap.size w w' := by
  have HX := Lib.hid hx
  have HPL := Lib.hid (pbl_lt a b ha hb)
  obtain ⟨r, hr⟩ : ∃ r, el (x.val ^ (le (pbl a b)) % pp) = r := ⟨_, rfl⟩
  have HRR := Lib.hid hr
  rw [hr]
  have hx0 := ((Bl.new_ w 24 x.v).alloc (.cells z5 24)).alloc (.cells #[.int .u8 255] 5)
  have hr0 := (Bl.new' (w := w.alloc (.cells x.v 24)) (g := w.heap.size + 1) 24 z5 (by simp)).alloc (.cells #[.int .u8 255] 5)
  have hc0 := (Bl.new' (w := (w.alloc (.cells x.v 24)).alloc (.cells z5 24)) (g := w.heap.size + 1 + 1) 5 #[.int .u8 255] (by simp)).cell_ (i := 0) (v := .int .u8 255) rfl
  have hB0 := (((Below.refl w.heap.size w).alloc (Nat.le_refl _) (.cells x.v 24)).alloc (by simp) (.cells z5 24)).alloc (by simp; omega) (.cells #[.int .u8 255] 5)
  have R := Lib.hid (repeat_any (w.heap.size + 1 + 1) _ hc0)
  have HX0 := Lib.hid hx0
  have HR0 := Lib.hid hr0
  have HB0 := Lib.hid hB0
  clear hx0 hr0 hc0 hB0 hx ha hb hr
  go_enter Tryd.func62, Tryd.ntmps62
  go_wp2_with fail
  refine R.out.mono ?_
  rintro e w1 ⟨g, cs, rfl, hg, hs, hb1, hf1, hbw⟩
  have HX1 := Lib.hid (HX0.out.below' hbw)
  have HR1 := Lib.hid (HR0.out.below' hbw)
  have HB1 := Lib.hid (below_nx HB0.out (Nat.le_refl _) hbw)
  have hgw : w.heap.size + 1 + 1 < g := by simp at hg; omega
  have c0 := hb1.cell_ (hf1 0 (by decide))
  have c31 := hb1.cell_ (hf1 31 (by decide))
  have f0 := hb1.frozen 0
  have f31 := hb1.frozen 31
  have HC1 := Lib.hid hb1
  have HF1 := Lib.hid hf1
  obtain ⟨a0, a1, a2, a3, a4⟩ := c5_of HX1.out
  have hne : ¬ (g = w.heap.size) := by omega
  have hne' : ¬ (w.heap.size = g) := by omega
  clear hb1 hf1 hbw hg
  go_wp2_with fail
  have hb2 := (HC1.out.set_ 0 (.int .u8 (a : Int))).set_ 31 (.int .u8 (b : Int))
  have hsl : Sl ((w1.setCell ⟨g, 0, none⟩ (.int .u8 (a : Int))).setCell ⟨g, 31, none⟩ (.int .u8 (b : Int))) (some ⟨g, 0, none⟩) 32 (bl (pbl a b)) :=
    Sl.of_bl hb2 0 32 _ (by rw [bl_length, pbl_len]) (fun k v hv => by rw [Nat.zero_add]; exact pbl_cells a b cs HF1.out hs k v hv)
  refine (pow_any x _ 32 32 (pbl a b) _ HX.out (by decide) HPL.out hsl).mono ?_
  rintro e w2 ⟨he, hb3⟩
  unfold DecR at he
  rw [HRR.out] at he
  obtain rfl : e = .returned (.tuple #[.agg #[.int .u64 (r.a : Int), .int .u64 (r.b : Int), .int .u64 (r.c : Int), .int .u64 (r.d : Int), .int .u64 (r.e : Int)], .int .i64 0]) := he
  have hr1 := (HR1.out.other (p := ⟨g, 0, none⟩) (by simp; omega) (.int .u8 (a : Int))).other (p := ⟨g, 31, none⟩) (by simp; omega) (.int .u8 (b : Int))
  have hr2 := hr1.below' hb3
  have h2 := (HB1.out.setCell (p := ⟨g, 0, none⟩) (by simp; omega) (.int .u8 (a : Int))).setCell (p := ⟨g, 31, none⟩) (by simp; omega) (.int .u8 (b : Int))
  have H3 := Lib.hid (below_nx h2 (Nat.le_refl _) hb3)
  have hs2 := H3.out.size
  have hlr := hr2.lt
  obtain ⟨⟨r0, r1, r2, r3, r4⟩, q0, q1, q2, q3, q4⟩ := cells5 hr2
  have HZ2 := Lib.hid hr2
  clear hr1 hr2 h2 hb2 hsl hb3 c0 c31 f0 f31 a0 a1 a2 a3 a4
  go_wp2_with fail
  exact bodyPost_ret (results_cell Tryd.results62 _ _ _ _ _ rfl (loadE r ((set5_bl HZ2.out rfl _ _ _ _ _).alloc _))) rfl ⟨rfl, (set5_below H3.out (by omega) _ _ _ _ _).alloc (by simp [World.setCell]; omega) _⟩
set_option maxHeartbeats 1000000 in
theorem Inv_any (x : E5) (w : World) (hx : x.ok) :
    Calls Tryd.prog 36 #[.agg x.v] w fun e w' => e = .returned (.agg (el (x.val ^ (pp - 2) % pp)).v) ∧ Below w.heap.size w w' := by
  have S := fun w => power_any x 235 127 w hx (by decide) (by decide)
  rw [le_inv] at S
  obtain ⟨r, hr⟩ : ∃ r, el (x.val ^ (pp - 2) % pp) = r := ⟨_, rfl⟩
  simp only [hr] at S
  rw [hr]
  clear hr hx
  have S := Lib.hid (show ∀ w, Calls Tryd.prog 62 #[(.agg #[.int .u64 (x.a : Int), .int .u64 (x.b : Int), .int .u64 (x.c : Int), .int .u64 (x.d : Int), .int .u64 (x.e : Int)]), .int .u8 235, .int .u8 127] w fun e w' => e = .returned (.agg #[.int .u64 (r.a : Int), .int .u64 (r.b : Int), .int .u64 (r.c : Int), .int .u64 (r.d : Int), .int .u64 (r.e : Int)]) ∧ Below w.heap.size w w' from S)
  obtain ⟨⟨a0, a1, a2, a3, a4⟩, -⟩ := cells5 (show Bl ((w.alloc (.cells x.v 24)).alloc (.cells z5 24)) w.heap.size 24 #[.int .u64 (x.a : Int), .int .u64 (x.b : Int), .int .u64 (x.c : Int), .int .u64 (x.d : Int), .int .u64 (x.e : Int)] from (Bl.new_ w _ x.v).alloc _)
  have HZ := Lib.hid (show Bl ((w.alloc (.cells x.v 24)).alloc (.cells z5 24)) (w.heap.size + 1) 24 z5 from Bl.new' _ _ (by simp))
  unfold z5 at a0 a1 a2 a3 a4
  go_enter Tryd.func36, Tryd.ntmps36
  go_wp2_with (go_at_call 62; (with_reducible refine (S.out _).mono ?_); rintro e w1 ⟨rfl, hb1⟩; have hz1 := HZ.out.below' hb1; obtain ⟨⟨r0, r1, r2, r3, r4⟩, f0, f1, f2, f3, f4⟩ := cells5 hz1; have HB1 := Lib.hid hb1; clear hb1 hz1)
  have hB := ((Below.refl w.heap.size w).alloc (Nat.le_refl _) (.cells x.v 24)).alloc (by simp) (.cells z5 24)
  refine bodyPost_ret (v := .agg r.v) ?_ rfl ⟨rfl, set5_below (hB.trans (HB1.out.mono (by simp; omega))) (by omega) _ _ _ _ _⟩
  simp [results, Tryd.results36, go_sem, E5.v, r0, r1, r2, r3, r4]
theorem k_alloc' {w w' : World} {o : Obj} (h : Below (w.alloc o).heap.size (w.alloc o) w') : Below w.heap.size w w' := k_alloc h
theorem m_alloc' {w w' : World} {cs : Array Value} {t : TypeId} (h : Below (w.alloc (.cells cs t)).heap.size (w.alloc (.cells cs t)) w') : Bl w' w.heap.size t cs := m_alloc h
theorem cube' (y : Nat) : cg ((y * y % pp) * y) (y ^ 3) := by
  exact ((cg.mod (y * y)).mul (cg.rfl' y)).trans (cg.of_eq (by rw [Nat.pow_succ, Nat.pow_two]))
theorem seven (y : Nat) : cg (((y ^ 3 % pp) * (y ^ 3 % pp) % pp) * y) (y ^ 7) := by
  exact ((cg.mod _).trans (((cg.mod (y ^ 3)).mul (cg.mod (y ^ 3))).trans (cg.of_eq (by rw [← Nat.pow_add])))).mul (cg.rfl' y) |>.trans (cg.of_eq (by rw [← Nat.pow_succ]))
theorem first_r (x y : Nat) : (x * (y ^ 3 % pp) % pp) * ((x * (y ^ 7 % pp) % pp) ^ e8 % pp) % pp = x * y ^ 3 * (x * y ^ 7) ^ e8 % pp := by
  have h1 : cg (x * (y ^ 3 % pp) % pp) (x * y ^ 3) := (cg.mod _).trans ((cg.rfl' x).mul (cg.mod _))
  have h2 : cg (x * (y ^ 7 % pp) % pp) (x * y ^ 7) := (cg.mod _).trans ((cg.rfl' x).mul (cg.mod _))
  exact h1.mul ((cg.mod _).trans (h2.pow e8))
theorem got_r (r y : Nat) : (r * r % pp) * y % pp = r * r * y % pp := (cg.mod (r * r)).mul (cg.rfl' y)
/-- What Root answers. -/
def RootP (u v : Nat) (e : Ending) : Prop :=
  match rt u v with
  | some r => e = .returned (.tuple #[.agg (el r).v, .bool true])
  | none => e = .returned (.tuple #[.agg z5, .bool false])
theorem rt_a1 (y : E5) (hy : y.ok) (w : World) : Calls Tryd.prog 30 #[.agg y.v] w fun e w' => e = .returned (.agg (el (y.val * y.val % pp)).v) ∧ Below w.heap.size w w' := by
  have h := Square_any y w hy
  exact h
theorem rt_a2 (y : E5) (hy : y.ok) (w : World) : Calls Tryd.prog 28 #[.agg (el (y.val * y.val % pp)).v, .agg y.v] w fun e w' => e = .returned (.agg (el (y.val ^ 3 % pp)).v) ∧ Below w.heap.size w w' := by
  have h := Mul_any (el (y.val * y.val % pp)) y w (el_ok (mod_lt _)) hy
  rw [el_val, cg_mod_eq (cube' y.val)] at h
  exact h
theorem rt_a3 (v : Nat) (w : World) : Calls Tryd.prog 30 #[.agg (el (v ^ 3 % pp)).v] w fun e w' => e = .returned (.agg (el ((v ^ 3 % pp) * (v ^ 3 % pp) % pp)).v) ∧ Below w.heap.size w w' := by
  have h := Square_any (el (v ^ 3 % pp)) w (el_ok (mod_lt _))
  rw [el_val] at h
  exact h
theorem rt_a4 (y : E5) (hy : y.ok) (w : World) : Calls Tryd.prog 28 #[.agg (el ((y.val ^ 3 % pp) * (y.val ^ 3 % pp) % pp)).v, .agg y.v] w fun e w' => e = .returned (.agg (el (y.val ^ 7 % pp)).v) ∧ Below w.heap.size w w' := by
  have h := Mul_any (el ((y.val ^ 3 % pp) * (y.val ^ 3 % pp) % pp)) y w (el_ok (mod_lt _)) hy
  rw [el_val, cg_mod_eq (seven y.val)] at h
  exact h
theorem rt_a5 (x : E5) (v : Nat) (hx : x.ok) (w : World) : Calls Tryd.prog 28 #[.agg x.v, .agg (el (v % pp)).v] w fun e w' => e = .returned (.agg (el (x.val * (v % pp) % pp)).v) ∧ Below w.heap.size w w' := by
  have h := Mul_any x (el (v % pp)) w hx (el_ok (mod_lt _))
  rw [el_val] at h
  exact h
theorem rt_a7 (n : Nat) (w : World) : Calls Tryd.prog 62 #[.agg (el (n % pp)).v, .int .u8 253, .int .u8 15] w fun e w' => e = .returned (.agg (el ((n % pp) ^ e8 % pp)).v) ∧ Below w.heap.size w w' := by
  have h := power_any (el (n % pp)) 253 15 w (el_ok (mod_lt _)) (by decide) (by decide)
  rw [el_val, le_e8] at h
  exact h
theorem rt_a8 (a b : Nat) (w : World) : Calls Tryd.prog 28 #[.agg (el (a % pp)).v, .agg (el (b % pp)).v] w fun e w' => e = .returned (.agg (el ((a % pp) * (b % pp) % pp)).v) ∧ Below w.heap.size w w' := by
  have h := Mul_any (el (a % pp)) (el (b % pp)) w (el_ok (mod_lt _)) (el_ok (mod_lt _))
  rw [el_val, el_val] at h
  exact h
theorem rt_a10 (n : Nat) (y : E5) (hy : y.ok) (w : World) : Calls Tryd.prog 28 #[.agg (el (n * n % pp)).v, .agg y.v] w fun e w' => e = .returned (.agg (el (n * n * y.val % pp)).v) ∧ Below w.heap.size w w' := by
  have h := Mul_any (el (n * n % pp)) y w (el_ok (mod_lt _)) hy
  rw [el_val, got_r] at h
  exact h
theorem root_lr (u v n q : Nat) (hn : u * v ^ 3 * (u * v ^ 7) ^ e8 % pp = n) (hq : n * n * v % pp = q) :
    rt u v = if q = ng u then some (ev (n * im % pp)) else if q = u % pp then some (ev n) else none := by
  unfold rt
  dsimp only
  rw [hn, hq]
end Go.Proofs.YteechlkccmcpfaaDoor.Fd
