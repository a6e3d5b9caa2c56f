/-
  The contracts of mixed: the eight words, mixed with those that a block made.
-/
import Derived.Test.YtfdjphinicafiabDoorShMade
namespace Go.Proofs.YtfdjphinicafiabDoor.Sh
open Go.RowKit Go.Proofs.YtfdjphinicafiabDoor.Gn Go.Deep
set_option linter.unusedVariables false
attribute [local go_sem ↓] Go.wp_at_zero Go.wp_at_succ

/-- The constants and the starts lie as the program's text lays them. -/
def Tab (w : World) : Prop := (∀ t, t < 80 → w.cell? ⟨0, t, none⟩ = some (.int .u64 ((kc.getD t 0 : Nat) : Int))) ∧ (∀ t, t < 8 → w.cell? ⟨1, t, none⟩ = some (.int .u64 ((sc.getD t 0 : Nat) : Int)))
theorem Tab.below {w w' : World} (h : Tab w) (hb : Below w.heap.size w w') : Tab w' := ⟨fun t ht => keepc hb (h.1 t ht), fun t ht => keepc hb (h.2 t ht)⟩
theorem Tab.drew {w : World} (h : Tab w) : Tab w.drew := h
theorem Tab.alloc {w : World} (h : Tab w) (o : Obj) : Tab (w.alloc o) := h.below ((Below.refl _ _).alloc (Nat.le_refl _) _)
theorem Tab.drewN {w : World} (h : Tab w) (n : Nat) : Tab (w.drewN n) := h
/-- Each word is below its modulus. -/
structure Lt8 (B : Bool) (v : V8) : Prop where
  a : v.a < mo B
  b : v.b < mo B
  c : v.c < mo B
  d : v.d < mo B
  e : v.e < mo B
  f : v.f < mo B
  g : v.g < mo B
  k : v.k < mo B
theorem mo_pos (b : Bool) : 0 < mo b := by cases b <;> decide
theorem mx_lt (b : Bool) (ws : List Nat) (hv : V8) (hh : Lt8 b hv) (t : Nat) : Lt8 b (mx b ws hv t) := by
  induction t with
  | zero => exact hh
  | succ t ih => exact ⟨Nat.mod_lt _ (mo_pos b), ih.a, ih.b, ih.c, Nat.mod_lt _ (mo_pos b), ih.e, ih.f, ih.g⟩
theorem notI32 (e : Nat) (he : e < 4294967296) : bits .xor .u32 IntKind.u32.max (e : Int) = ((4294967296 - 1 - e : Nat) : Int) := by
  have e1 : IntKind.u32.max = ((2 ^ 32 - 1 : Nat) : Int) := by decide
  rw [e1, u32_xor_nat _ _ (by decide) he]
  congr 1
  have h1 := Nat.xor_comm (2 ^ 32 - 1) e
  apply Nat.eq_of_testBit_eq
  intro i
  rw [Nat.testBit_xor, Nat.testBit_two_pow_sub_one]
  have h2 : (2 ^ 32 - (e + 1)).testBit i = (decide (i < 32) && !e.testBit i) := Nat.testBit_two_pow_sub_succ (by exact he) i
  rw [show 4294967296 - 1 - e = 2 ^ 32 - (e + 1) by omega, h2]
  by_cases hi : i < 32
  · simp [hi]
  · have : e.testBit i = false := Nat.testBit_lt_two_pow (Nat.lt_of_lt_of_le he (Nat.pow_le_pow_right (n := 2) (by decide) (by omega : 32 ≤ i)))
    simp [hi, this]
theorem ch_lt32 (e f g : Nat) (he : e < 4294967296) (hf : f < 4294967296) (hg : g < 4294967296) : ch false e f g < 4294967296 := by
  unfold ch
  exact Nat.xor_lt_two_pow (n := 32) (Nat.and_lt_two_pow _ hf) (Nat.and_lt_two_pow _ hg)
theorem chI32 (e f g : Nat) (he : e < 4294967296) (hf : f < 4294967296) (hg : g < 4294967296) :
    bits .xor .u32 (bits .and .u32 (e : Int) (f : Int)) (bits .and .u32 (bits .xor .u32 IntKind.u32.max (e : Int)) (g : Int)) = ((ch false e f g : Nat) : Int) := by
  rw [notI32 e he, u32_and_nat _ _ he hf, u32_and_nat _ _ (by omega) hg, u32_xor_nat _ _ (Nat.and_lt_two_pow (n := 32) _ hf) (Nat.and_lt_two_pow (n := 32) _ hg)]
  rfl
theorem maI32 (x y z : Nat) (hx : x < 4294967296) (hy : y < 4294967296) (hz : z < 4294967296) :
    bits .xor .u32 (bits .xor .u32 (bits .and .u32 (x : Int) (y : Int)) (bits .and .u32 (x : Int) (z : Int))) (bits .and .u32 (y : Int) (z : Int)) = ((ma x y z : Nat) : Int) := by
  rw [u32_and_nat _ _ hx hy, u32_and_nat _ _ hx hz, u32_and_nat _ _ hy hz, u32_xor_nat _ _ (Nat.and_lt_two_pow (n := 32) _ hy) (Nat.and_lt_two_pow (n := 32) _ hz),
    u32_xor_nat _ _ (Nat.xor_lt_two_pow (n := 32) (Nat.and_lt_two_pow _ hy) (Nat.and_lt_two_pow _ hz)) (Nat.and_lt_two_pow (n := 32) _ hz)]
  rfl
theorem rx32 (V : V8) (hV : Lt8 false V) (C W : Nat) :
    (((((V.k : Int) + ((g1 false V.e : Nat) : Int)) % 4294967296 + bits .xor .u32 (bits .and .u32 (V.e : Int) (V.f : Int)) (bits .and .u32 (bits .xor .u32 IntKind.u32.max (V.e : Int)) (V.g : Int))) % 4294967296 + (C : Int) / 2 ^ min 32 64 % 4294967296) % 4294967296 + (W : Int)) % 4294967296
      = ((rx false (C / 2 ^ (64 - 32)) W V : Nat) : Int) := by
  rw [chI32 _ _ _ hV.e hV.f hV.g, show min 32 64 = 64 - 32 from rfl, div_cast]
  unfold rx
  rw [mo_false]
  generalize C / 2 ^ (64 - 32) = K
  omega
theorem ry32 (V : V8) (hV : Lt8 false V) :
    (((g0 false V.a : Nat) : Int) + bits .xor .u32 (bits .xor .u32 (bits .and .u32 (V.a : Int) (V.b : Int)) (bits .and .u32 (V.a : Int) (V.c : Int))) (bits .and .u32 (V.b : Int) (V.c : Int))) % 4294967296 = ((ry false V : Nat) : Int) := by
  rw [maI32 _ _ _ hV.a hV.b hV.c]
  unfold ry
  rw [mo_false]
  omega
theorem eight32 : (Tryd.prog.info? 84).map (·.size) = some 8 := by kernel_rfl
def X32 (w wr : World) (arr : Array Value) : Prop :=
  Bl wr w.heap.size 77 (kv false) ∧ Bl wr (w.heap.size + 1 + 1) 86 arr ∧ (∃ z : Array Value, z.size = 8 ∧ Bl wr (w.heap.size + 1 + 1 + 1) 84 z) ∧ Below w.heap.size w wr
def vl32 (v : V8) : Array Value := #[.int .u32 (v.a : Int), .int .u32 (v.b : Int), .int .u32 (v.c : Int), .int .u32 (v.d : Int), .int .u32 (v.e : Int), .int .u32 (v.f : Int), .int .u32 (v.g : Int), .int .u32 (v.k : Int)]
/-- What holds at the head of each round. -/
def R32 (ws : List Nat) (hv : V8) (w : World) (arr : Array Value) (a b c d e f g k i : Value) (wr : World) : Prop :=
  ∃ (t : Nat) (V : V8), t ≤ 64 ∧ i = .int .i64 (t : Int) ∧ V = mx false ws hv t ∧ a = .int .u32 (V.a : Int) ∧ b = .int .u32 (V.b : Int) ∧ c = .int .u32 (V.c : Int) ∧ d = .int .u32 (V.d : Int) ∧ e = .int .u32 (V.e : Int) ∧ f = .int .u32 (V.f : Int) ∧ g = .int .u32 (V.g : Int) ∧ k = .int .u32 (V.k : Int) ∧ X32 w wr arr

set_option maxRecDepth 100000 in
set_option maxHeartbeats 2000000 in
theorem mixed32_any (hv : V8) (hh : Lt8 false hv) (arr : Array Value) (ws : List Nat) (w : World) (hsz : arr.size = 80) (harr : ∀ j, j < 64 → arr[j]? = some (.int .u32 ((ws.getD j 0 : Nat) : Int))) (tab : Tab w) :
    Calls Tryd.prog 59 #[.agg (kv false), .agg (vl32 hv), .agg arr] w fun e w' => e = .returned (.agg (vl32 (mx false ws hv 64))) ∧ Below w.heap.size w w' := by
  have TAB := Lib.hid tab
  have HARR := Lib.hid harr
  have HH := Lib.hid hh
  clear tab harr hh
  obtain ⟨VR, hVR⟩ : ∃ V, V = mx false ws hv 64 := ⟨_, rfl⟩
  rw [← hVR]
  have HVR := Lib.hid hVR
  clear hVR
  rw [kv_false]
  unfold vl32
  go_enter Tryd.func59, Tryd.ntmps59
  go_wp2
  go_quiet (fail)
  go_wp2_with fail
  go_loopw [7, 8, 9, 10, 11, 12, 13, 14, 38] (fun a b c d e f g k i wr => R32 ws hv w arr a b c d e f g k i wr) (fun _ _ _ _ _ _ _ _ i _ => 64 - (intOf i).toNat)
  case atStart =>
    refine ⟨0, hv, Nat.zero_le _, rfl, rfl, rfl, rfl, rfl, rfl, rfl, rfl, rfl, rfl, ?_, ?_, ⟨#[.int .u32 0, .int .u32 0, .int .u32 0, .int .u32 0, .int .u32 0, .int .u32 0, .int .u32 0, .int .u32 0], rfl, ?_⟩, ?_⟩
    · exact ((((Bl.new_ w _ _).alloc _).alloc _).alloc _).drewN _
    · exact (((Bl.new' (w := (w.alloc _).alloc _) _ _ (by simp))).alloc _).drewN _
    · exact (Bl.new' (w := ((w.alloc _).alloc _).alloc _) _ _ (by simp)).drewN _
    · exact below_drewN (((((Below.refl _ _).alloc (Nat.le_refl _) _).alloc (by simp) _).alloc (by simp; omega) _).alloc (by simp; omega) _) _
  case round =>
    obtain ⟨t, V, ht, rfl, hV, rfl, rfl, rfl, rfl, rfl, rfl, rfl, rfl, hX⟩ := hrel
    have HV := Lib.hid hV
    have HX := Lib.hid hX
    clear hV hX
    by_cases hlt : t < 64
    · have hkc := TAB.out.1 t (by omega)
      obtain ⟨C, hC⟩ : ∃ C, C = kc.getD t 0 := ⟨_, rfl⟩
      obtain ⟨W, hW⟩ : ∃ W, W = ws.getD t 0 := ⟨_, rfl⟩
      have hc := HX.out.2.1.cell t
      rw [HARR.out t hlt, ← hW] at hc
      rw [← hC] at hkc
      have hkc := keepc HX.out.2.2.2 hkc
      have HC := Lib.hid hC
      have HW := Lib.hid hW
      clear hC hW
      have kvs := HX.out.1.cell
      rw [kv_false] at kvs
      have kv0 := kvs 0
      have kv8 := kvs 8
      have kv9 := kvs 9
      have kv10 := kvs 10
      have kv11 := kvs 11
      have kv12 := kvs 12
      have kv13 := kvs 13
      clear kvs
      simp only [List.getElem?_toArray, List.getElem?_cons_zero, List.getElem?_cons_succ] at kv0 kv8 kv9 kv10 kv11 kv12 kv13
      have LV := Lib.hid (show Lt8 false V by rw [HV.out]; exact mx_lt false ws hv HH.out t)
      have bt : (t : Int) < 80 := by omega
      go_wp2_with fail
      go_region_held3 (fun x => x.cell? ⟨0, t, none⟩ = some (.int .u64 (C : Int)) ∧ x.cell? ⟨w.heap.size + 1 + 1, t, none⟩ = some (.int .u32 (W : Int)) ∧ x.cell? ⟨w.heap.size, 0, none⟩ = some (.int .u64 32) ∧ x.cell? ⟨w.heap.size, 11, none⟩ = some (.int .u64 6) ∧ x.cell? ⟨w.heap.size, 12, none⟩ = some (.int .u64 11) ∧ x.cell? ⟨w.heap.size, 13, none⟩ = some (.int .u64 25))
        (first | exact ⟨hkc, hc, kv0, kv11, kv12, kv13⟩ | exact ⟨keepc hb1 hkc, keepc hb1 hc, keepc hb1 kv0, keepc hb1 kv11, keepc hb1 kv12, keepc hb1 kv13⟩)
        (first | (go_at_call 63; refine (great32_1 V.e _ (LV.out.e)).mono ?_; rintro e w1 ⟨rfl, hb1⟩))
      rename_i hHeld
      clear hHeld
      have kw0 := keepc hb1 kv0
      have kw8 := keepc hb1 kv8
      have kw9 := keepc hb1 kv9
      have kw10 := keepc hb1 kv10
      have HB1 := Lib.hid hb1
      clear hb1 hkc hc kv0 kv8 kv9 kv10 kv11 kv12 kv13
      go_wp2_with (go_at_call 63; refine (great32_0 V.a _ (LV.out.a)).mono ?_; rintro e w2 ⟨rfl, hb2⟩)
      have HB2 := Lib.hid hb2
      clear hb2 kw0 kw8 kw9 kw10
      go_roundw
      case rel =>
        have hbw : Below wr.heap.size wr w2 := (((Below.refl _ _).drew).trans HB1.out).trans (HB2.out.mono HB1.out.size)
        obtain ⟨z, hz0, hz⟩ := HX.out.2.2.1
        have ex := rx32 V LV.out C W
        have ey := ry32 V LV.out
        have hk : kt false t = C / 2 ^ (64 - 32) := by rw [HC.out]; rfl
        refine ⟨t + 1, mx false ws hv (t + 1), by omega, by go_num, rfl, ?_, ?_, ?_, ?_, ?_, ?_, ?_, ?_, HX.out.1.below' hbw, HX.out.2.1.below' hbw, ⟨z, hz0, hz.below' hbw⟩, HX.out.2.2.2.trans (hbw.mono HX.out.2.2.2.size)⟩
        all_goals rw [mx, ← HV.out, hk, ← HW.out]
        all_goals simp only [rnd]
        · exact congrArg _ (by (try simp only [IntKind.wrap_u32]); rw [ex, ey, mo_false]; simp)
        · exact congrArg _ (by (try simp only [IntKind.wrap_u32]); rw [ex, mo_false]; simp)
      case measure => simp [intOf]; omega
    · obtain rfl : t = 64 := by omega
      obtain ⟨z, hz0, hz⟩ := HX.out.2.2.1
      have zc : ∀ j, j < 8 → ∃ v, wr.cell? ⟨w.heap.size + 1 + 1 + 1, j, none⟩ = some v := fun j hj => ⟨z[j]'(by omega), by rw [hz.cell, Array.getElem?_eq_getElem]⟩
      have zf := fun j => hz.frozen j
      obtain ⟨v0, z0⟩ := zc 0 (by decide)
      obtain ⟨v1, z1⟩ := zc 1 (by decide)
      obtain ⟨v2, z2⟩ := zc 2 (by decide)
      obtain ⟨v3, z3⟩ := zc 3 (by decide)
      obtain ⟨v4, z4⟩ := zc 4 (by decide)
      obtain ⟨v5, z5⟩ := zc 5 (by decide)
      obtain ⟨v6, z6⟩ := zc 6 (by decide)
      obtain ⟨v7, z7⟩ := zc 7 (by decide)
      clear zc
      go_wp2
      have hVV : V = VR := HV.out.trans HVR.out.symm
      have HB8 := ((((((((hz.set_ 0 (.int .u32 (V.a : Int))).set_ 1 (.int .u32 (V.b : Int))).set_ 2 (.int .u32 (V.c : Int))).set_ 3 (.int .u32 (V.d : Int))).set_ 4 (.int .u32 (V.e : Int))).set_ 5 (.int .u32 (V.f : Int))).set_ 6 (.int .u32 (V.g : Int))).set_ 7 (.int .u32 (V.k : Int)))
      rw [set8 hz0] at HB8
      refine bodyPost_ret (v := .agg (vl32 V)) (results_cell_row rfl _ _ (w.heap.size + 1 + 1 + 1) 84 _ (0, 0) _ rfl HB8 Tryd.underlying84 rfl eight32) rfl ⟨?_, ?_⟩
      · rw [hVV]; rfl
      · clear HB8
        iterate 8 (refine Below.setCell ?_ (by simp; omega) _)
        exact HX.out.2.2.2
theorem notI64 (e : Nat) (he : e < 18446744073709551616) : bits .xor .u64 IntKind.u64.max (e : Int) = ((18446744073709551616 - 1 - e : Nat) : Int) := by
  have e1 : IntKind.u64.max = ((2 ^ 64 - 1 : Nat) : Int) := by decide
  rw [e1, u64_xor_nat _ _ (by decide) he]
  congr 1
  have h1 := Nat.xor_comm (2 ^ 64 - 1) e
  apply Nat.eq_of_testBit_eq
  intro i
  rw [Nat.testBit_xor, Nat.testBit_two_pow_sub_one]
  have h2 : (2 ^ 64 - (e + 1)).testBit i = (decide (i < 64) && !e.testBit i) := Nat.testBit_two_pow_sub_succ (by exact he) i
  rw [show 18446744073709551616 - 1 - e = 2 ^ 64 - (e + 1) by omega, h2]
  by_cases hi : i < 64
  · simp [hi]
  · have : e.testBit i = false := Nat.testBit_lt_two_pow (Nat.lt_of_lt_of_le he (Nat.pow_le_pow_right (n := 2) (by decide) (by omega : 64 ≤ i)))
    simp [hi, this]
theorem ch_lt64 (e f g : Nat) (he : e < 18446744073709551616) (hf : f < 18446744073709551616) (hg : g < 18446744073709551616) : ch true e f g < 18446744073709551616 := by
  unfold ch
  exact Nat.xor_lt_two_pow (n := 64) (Nat.and_lt_two_pow _ hf) (Nat.and_lt_two_pow _ hg)
theorem chI64 (e f g : Nat) (he : e < 18446744073709551616) (hf : f < 18446744073709551616) (hg : g < 18446744073709551616) :
    bits .xor .u64 (bits .and .u64 (e : Int) (f : Int)) (bits .and .u64 (bits .xor .u64 IntKind.u64.max (e : Int)) (g : Int)) = ((ch true e f g : Nat) : Int) := by
  rw [notI64 e he, u64_and_nat _ _ he hf, u64_and_nat _ _ (by omega) hg, u64_xor_nat _ _ (Nat.and_lt_two_pow (n := 64) _ hf) (Nat.and_lt_two_pow (n := 64) _ hg)]
  rfl
theorem maI64 (x y z : Nat) (hx : x < 18446744073709551616) (hy : y < 18446744073709551616) (hz : z < 18446744073709551616) :
    bits .xor .u64 (bits .xor .u64 (bits .and .u64 (x : Int) (y : Int)) (bits .and .u64 (x : Int) (z : Int))) (bits .and .u64 (y : Int) (z : Int)) = ((ma x y z : Nat) : Int) := by
  rw [u64_and_nat _ _ hx hy, u64_and_nat _ _ hx hz, u64_and_nat _ _ hy hz, u64_xor_nat _ _ (Nat.and_lt_two_pow (n := 64) _ hy) (Nat.and_lt_two_pow (n := 64) _ hz),
    u64_xor_nat _ _ (Nat.xor_lt_two_pow (n := 64) (Nat.and_lt_two_pow _ hy) (Nat.and_lt_two_pow _ hz)) (Nat.and_lt_two_pow (n := 64) _ hz)]
  rfl
theorem rx64 (V : V8) (hV : Lt8 true V) (C W : Nat) :
    (((((V.k : Int) + ((g1 true V.e : Nat) : Int)) % 18446744073709551616 + bits .xor .u64 (bits .and .u64 (V.e : Int) (V.f : Int)) (bits .and .u64 (bits .xor .u64 IntKind.u64.max (V.e : Int)) (V.g : Int))) % 18446744073709551616 + (C : Int) / 2 ^ min 0 64) % 18446744073709551616 + (W : Int)) % 18446744073709551616
      = ((rx true (C / 2 ^ (64 - 64)) W V : Nat) : Int) := by
  rw [chI64 _ _ _ hV.e hV.f hV.g, show min 0 64 = 64 - 64 from rfl, div_cast]
  unfold rx
  rw [mo_true]
  generalize C / 2 ^ (64 - 64) = K
  omega
theorem ry64 (V : V8) (hV : Lt8 true V) :
    (((g0 true V.a : Nat) : Int) + bits .xor .u64 (bits .xor .u64 (bits .and .u64 (V.a : Int) (V.b : Int)) (bits .and .u64 (V.a : Int) (V.c : Int))) (bits .and .u64 (V.b : Int) (V.c : Int))) % 18446744073709551616 = ((ry true V : Nat) : Int) := by
  rw [maI64 _ _ _ hV.a hV.b hV.c]
  unfold ry
  rw [mo_true]
  omega
theorem eight64 : (Tryd.prog.info? 58).map (·.size) = some 8 := by kernel_rfl
def X64 (w wr : World) (arr : Array Value) : Prop :=
  Bl wr w.heap.size 77 (kv true) ∧ Bl wr (w.heap.size + 1 + 1) 55 arr ∧ (∃ z : Array Value, z.size = 8 ∧ Bl wr (w.heap.size + 1 + 1 + 1) 58 z) ∧ Below w.heap.size w wr
def vl64 (v : V8) : Array Value := #[.int .u64 (v.a : Int), .int .u64 (v.b : Int), .int .u64 (v.c : Int), .int .u64 (v.d : Int), .int .u64 (v.e : Int), .int .u64 (v.f : Int), .int .u64 (v.g : Int), .int .u64 (v.k : Int)]
/-- What holds at the head of each round. -/
def R64 (ws : List Nat) (hv : V8) (w : World) (arr : Array Value) (a b c d e f g k i : Value) (wr : World) : Prop :=
  ∃ (t : Nat) (V : V8), t ≤ 80 ∧ i = .int .i64 (t : Int) ∧ V = mx true ws hv t ∧ a = .int .u64 (V.a : Int) ∧ b = .int .u64 (V.b : Int) ∧ c = .int .u64 (V.c : Int) ∧ d = .int .u64 (V.d : Int) ∧ e = .int .u64 (V.e : Int) ∧ f = .int .u64 (V.f : Int) ∧ g = .int .u64 (V.g : Int) ∧ k = .int .u64 (V.k : Int) ∧ X64 w wr arr

set_option maxRecDepth 100000 in
set_option maxHeartbeats 2000000 in
theorem mixed64_any (hv : V8) (hh : Lt8 true hv) (arr : Array Value) (ws : List Nat) (w : World) (hsz : arr.size = 80) (harr : ∀ j, j < 80 → arr[j]? = some (.int .u64 ((ws.getD j 0 : Nat) : Int))) (tab : Tab w) :
    Calls Tryd.prog 61 #[.agg (kv true), .agg (vl64 hv), .agg arr] w fun e w' => e = .returned (.agg (vl64 (mx true ws hv 80))) ∧ Below w.heap.size w w' := by
  have TAB := Lib.hid tab
  have HARR := Lib.hid harr
  have HH := Lib.hid hh
  clear tab harr hh
  obtain ⟨VR, hVR⟩ : ∃ V, V = mx true ws hv 80 := ⟨_, rfl⟩
  rw [← hVR]
  have HVR := Lib.hid hVR
  clear hVR
  rw [kv_true]
  unfold vl64
  go_enter Tryd.func61, Tryd.ntmps61
  go_wp2
  go_quiet (fail)
  go_wp2_with fail
  go_loopw [7, 8, 9, 10, 11, 12, 13, 14, 38] (fun a b c d e f g k i wr => R64 ws hv w arr a b c d e f g k i wr) (fun _ _ _ _ _ _ _ _ i _ => 80 - (intOf i).toNat)
  case atStart =>
    refine ⟨0, hv, Nat.zero_le _, rfl, rfl, rfl, rfl, rfl, rfl, rfl, rfl, rfl, rfl, ?_, ?_, ⟨#[.int .u64 0, .int .u64 0, .int .u64 0, .int .u64 0, .int .u64 0, .int .u64 0, .int .u64 0, .int .u64 0], rfl, ?_⟩, ?_⟩
    · exact ((((Bl.new_ w _ _).alloc _).alloc _).alloc _).drewN _
    · exact (((Bl.new' (w := (w.alloc _).alloc _) _ _ (by simp))).alloc _).drewN _
    · exact (Bl.new' (w := ((w.alloc _).alloc _).alloc _) _ _ (by simp)).drewN _
    · exact below_drewN (((((Below.refl _ _).alloc (Nat.le_refl _) _).alloc (by simp) _).alloc (by simp; omega) _).alloc (by simp; omega) _) _
  case round =>
    obtain ⟨t, V, ht, rfl, hV, rfl, rfl, rfl, rfl, rfl, rfl, rfl, rfl, hX⟩ := hrel
    have HV := Lib.hid hV
    have HX := Lib.hid hX
    clear hV hX
    by_cases hlt : t < 80
    · have hkc := TAB.out.1 t (by omega)
      obtain ⟨C, hC⟩ : ∃ C, C = kc.getD t 0 := ⟨_, rfl⟩
      obtain ⟨W, hW⟩ : ∃ W, W = ws.getD t 0 := ⟨_, rfl⟩
      have hc := HX.out.2.1.cell t
      rw [HARR.out t hlt, ← hW] at hc
      rw [← hC] at hkc
      have hkc := keepc HX.out.2.2.2 hkc
      have HC := Lib.hid hC
      have HW := Lib.hid hW
      clear hC hW
      have kvs := HX.out.1.cell
      rw [kv_true] at kvs
      have kv0 := kvs 0
      have kv8 := kvs 8
      have kv9 := kvs 9
      have kv10 := kvs 10
      have kv11 := kvs 11
      have kv12 := kvs 12
      have kv13 := kvs 13
      clear kvs
      simp only [List.getElem?_toArray, List.getElem?_cons_zero, List.getElem?_cons_succ] at kv0 kv8 kv9 kv10 kv11 kv12 kv13
      have LV := Lib.hid (show Lt8 true V by rw [HV.out]; exact mx_lt true ws hv HH.out t)
      have bt : (t : Int) < 80 := by omega
      go_wp2_with fail
      go_region_held3 (fun x => x.cell? ⟨0, t, none⟩ = some (.int .u64 (C : Int)) ∧ x.cell? ⟨w.heap.size + 1 + 1, t, none⟩ = some (.int .u64 (W : Int)) ∧ x.cell? ⟨w.heap.size, 0, none⟩ = some (.int .u64 64) ∧ x.cell? ⟨w.heap.size, 11, none⟩ = some (.int .u64 14) ∧ x.cell? ⟨w.heap.size, 12, none⟩ = some (.int .u64 18) ∧ x.cell? ⟨w.heap.size, 13, none⟩ = some (.int .u64 41))
        (first | exact ⟨hkc, hc, kv0, kv11, kv12, kv13⟩ | exact ⟨keepc hb1 hkc, keepc hb1 hc, keepc hb1 kv0, keepc hb1 kv11, keepc hb1 kv12, keepc hb1 kv13⟩)
        (first | (go_at_call 66; refine (great64_1 V.e _ (LV.out.e)).mono ?_; rintro e w1 ⟨rfl, hb1⟩))
      rename_i hHeld
      clear hHeld
      have kw0 := keepc hb1 kv0
      have kw8 := keepc hb1 kv8
      have kw9 := keepc hb1 kv9
      have kw10 := keepc hb1 kv10
      have HB1 := Lib.hid hb1
      clear hb1 hkc hc kv0 kv8 kv9 kv10 kv11 kv12 kv13
      go_wp2_with (go_at_call 66; refine (great64_0 V.a _ (LV.out.a)).mono ?_; rintro e w2 ⟨rfl, hb2⟩)
      have HB2 := Lib.hid hb2
      clear hb2 kw0 kw8 kw9 kw10
      go_roundw
      case rel =>
        have hbw : Below wr.heap.size wr w2 := (((Below.refl _ _).drew).trans HB1.out).trans (HB2.out.mono HB1.out.size)
        obtain ⟨z, hz0, hz⟩ := HX.out.2.2.1
        have ex := rx64 V LV.out C W
        have ey := ry64 V LV.out
        have hk : kt true t = C / 2 ^ (64 - 64) := by rw [HC.out]; rfl
        refine ⟨t + 1, mx true ws hv (t + 1), by omega, by go_num, rfl, ?_, ?_, ?_, ?_, ?_, ?_, ?_, ?_, HX.out.1.below' hbw, HX.out.2.1.below' hbw, ⟨z, hz0, hz.below' hbw⟩, HX.out.2.2.2.trans (hbw.mono HX.out.2.2.2.size)⟩
        all_goals rw [mx, ← HV.out, hk, ← HW.out]
        all_goals simp only [rnd]
        · exact congrArg _ (by (try simp only [IntKind.wrap_u64]); rw [ex, ey, mo_true]; simp)
        · exact congrArg _ (by (try simp only [IntKind.wrap_u64]); rw [ex, mo_true]; simp)
      case measure => simp [intOf]; omega
    · obtain rfl : t = 80 := by omega
      obtain ⟨z, hz0, hz⟩ := HX.out.2.2.1
      have zc : ∀ j, j < 8 → ∃ v, wr.cell? ⟨w.heap.size + 1 + 1 + 1, j, none⟩ = some v := fun j hj => ⟨z[j]'(by omega), by rw [hz.cell, Array.getElem?_eq_getElem]⟩
      have zf := fun j => hz.frozen j
      obtain ⟨v0, z0⟩ := zc 0 (by decide)
      obtain ⟨v1, z1⟩ := zc 1 (by decide)
      obtain ⟨v2, z2⟩ := zc 2 (by decide)
      obtain ⟨v3, z3⟩ := zc 3 (by decide)
      obtain ⟨v4, z4⟩ := zc 4 (by decide)
      obtain ⟨v5, z5⟩ := zc 5 (by decide)
      obtain ⟨v6, z6⟩ := zc 6 (by decide)
      obtain ⟨v7, z7⟩ := zc 7 (by decide)
      clear zc
      go_wp2
      have hVV : V = VR := HV.out.trans HVR.out.symm
      have HB8 := ((((((((hz.set_ 0 (.int .u64 (V.a : Int))).set_ 1 (.int .u64 (V.b : Int))).set_ 2 (.int .u64 (V.c : Int))).set_ 3 (.int .u64 (V.d : Int))).set_ 4 (.int .u64 (V.e : Int))).set_ 5 (.int .u64 (V.f : Int))).set_ 6 (.int .u64 (V.g : Int))).set_ 7 (.int .u64 (V.k : Int)))
      rw [set8 hz0] at HB8
      refine bodyPost_ret (v := .agg (vl64 V)) (results_cell_row rfl _ _ (w.heap.size + 1 + 1 + 1) 58 _ (0, 0) _ rfl HB8 Tryd.underlying58 rfl eight64) rfl ⟨?_, ?_⟩
      · rw [hVV]; rfl
      · clear HB8
        iterate 8 (refine Below.setCell ?_ (by simp; omega) _)
        exact HX.out.2.2.2
end Go.Proofs.YtfdjphinicafiabDoor.Sh
