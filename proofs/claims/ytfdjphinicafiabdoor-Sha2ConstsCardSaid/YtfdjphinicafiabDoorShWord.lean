/-
  The contracts of the functions that turn words and put them together.
-/
import Derived.Test.YtfdjphinicafiabDoorProg
import Derived.Test.YtfdjphinicafiabDoorShPlain
import Derived.Test.YtfdjphinicafiabDoorGnSl
import Derived.Deep.QuietTactic
import Derived.BigQuiet
namespace Go.Proofs.YtfdjphinicafiabDoor.Sh
open Go.RowKit Go.Proofs.YtfdjphinicafiabDoor.Gn
set_option linter.unusedVariables false

theorem tr_lt (W x n : Nat) (hx : x < 2 ^ W) : tr W x n < 2 ^ W := by
  unfold tr
  exact Nat.or_lt_two_pow (Nat.lt_of_le_of_lt (Nat.div_le_self _ _) hx) (Nat.mod_lt _ (Nat.two_pow_pos _))
theorem sm_lt (W x a b c : Nat) (hx : x < 2 ^ W) : sm W x a b c < 2 ^ W := by
  unfold sm
  exact Nat.xor_lt_two_pow (Nat.xor_lt_two_pow (tr_lt _ _ _ hx) (tr_lt _ _ _ hx)) (Nat.lt_of_le_of_lt (Nat.div_le_self _ _) hx)
theorem gr_lt (W x a b c : Nat) (hx : x < 2 ^ W) : gr W x a b c < 2 ^ W := by
  unfold gr
  exact Nat.xor_lt_two_pow (Nat.xor_lt_two_pow (tr_lt _ _ _ hx) (tr_lt _ _ _ hx)) (tr_lt _ _ _ hx)
theorem div_cast (x n : Nat) : (x : Int) / 2 ^ n = ((x / 2 ^ n : Nat) : Int) := by simp
theorem turned32_any (x n : Nat) (w : World) (hx : x < 4294967296) (h1 : 1 ≤ n) (h2 : n < 32) :
    Calls Tryd.prog 69 #[.int .u32 (x : Int), .int .u64 (n : Int), .int .u64 32] w fun e w' => e = .returned (.int .u32 ((tr 32 x n : Nat) : Int)) ∧ w' = w := by
  go_enter Tryd.func69, Tryd.ntmps69
  go_wp2
  go_ret
  refine ⟨ret_int ?_, rfl⟩
  have e1 : (x : Int) * 2 ^ (32 - n) % 4294967296 = ((x * 2 ^ (32 - n) % 4294967296 : Nat) : Int) := by simp
  try rw [IntKind.wrap_u64]
  rw [div_cast, e1, u32_or_nat _ _ (Nat.lt_of_le_of_lt (Nat.div_le_self _ _) hx) (Nat.mod_lt _ (by decide))]
  rfl
set_option maxRecDepth 100000 in
theorem small32_any (x a b c : Nat) (w : World) (hx : x < 4294967296) (ha : 1 ≤ a) (ha' : a < 32) (hb : 1 ≤ b) (hb' : b < 32) (hc : c < 32) :
    Calls Tryd.prog 65 #[.int .u32 (x : Int), .agg #[.int .u64 (a : Int), .int .u64 (b : Int), .int .u64 (c : Int)], .int .u64 32] w
      fun e w' => e = .returned (.int .u32 ((sm 32 x a b c : Nat) : Int)) ∧ Below w.heap.size w w' := by
  go_enter Tryd.func65, Tryd.ntmps65
  go_wp2
  go_quiet ((go_at_call 69; exact Calls.quiet_of_same (turned32_any _ _ _ hx (by assumption) (by assumption))))
  go_wp2
  go_ret
  refine ⟨ret_int ?_, below_drewN ((Below.refl _ _).alloc (Nat.le_refl _) _) nq⟩
  have t1 := tr_lt 32 x a hx
  have t2 := tr_lt 32 x b hx
  rw [div_cast, u32_xor_nat _ _ t1 t2, u32_xor_nat _ _ (Nat.xor_lt_two_pow t1 t2) (Nat.lt_of_le_of_lt (Nat.div_le_self _ _) hx)]
  rfl
set_option maxRecDepth 100000 in
theorem great32_any (x a b c : Nat) (w : World) (hx : x < 4294967296) (ha : 1 ≤ a) (ha' : a < 32) (hb : 1 ≤ b) (hb' : b < 32) (hc : 1 ≤ c) (hc' : c < 32) :
    Calls Tryd.prog 63 #[.int .u32 (x : Int), .agg #[.int .u64 (a : Int), .int .u64 (b : Int), .int .u64 (c : Int)], .int .u64 32] w
      fun e w' => e = .returned (.int .u32 ((gr 32 x a b c : Nat) : Int)) ∧ Below w.heap.size w w' := by
  go_enter Tryd.func63, Tryd.ntmps63
  go_wp2
  go_quiet ((go_at_call 69; exact Calls.quiet_of_same (turned32_any _ _ _ hx (by assumption) (by assumption))))
  go_wp2
  go_ret
  refine ⟨ret_int ?_, below_drewN ((Below.refl _ _).alloc (Nat.le_refl _) _) nq⟩
  have t1 := tr_lt 32 x a hx
  have t2 := tr_lt 32 x b hx
  have t3 := tr_lt 32 x c hx
  rw [u32_xor_nat _ _ t1 t2, u32_xor_nat _ _ (Nat.xor_lt_two_pow t1 t2) t3]
  rfl
theorem turned64_any (x n : Nat) (w : World) (hx : x < 18446744073709551616) (h1 : 1 ≤ n) (h2 : n < 64) :
    Calls Tryd.prog 70 #[.int .u64 (x : Int), .int .u64 (n : Int), .int .u64 64] w fun e w' => e = .returned (.int .u64 ((tr 64 x n : Nat) : Int)) ∧ w' = w := by
  go_enter Tryd.func70, Tryd.ntmps70
  go_wp2
  go_ret
  refine ⟨ret_int ?_, rfl⟩
  have e1 : (x : Int) * 2 ^ (64 - n) % 18446744073709551616 = ((x * 2 ^ (64 - n) % 18446744073709551616 : Nat) : Int) := by simp
  try rw [IntKind.wrap_u64]
  rw [div_cast, e1, u64_or_nat _ _ (Nat.lt_of_le_of_lt (Nat.div_le_self _ _) hx) (Nat.mod_lt _ (by decide))]
  rfl
set_option maxRecDepth 100000 in
theorem small64_any (x a b c : Nat) (w : World) (hx : x < 18446744073709551616) (ha : 1 ≤ a) (ha' : a < 64) (hb : 1 ≤ b) (hb' : b < 64) (hc : c < 64) :
    Calls Tryd.prog 68 #[.int .u64 (x : Int), .agg #[.int .u64 (a : Int), .int .u64 (b : Int), .int .u64 (c : Int)], .int .u64 64] w
      fun e w' => e = .returned (.int .u64 ((sm 64 x a b c : Nat) : Int)) ∧ Below w.heap.size w w' := by
  go_enter Tryd.func68, Tryd.ntmps68
  go_wp2
  go_quiet ((go_at_call 70; exact Calls.quiet_of_same (turned64_any _ _ _ hx (by assumption) (by assumption))))
  go_wp2
  go_ret
  refine ⟨ret_int ?_, below_drewN ((Below.refl _ _).alloc (Nat.le_refl _) _) nq⟩
  have t1 := tr_lt 64 x a hx
  have t2 := tr_lt 64 x b hx
  rw [div_cast, u64_xor_nat _ _ t1 t2, u64_xor_nat _ _ (Nat.xor_lt_two_pow t1 t2) (Nat.lt_of_le_of_lt (Nat.div_le_self _ _) hx)]
  rfl
set_option maxRecDepth 100000 in
theorem great64_any (x a b c : Nat) (w : World) (hx : x < 18446744073709551616) (ha : 1 ≤ a) (ha' : a < 64) (hb : 1 ≤ b) (hb' : b < 64) (hc : 1 ≤ c) (hc' : c < 64) :
    Calls Tryd.prog 66 #[.int .u64 (x : Int), .agg #[.int .u64 (a : Int), .int .u64 (b : Int), .int .u64 (c : Int)], .int .u64 64] w
      fun e w' => e = .returned (.int .u64 ((gr 64 x a b c : Nat) : Int)) ∧ Below w.heap.size w w' := by
  go_enter Tryd.func66, Tryd.ntmps66
  go_wp2
  go_quiet ((go_at_call 70; exact Calls.quiet_of_same (turned64_any _ _ _ hx (by assumption) (by assumption))))
  go_wp2
  go_ret
  refine ⟨ret_int ?_, below_drewN ((Below.refl _ _).alloc (Nat.le_refl _) _) nq⟩
  have t1 := tr_lt 64 x a hx
  have t2 := tr_lt 64 x b hx
  have t3 := tr_lt 64 x c hx
  rw [u64_xor_nat _ _ t1 t2, u64_xor_nat _ _ (Nat.xor_lt_two_pow t1 t2) t3]
  rfl
/-- The word that bytes are. -/
theorem jn_lt (l : List Nat) (hl : ∀ x ∈ l, x < 256) : jn l < 256 ^ l.length := by
  suffices ∀ (k : List Nat) (a n : Nat), a < 256 ^ n → (∀ x ∈ k, x < 256) → k.foldl (fun x y => x * 256 + y) a < 256 ^ (n + k.length) by
    have h := this l 0 0 (by decide) hl
    rwa [Nat.zero_add] at h
  intro k
  induction k with
  | nil => intro a n ha _; exact ha
  | cons c k ih =>
    intro a n ha hk
    have hc := hk c List.mem_cons_self
    have := ih (a * 256 + c) (n + 1) (by rw [Nat.pow_succ]; omega) fun x hx => hk x (List.mem_cons_of_mem _ hx)
    rw [List.foldl_cons, List.length_cons, show n + (k.length + 1) = n + 1 + k.length by omega]
    exact this
theorem jn_snoc (l : List Nat) (x : Nat) : jn (l ++ [x]) = jn l * 256 + x := by simp [jn, List.foldl_append]
theorem take_snoc {α : Type} (l : List α) (k : Nat) (x : α) (h : l[k]? = some x) : l.take (k + 1) = l.take k ++ [x] := by
  rw [List.take_add_one, h]; rfl
theorem jn_take_lt (l : List Nat) (k n : Nat) (hl : ∀ x ∈ l, x < 256) (hk : k < n) (h0 : 0 < n) : jn (l.take k) < 256 ^ (n - 1) := by
  have h1 := jn_lt (l.take k) fun x hx => hl x (List.mem_of_mem_take hx)
  have h2 : (l.take k).length ≤ n - 1 := by have := List.length_take_le k l; omega
  exact Nat.lt_of_lt_of_le h1 (Nat.pow_le_pow_right (by decide) h2)
def JnRel (l : List Nat) (k : IntKind) (n : Nat) (t i : Value) : Prop := ∃ j : Nat, j ≤ n ∧ i = .int .i64 (j : Int) ∧ t = .int k ((jn (l.take j) : Nat) : Int)
theorem or_byte32 (s x : Nat) (h : s < 256 ^ (4 - 1)) (hx : x < 256) : bits .or .u32 (IntKind.u32.wrap ((s : Int) * 256)) (IntKind.u32.wrap (x : Int)) = ((s * 256 + x : Nat) : Int) := by
  have h' : s < 4294967296 / 256 := Nat.lt_of_lt_of_le h (by decide)
  have e1 : IntKind.u32.wrap ((s : Int) * 256) = ((s * 256 : Nat) : Int) := by rw [IntKind.wrap_u32]; omega
  have e2 : IntKind.u32.wrap (x : Int) = (x : Int) := by rw [IntKind.wrap_u32]; omega
  rw [e1, e2, u32_or_nat _ _ (by omega) (by omega), nat_join 8 _ _ (by omega) (by simpa using hx)]
set_option maxHeartbeats 400000 in
theorem joined32_any (A : Option Addr) (n c : Nat) (hn : n = 4) (l : List Nat) (w : World) (hl : ∀ x ∈ l, x < 256) (hs : Sl w A 4 (bl l)) :
    Calls Tryd.prog 64 #[.slice A n c] w fun e w' => e = .returned (.int .u32 ((jn l : Nat) : Int)) ∧ w' = w := by
  subst hn
  have HL := Lib.hid hl
  have HS := Lib.hid hs
  have hln := Lib.hid (show l.length = 4 by simpa [bl] using hs.1)
  clear hl hs
  go_enter Tryd.func64, Tryd.ntmps64
  go_wp2
  go_loop [3, 8] (fun t i => JnRel l .u32 4 t i) (fun _ i => 4 - (intOf i).toNat)
  case atStart => exact ⟨0, Nat.zero_le _, rfl, rfl⟩
  case round =>
    obtain ⟨k, hk, rfl, rfl⟩ := hrel
    by_cases hlt : k < 4
    · obtain ⟨ad, rfl, hcell⟩ := HS.out.at_ hlt
      obtain ⟨x, hx⟩ : ∃ x, l[k]? = some x := ⟨l[k]'(by have := hln.out; omega), List.getElem?_eq_getElem _⟩
      have hc : w.cell? (ad.add k) = some (.int .u8 (x : Int)) := by rw [hcell]; simp [bl, hx]
      have HX := Lib.hid hx
      have hxl := Lib.hid (HL.out x (List.mem_of_getElem? hx))
      clear hcell hx
      obtain ⟨s, hs⟩ : ∃ s, s = jn (l.take k) := ⟨_, rfl⟩
      rw [← hs]
      have HSS := Lib.hid hs
      clear hs
      go_wp2
      go_round
      case rel =>
        refine ⟨k + 1, by omega, by go_num, ?_⟩
        rw [take_snoc l k x HX.out, jn_snoc, ← HSS.out]
        exact congrArg _ (or_byte32 s x (by rw [HSS.out]; exact jn_take_lt l k 4 HL.out hlt (by decide)) hxl.out)
      case measure => simp [intOf]; omega
    · obtain rfl : k = 4 := by omega
      go_wp2
      go_ret
      exact ⟨ret_int (by rw [List.take_of_length_le (by have := hln.out; omega)]), rfl⟩
theorem or_byte64 (s x : Nat) (h : s < 256 ^ (8 - 1)) (hx : x < 256) : bits .or .u64 (IntKind.u64.wrap ((s : Int) * 256)) (IntKind.u64.wrap (x : Int)) = ((s * 256 + x : Nat) : Int) := by
  have h' : s < 18446744073709551616 / 256 := Nat.lt_of_lt_of_le h (by decide)
  have e1 : IntKind.u64.wrap ((s : Int) * 256) = ((s * 256 : Nat) : Int) := by rw [IntKind.wrap_u64]; omega
  have e2 : IntKind.u64.wrap (x : Int) = (x : Int) := by rw [IntKind.wrap_u64]; omega
  rw [e1, e2, u64_or_nat _ _ (by omega) (by omega), nat_join 8 _ _ (by omega) (by simpa using hx)]
set_option maxHeartbeats 400000 in
theorem joined64_any (A : Option Addr) (n c : Nat) (hn : n = 8) (l : List Nat) (w : World) (hl : ∀ x ∈ l, x < 256) (hs : Sl w A 8 (bl l)) :
    Calls Tryd.prog 67 #[.slice A n c] w fun e w' => e = .returned (.int .u64 ((jn l : Nat) : Int)) ∧ w' = w := by
  subst hn
  have HL := Lib.hid hl
  have HS := Lib.hid hs
  have hln := Lib.hid (show l.length = 8 by simpa [bl] using hs.1)
  clear hl hs
  go_enter Tryd.func67, Tryd.ntmps67
  go_wp2
  go_loop [3, 8] (fun t i => JnRel l .u64 8 t i) (fun _ i => 8 - (intOf i).toNat)
  case atStart => exact ⟨0, Nat.zero_le _, rfl, rfl⟩
  case round =>
    obtain ⟨k, hk, rfl, rfl⟩ := hrel
    by_cases hlt : k < 8
    · obtain ⟨ad, rfl, hcell⟩ := HS.out.at_ hlt
      obtain ⟨x, hx⟩ : ∃ x, l[k]? = some x := ⟨l[k]'(by have := hln.out; omega), List.getElem?_eq_getElem _⟩
      have hc : w.cell? (ad.add k) = some (.int .u8 (x : Int)) := by rw [hcell]; simp [bl, hx]
      have HX := Lib.hid hx
      have hxl := Lib.hid (HL.out x (List.mem_of_getElem? hx))
      clear hcell hx
      obtain ⟨s, hs⟩ : ∃ s, s = jn (l.take k) := ⟨_, rfl⟩
      rw [← hs]
      have HSS := Lib.hid hs
      clear hs
      go_wp2
      go_round
      case rel =>
        refine ⟨k + 1, by omega, by go_num, ?_⟩
        rw [take_snoc l k x HX.out, jn_snoc, ← HSS.out]
        exact congrArg _ (or_byte64 s x (by rw [HSS.out]; exact jn_take_lt l k 8 HL.out hlt (by decide)) hxl.out)
      case measure => simp [intOf]; omega
    · obtain rfl : k = 8 := by omega
      go_wp2
      go_ret
      exact ⟨ret_int (by rw [List.take_of_length_le (by have := hln.out; omega)]), rfl⟩
/-- What the two digests have otherwise, as cells. -/
def kv (b : Bool) : Array Value :=
  if b then #[.int .u64 64, .int .i64 80, .int .u64 1, .int .u64 8, .int .u64 7, .int .u64 19, .int .u64 61, .int .u64 6, .int .u64 28, .int .u64 34, .int .u64 39, .int .u64 14, .int .u64 18, .int .u64 41]
  else #[.int .u64 32, .int .i64 64, .int .u64 7, .int .u64 18, .int .u64 3, .int .u64 17, .int .u64 19, .int .u64 10, .int .u64 2, .int .u64 13, .int .u64 22, .int .u64 6, .int .u64 11, .int .u64 25]
theorem mo_false : mo false = 4294967296 := rfl
theorem mo_true : mo true = 18446744073709551616 := rfl
theorem kv_false : kv false = #[.int .u64 32, .int .i64 64, .int .u64 7, .int .u64 18, .int .u64 3, .int .u64 17, .int .u64 19, .int .u64 10, .int .u64 2, .int .u64 13, .int .u64 22, .int .u64 6, .int .u64 11, .int .u64 25] := rfl
theorem kv_true : kv true = #[.int .u64 64, .int .i64 80, .int .u64 1, .int .u64 8, .int .u64 7, .int .u64 19, .int .u64 61, .int .u64 6, .int .u64 28, .int .u64 34, .int .u64 39, .int .u64 14, .int .u64 18, .int .u64 41] := rfl
theorem kindOf_256 (w : World) : Calls Tryd.prog 50 #[.int .i64 256] w fun e w' => e = .returned (.agg (kv false)) ∧ Below w.heap.size w w' := by
  have h : ((256 : Int) == 256) = true := by decide
  go_enter Tryd.func50, Tryd.ntmps50
  go_wp2
  refine bodyPost_ret (v := .agg (kv false)) ?_ rfl ?_
  · simp [results, Tryd.results50, go_sem]; rfl
  exact ⟨rfl, (Below.refl _ _).alloc (Nat.le_refl _) _⟩
theorem kindOf_512 (w : World) : Calls Tryd.prog 50 #[.int .i64 512] w fun e w' => e = .returned (.agg (kv true)) ∧ Below w.heap.size w w' := by
  have h : ((512 : Int) == 256) = false := by decide
  go_enter Tryd.func50, Tryd.ntmps50
  go_wp2
  refine bodyPost_ret (v := .agg (kv true)) ?_ rfl ?_
  · simp [results, Tryd.results50, go_sem]; rfl
  exact ⟨rfl, (Below.refl _ _).alloc (Nat.le_refl _) _⟩
theorem s0_lt32 (x : Nat) (hx : x < 4294967296) : s0 false x < 4294967296 := sm_lt 32 x _ _ _ hx
theorem s1_lt32 (x : Nat) (hx : x < 4294967296) : s1 false x < 4294967296 := sm_lt 32 x _ _ _ hx
theorem g0_lt32 (x : Nat) (hx : x < 4294967296) : g0 false x < 4294967296 := gr_lt 32 x _ _ _ hx
theorem g1_lt32 (x : Nat) (hx : x < 4294967296) : g1 false x < 4294967296 := gr_lt 32 x _ _ _ hx
theorem s0_lt64 (x : Nat) (hx : x < 18446744073709551616) : s0 true x < 18446744073709551616 := sm_lt 64 x _ _ _ hx
theorem s1_lt64 (x : Nat) (hx : x < 18446744073709551616) : s1 true x < 18446744073709551616 := sm_lt 64 x _ _ _ hx
theorem g0_lt64 (x : Nat) (hx : x < 18446744073709551616) : g0 true x < 18446744073709551616 := gr_lt 64 x _ _ _ hx
theorem g1_lt64 (x : Nat) (hx : x < 18446744073709551616) : g1 true x < 18446744073709551616 := gr_lt 64 x _ _ _ hx
theorem small32_0 (x : Nat) (w : World) (hx : x < 4294967296) : Calls Tryd.prog 65 #[.int .u32 (x : Int), .agg #[.int .u64 7, .int .u64 18, .int .u64 3], .int .u64 32] w
    fun e w' => e = .returned (.int .u32 ((s0 false x : Nat) : Int)) ∧ Below w.heap.size w w' := small32_any x 7 18 3 w hx (by decide) (by decide) (by decide) (by decide) (by decide)
theorem small32_1 (x : Nat) (w : World) (hx : x < 4294967296) : Calls Tryd.prog 65 #[.int .u32 (x : Int), .agg #[.int .u64 17, .int .u64 19, .int .u64 10], .int .u64 32] w
    fun e w' => e = .returned (.int .u32 ((s1 false x : Nat) : Int)) ∧ Below w.heap.size w w' := small32_any x 17 19 10 w hx (by decide) (by decide) (by decide) (by decide) (by decide)
theorem great32_0 (x : Nat) (w : World) (hx : x < 4294967296) : Calls Tryd.prog 63 #[.int .u32 (x : Int), .agg #[.int .u64 2, .int .u64 13, .int .u64 22], .int .u64 32] w
    fun e w' => e = .returned (.int .u32 ((g0 false x : Nat) : Int)) ∧ Below w.heap.size w w' := great32_any x 2 13 22 w hx (by decide) (by decide) (by decide) (by decide) (by decide) (by decide)
theorem great32_1 (x : Nat) (w : World) (hx : x < 4294967296) : Calls Tryd.prog 63 #[.int .u32 (x : Int), .agg #[.int .u64 6, .int .u64 11, .int .u64 25], .int .u64 32] w
    fun e w' => e = .returned (.int .u32 ((g1 false x : Nat) : Int)) ∧ Below w.heap.size w w' := great32_any x 6 11 25 w hx (by decide) (by decide) (by decide) (by decide) (by decide) (by decide)
theorem small64_0 (x : Nat) (w : World) (hx : x < 18446744073709551616) : Calls Tryd.prog 68 #[.int .u64 (x : Int), .agg #[.int .u64 1, .int .u64 8, .int .u64 7], .int .u64 64] w
    fun e w' => e = .returned (.int .u64 ((s0 true x : Nat) : Int)) ∧ Below w.heap.size w w' := small64_any x 1 8 7 w hx (by decide) (by decide) (by decide) (by decide) (by decide)
theorem small64_1 (x : Nat) (w : World) (hx : x < 18446744073709551616) : Calls Tryd.prog 68 #[.int .u64 (x : Int), .agg #[.int .u64 19, .int .u64 61, .int .u64 6], .int .u64 64] w
    fun e w' => e = .returned (.int .u64 ((s1 true x : Nat) : Int)) ∧ Below w.heap.size w w' := small64_any x 19 61 6 w hx (by decide) (by decide) (by decide) (by decide) (by decide)
theorem great64_0 (x : Nat) (w : World) (hx : x < 18446744073709551616) : Calls Tryd.prog 66 #[.int .u64 (x : Int), .agg #[.int .u64 28, .int .u64 34, .int .u64 39], .int .u64 64] w
    fun e w' => e = .returned (.int .u64 ((g0 true x : Nat) : Int)) ∧ Below w.heap.size w w' := great64_any x 28 34 39 w hx (by decide) (by decide) (by decide) (by decide) (by decide) (by decide)
theorem great64_1 (x : Nat) (w : World) (hx : x < 18446744073709551616) : Calls Tryd.prog 66 #[.int .u64 (x : Int), .agg #[.int .u64 14, .int .u64 18, .int .u64 41], .int .u64 64] w
    fun e w' => e = .returned (.int .u64 ((g1 true x : Nat) : Int)) ∧ Below w.heap.size w w' := great64_any x 14 18 41 w hx (by decide) (by decide) (by decide) (by decide) (by decide) (by decide)
end Go.Proofs.YtfdjphinicafiabDoor.Sh
