/-
  Two words at once: products of words and sums of them, by the shelf's contracts.
-/
import Derived.Test.YteechlkccmcpfaaDoorProg
import Derived.Test.YteechlkccmcpfaaDoorGnMore
import Derived.Test.YteechlkccmcpfaaDoorFdMath
import Derived.Shelf.Bits.Mul64
import Derived.Shelf.Spec.BitsCarry
import Derived.Deep.QuietTactic
import Derived.BigQuiet
import Derived.Outline
namespace Go.Proofs.YteechlkccmcpfaaDoor.Fd
open Go.RowKit Go.Proofs.YteechlkccmcpfaaDoor.Gn Go.Shelf
set_option linter.unusedVariables false

def ren264 : Go.Shelf.Ren := ⟨fun | 264 => 70 | n => n, fun | 53 => 22 | 46 => 61 | n => n, fun | n => n⟩
theorem lays264 : Go.Proofs.Lays.n264 Tryd.prog ren264 := {
  mixed := by kernel_rfl
  f264 := Tryd.func70.trans (congrArg some (by kernel_rfl))
  t46 := Tryd.underlying61
  a46 := Tryd.isAgg61
  z46 := Tryd.sizeOf61
  v46 := Tryd.zeroValue61
  t53 := Tryd.underlying22
  a53 := Tryd.isAgg22
  z53 := Tryd.sizeOf22
  v53 := Tryd.zeroValue22 }
theorem mul64 (x y : Nat) (hx : x < 18446744073709551616) (hy : y < 18446744073709551616) (w : World) :
    Calls Tryd.prog 70 #[.int .u64 x, .int .u64 y] w fun e w' => e = .returned (.tuple #[.int .u64 ((x * y / 18446744073709551616 : Nat) : Int), .int .u64 ((x * y % 18446744073709551616 : Nat) : Int)]) ∧ w' = w :=
  Any.bits_Mul64 lays264 x y hx hy w
def ren25 : Go.Shelf.Ren := ⟨fun | 25 => 71 | n => n, fun | 22 => 22 | n => n, fun n => n⟩
theorem lays25 : Lays7.n25 Tryd.prog ren25 := {
  mixed := by kernel_rfl
  f25 := Tryd.func71.trans (congrArg some (by kernel_rfl))
  t22 := Tryd.underlying22
  a22 := Tryd.isAgg22
  z22 := Tryd.sizeOf22
  v22 := Tryd.zeroValue22
  i22 := by kernel_rfl }
theorem add64 (x y c : Nat) (hc : c ≤ 1) (w : World) : (callFunc 71 #[.int .u64 x, .int .u64 y, .int .u64 c]).run Tryd.prog w =
    .ok (.value (.tuple #[.int .u64 (((x + y + c) % 18446744073709551616 : Nat) : Int), .int .u64 (((x + y + c) / 18446744073709551616 : Nat) : Int)])) w := Any7.bits_Add64 lays25 x y c hc w
theorem add64_c (x y c s d : Nat) (hc : c ≤ 1) (hs : (x + y + c) % 18446744073709551616 = s) (hd : (x + y + c) / 18446744073709551616 = d) (w : World) :
    (callFunc 71 #[.int .u64 x, .int .u64 y, .int .u64 c]).run Tryd.prog w = .ok (.value (.tuple #[.int .u64 (s : Int), .int .u64 (d : Int)])) w := by subst hs hd; exact add64 x y c hc w
theorem add64_0 (x y s d : Nat) (hs : (x + y) % 18446744073709551616 = s) (hd : (x + y) / 18446744073709551616 = d) (w : World) :
    (callFunc 71 #[.int .u64 x, .int .u64 y, .int .u64 0]).run Tryd.prog w = .ok (.value (.tuple #[.int .u64 (s : Int), .int .u64 (d : Int)])) w := add64_c x y 0 s d (by decide) hs hd w
theorem mul64_c (x y p q : Nat) (hx : x < 18446744073709551616) (hy : y < 18446744073709551616) (hp : x * y / 18446744073709551616 = p) (hq : x * y % 18446744073709551616 = q) (w : World) :
    Calls Tryd.prog 70 #[.int .u64 x, .int .u64 y] w fun e w' => e = .returned (.tuple #[.int .u64 (p : Int), .int .u64 (q : Int)]) ∧ w' = w := by subst hp hq; exact mul64 x y hx hy w

/-- A sum of products, as two words. -/
def wv (t : Nat) : Value := .agg #[.int .u64 ((t / 18446744073709551616 : Nat) : Int), .int .u64 ((t % 18446744073709551616 : Nat) : Int)]
theorem wv_of {t h l : Nat} (hh : t / 18446744073709551616 = h) (hl : t % 18446744073709551616 = l) : wv t = .agg #[.int .u64 (h : Int), .int .u64 (l : Int)] := by subst hh hl; rfl
theorem plus_any (t x y : Nat) (w : World) (hx : x < 18446744073709551616) (hy : y < 18446744073709551616) (ht : t + x * y < 340282366920938463463374607431768211456) :
    Calls Tryd.prog 59 #[wv t, .int .u64 (x : Int), .int .u64 (y : Int)] w fun e w' => e = .returned (wv (t + x * y)) ∧ Below w.heap.size w w' := by
  obtain ⟨h, hh⟩ : ∃ h, t / 18446744073709551616 = h := ⟨_, rfl⟩
  obtain ⟨l, hl⟩ : ∃ l, t % 18446744073709551616 = l := ⟨_, rfl⟩
  obtain ⟨p, hp⟩ : ∃ p, x * y / 18446744073709551616 = p := ⟨_, rfl⟩
  obtain ⟨q, hq⟩ : ∃ q, x * y % 18446744073709551616 = q := ⟨_, rfl⟩
  obtain ⟨s, hs⟩ : ∃ s, (l + q) % 18446744073709551616 = s := ⟨_, rfl⟩
  obtain ⟨c, hc⟩ : ∃ c, (l + q) / 18446744073709551616 = c := ⟨_, rfl⟩
  obtain ⟨u, hu⟩ : ∃ u, (h + p + c) % 18446744073709551616 = u := ⟨_, rfl⟩
  obtain ⟨d, hd⟩ : ∃ d, (h + p + c) / 18446744073709551616 = d := ⟨_, rfl⟩
  have E0 := fun w => mul64_c x y p q hx hy hp hq w
  have E1 := fun w => add64_0 l q s c hs hc w
  have E2 := fun w => add64_c h p c u d (by omega) hu hd w
  have R : (t + x * y) / 18446744073709551616 = u ∧ (t + x * y) % 18446744073709551616 = s := by
    generalize x * y = z at *
    omega
  rw [wv_of hh hl, wv_of R.1 R.2]
  clear R hh hl hp hq hs hc hu hd ht hx hy
  have E0 := Lib.hid E0
  go_enter Tryd.func59, Tryd.ntmps59
  go_wp2_with (go_at_call 70; refine (E0.out _).mono ?_; rintro e w' ⟨rfl, rfl⟩)
  refine bodyPost_ret (v := .agg #[.int .u64 (u : Int), .int .u64 (s : Int)]) ?_ rfl ⟨rfl, ?_⟩
  · simp [results, Tryd.results59, go_sem]
  exact (((Below.refl _ _).alloc (Nat.le_refl _) _).alloc (by simp) _)
theorem and_low (x : Nat) (hx : x < 18446744073709551616) : bits .and .u64 (x : Int) 2251799813685247 = ((x % 2251799813685248 : Nat) : Int) := by
  have h := bits_and_u64_nat x 2251799813685247 hx (by omega)
  rw [show x &&& 2251799813685247 = x % 2251799813685248 from Nat.and_two_pow_sub_one_eq_mod x 51] at h
  exact h
theorem or_add (a b n : Nat) (hb : b < 2 ^ n) : a * 2 ^ n ||| b = a * 2 ^ n + b := by
  rw [Nat.mul_comm]; exact (Nat.two_pow_add_eq_or_of_lt hb a).symm
theorem above_any (t : Nat) (w : World) (ht : t < 41538374868278621028243970633760768) :
    Calls Tryd.prog 69 #[wv t] w fun e w' => e = .returned (.int .u64 ((t / 2251799813685248 : Nat) : Int)) ∧ Below w.heap.size w w' := by
  obtain ⟨h, hh⟩ : ∃ h, t / 18446744073709551616 = h := ⟨_, rfl⟩
  obtain ⟨l, hl⟩ : ∃ l, t % 18446744073709551616 = l := ⟨_, rfl⟩
  have k1 : IntKind.u64.wrap ((h : Int) * 8192) = ((h * 2 ^ 13 : Nat) : Int) := by rw [IntKind.wrap_u64]; omega
  have k2 : (l : Int) / 2251799813685248 = ((l / 2251799813685248 : Nat) : Int) := by omega
  have k3 : bits .or .u64 (IntKind.u64.wrap ((h : Int) * 8192)) ((l : Int) / 2251799813685248) = ((t / 2251799813685248 : Nat) : Int) := by
    rw [k1, k2, bits_or_u64_nat _ _ (by omega) (by omega), or_add h _ 13 (by omega)]
    congr 1
    omega
  rw [wv_of hh hl]
  clear hh hl ht
  have K := Lib.hid k3
  clear k3 k2 k1
  go_enter Tryd.func69, Tryd.ntmps69
  go_wp2
  go_ret
  exact ⟨ret_int K.out, (Below.refl _ _).alloc (Nat.le_refl _) _⟩
end Go.Proofs.YteechlkccmcpfaaDoor.Fd
