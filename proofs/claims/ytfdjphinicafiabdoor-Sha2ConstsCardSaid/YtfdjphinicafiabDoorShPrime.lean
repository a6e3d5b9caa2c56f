/-
  The document's package's own arithmetic: the primes.
-/
import Derived.Test.YtfdjphinicafiabDoorShSums
namespace Go.Proofs.YtfdjphinicafiabDoor.Sh
open Go.RowKit Go.Proofs.YtfdjphinicafiabDoor.Gn Go.Deep
set_option linter.unusedVariables false
attribute [local go_sem ↓] Go.wp_at_zero Go.wp_at_succ

theorem mod_bool (n K : Nat) : (((n : Int) % (K : Int)) != 0) = (n % K != 0) := by
  rw [← Int.natCast_emod]
  generalize n % K = m
  cases m
  · rfl
  · rw [Bool.eq_iff_iff]; simp; omega
def pB (n : Nat) : Bool := (List.range 22).all fun d => decide (d < 2) || decide (n < d * d) || n % d != 0
def pk (n k : Nat) : Bool := (List.range k).all fun d => decide (d < 2) || n % d != 0
theorem pk_step (n k : Nat) (hk : 2 ≤ k) : pk n (k + 1) = (pk n k && n % k != 0) := by
  unfold pk
  rw [List.range_succ, List.all_append]
  simp only [List.all_cons, List.all_nil, Bool.and_true, decide_eq_false (show ¬ k < 2 by omega), Bool.false_or]
theorem pk_two (n : Nat) : pk n 2 = true := by simp [pk, List.range_succ]
theorem pk_done (n k : Nat) (h2 : 2 ≤ k) (hk : k ≤ 22) (h1 : ∀ d, 2 ≤ d → d < k → d * d ≤ n) (h3 : n < k * k) : pk n k = pB n := by
  rw [Bool.eq_iff_iff]
  unfold pk pB
  rw [List.all_eq_true, List.all_eq_true]
  constructor
  · intro h d hd
    rw [List.mem_range] at hd
    by_cases hdk : d < k
    · have := h d (List.mem_range.2 hdk)
      rcases Bool.or_eq_true _ _ ▸ this with h | h
      · simp [of_decide_eq_true h]
      · rw [h]; simp
    · have : k * k ≤ d * d := Nat.mul_le_mul (by omega) (by omega)
      rw [decide_eq_true (show n < d * d by omega)]; simp
  · intro h d hd
    rw [List.mem_range] at hd
    have := h d (List.mem_range.2 (by omega))
    by_cases hd2 : d < 2
    · rw [decide_eq_true hd2]; rfl
    · rw [decide_eq_false hd2, decide_eq_false (by have := h1 d (by omega) hd; omega)] at this
      rw [decide_eq_false hd2]
      exact this
def pp (n : Nat) : Bool := decide (2 ≤ n) && pB n
def cn (n : Nat) : Nat := ((List.range n).filter pp).length
def prl : List Nat := (List.range 410).filter pp
theorem cn_next (n : Nat) : cn (n + 1) = cn n + if pp n then 1 else 0 := by
  unfold cn
  rw [List.range_succ, List.filter_append, List.length_append]
  cases h : pp n <;> simp [h]
theorem range_split (n N : Nat) (h : n < N) : List.range N = List.range n ++ n :: ((List.range (N - n - 1)).map fun x => n + 1 + x) := by
  have h1 : N = n + (1 + (N - n - 1)) := by omega
  conv => lhs; rw [h1]
  rw [List.range_add, List.range_add]
  simp [List.map_map, Function.comp_def, Nat.add_assoc]
theorem prl_at (n : Nat) (h : n < 410) (hp : pp n = true) : prl.getD (cn n) 0 = n := by
  unfold prl cn
  rw [range_split n 410 h, List.filter_append, List.filter_cons, if_pos hp, List.getD_eq_getElem?_getD, List.getElem?_append_right (Nat.le_refl _), Nat.sub_self]
  rfl
theorem cn_all : cn 410 = 80 := by kernel_rfl
theorem cn_lt (n : Nat) (h : cn n ≤ 79) : n < 410 := by
  rcases Nat.lt_or_ge n 410 with h1 | h1
  · exact h1
  · have : cn 410 ≤ cn n := by
      unfold cn
      have e : n = 410 + (n - 410) := by omega
      rw [e, List.range_add, List.filter_append, List.length_append]
      omega
    rw [cn_all] at this
    omega
set_option maxHeartbeats 1000000 in
theorem prime_any (i : Nat) (hi : i < 80) (w : World) : Calls Tryd.prog 36 #[.int .i64 (i : Int)] w fun e w' => e = .returned (.int .u64 ((prl.getD i 0 : Nat) : Int)) ∧ w = w' := by
  go_enter Tryd.func36, Tryd.ntmps36
  go_wp2
  go_loop [0, 3] (fun a b => ∃ n j : Nat, 2 ≤ n ∧ n < 410 ∧ cn n + j = i ∧ a = .int .i64 (j : Int) ∧ b = .int .u64 (n : Int)) (fun _ b => 410 - (intOf b).toNat)
  case atStart => exact ⟨2, i, Nat.le_refl _, by decide, by rw [show cn 2 = 0 by rfl, Nat.zero_add], rfl, rfl⟩
  case round =>
    obtain ⟨n, j, h2, hn, hj, rfl, rfl⟩ := hrel
    have HJ := Lib.hid hj
    have j80 : j < 80 := by omega
    clear hj
    go_wp2
    go_loop [4, 5] (fun p k => ∃ K : Nat, 2 ≤ K ∧ K ≤ 22 ∧ k = .int .u64 (K : Int) ∧ p = .bool (pk n K) ∧ ∀ d, 2 ≤ d → d < K → d * d ≤ n) (fun _ k => 22 - (intOf k).toNat)
    case atStart => exact ⟨2, Nat.le_refl _, by decide, rfl, congrArg _ (pk_two n).symm, fun d h1 h2 => by omega⟩
    case round =>
      obtain ⟨K, hK2, hK, rfl, rfl, hd⟩ := hrel
      obtain ⟨Q, hQ⟩ : ∃ Q, Q = K * K := ⟨_, rfl⟩
      have hQb : Q ≤ 22 * 22 := by rw [hQ]; exact Nat.mul_le_mul hK hK
      have eQ : IntKind.u64.wrap ((K : Int) * (K : Int)) = (Q : Int) := by rw [← Int.natCast_mul, ← hQ, IntKind.wrap_u64]; omega
      have HQ := Lib.hid hQ
      have HD := Lib.hid hd
      have STEP := Lib.hid (pk_step n K hK2)
      have DONE := Lib.hid (fun h => pk_done n K hK2 hK hd h)
      clear hQ hd
      by_cases hq : Q ≤ n
      · have hK21 : K < 22 := by
          rcases Nat.lt_or_ge K 22 with h | h
          · exact h
          · have := Nat.mul_le_mul h h
            rw [← HQ.out] at this
            omega
        have HDN := Lib.hid (show ∀ d, 2 ≤ d → d < K + 1 → d * d ≤ n from fun d a b => by
          rcases Nat.lt_or_ge d K with h | h
          · exact HD.out d a h
          · obtain rfl : d = K := by omega
            rw [← HQ.out]; exact hq)
        have hK0 : ((K : Int) == 0) = false := by simp; omega
        cases hb : pk n K
        · have E := Lib.hid (show pk n (K + 1) = false by rw [STEP.out, hb]; rfl)
          clear hb
          go_wp2
          go_round
          case rel => exact ⟨K + 1, by omega, by omega, by go_num, by rw [E.out], HDN.out⟩
          case measure => simp [intOf]; omega
        · have E := Lib.hid (show pk n (K + 1) = (n % K != 0) by rw [STEP.out, hb]; rfl)
          clear hb
          go_wp2
          go_round
          case rel => exact ⟨K + 1, by omega, by omega, by go_num, by rw [E.out]; exact congrArg _ (mod_bool n K), HDN.out⟩
          case measure => simp [intOf]; omega
      · have hd2 := DONE.out (by have := HQ.out; omega)
        have PB := Lib.hid hd2
        obtain ⟨pb, hpb⟩ : ∃ pb, pb = pk n K := ⟨_, rfl⟩
        rw [← hpb]
        have HPB := Lib.hid (show pp n = pb by unfold pp; rw [decide_eq_true h2, Bool.true_and, ← PB.out, hpb])
        have CN := Lib.hid (cn_next n)
        clear hd2 hpb
        by_cases hjz : j = 0
        · subst hjz
          cases pb
          · have hn1 : n + 1 < 410 := cn_lt _ (by rw [CN.out, HPB.out]; have := HJ.out; simp; omega)
            have HJ1 := Lib.hid (show cn (n + 1) + 0 = i by rw [CN.out, HPB.out]; exact HJ.out)
            go_wp2
            go_round
            case rel => exact ⟨n + 1, 0, by omega, hn1, HJ1.out, rfl, by go_num⟩
            case measure => simp [intOf]; omega
          · have hres : prl[i]?.getD 0 = n := by rw [← List.getD_eq_getElem?_getD, ← HJ.out]; exact prl_at n hn HPB.out
            have HRES := Lib.hid hres
            clear hres
            go_wp2
            go_ret
            exact ⟨ret_int (by rw [HRES.out]), rfl⟩
        · cases pb
          · have hn1 : n + 1 < 410 := cn_lt _ (by rw [CN.out, HPB.out]; have := HJ.out; simp; omega)
            have HJ1 := Lib.hid (show cn (n + 1) + j = i by rw [CN.out, HPB.out]; exact HJ.out)
            go_wp2
            go_round
            case rel => exact ⟨n + 1, j, by omega, hn1, HJ1.out, rfl, by go_num⟩
            case measure => simp [intOf]; omega
          · have hn1 : n + 1 < 410 := cn_lt _ (by rw [CN.out, HPB.out]; have := HJ.out; simp; omega)
            have HJ1 := Lib.hid (show cn (n + 1) + (j - 1) = i by rw [CN.out, HPB.out]; have := HJ.out; simp; omega)
            have hj1 : ((j : Int) == 0) = false := by simp; omega
            go_wp2
            go_round
            case rel => exact ⟨n + 1, j - 1, by omega, hn1, HJ1.out, by go_num, by go_num⟩
            case measure => simp [intOf]; omega
end Go.Proofs.YtfdjphinicafiabDoor.Sh
