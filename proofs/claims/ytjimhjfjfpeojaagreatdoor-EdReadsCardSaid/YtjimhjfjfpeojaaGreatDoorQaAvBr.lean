/- Joined texts. -/
import Derived.Test.YtjimhjfjfpeojaaGreatDoorQaAvNum
import Derived.Test.YtjimhjfjfpeojaaGreatDoorQaAvN
import Derived.Test.YtjimhjfjfpeojaaGreatDoorQaRdec
set_option linter.unusedVariables false
namespace Go.Proofs.YtjimhjfjfpeojaaGreatDoor.Av
open Go.RowKit Go.Proofs.YtjimhjfjfpeojaaGreatDoor.Gn Go.Proofs.YtjimhjfjfpeojaaGreatDoor.Fd Go.Deep
theorem c_same {a b : Nat} (ha : a < pp) (hb : b < pp) (w : World) : FnAt Tryz.prog [] w 52 [num a, num b] (.lit (.bool (decide (a = b)))) :=
 ⟨fun _ _ => by kernel_rfl, fun O vs hO hk hl hr => by
  obtain ⟨u, v, rfl, h1, h2⟩ := two_args hl hr
  obtain ⟨A, n, c, rfl, s1, -⟩ := row_sl h1
  obtain ⟨B, m, d, rfl, s2, -⟩ := row_sl h2
  exact (RSame_any A B n m c d a b w (s1.1 ▸ Nat.le_trans (dg16 ha) (by decide)) (s2.1 ▸ Nat.le_trans (dg16 hb) (by decide)) s1 s2).mono fun e w' ⟨h3, h4⟩ => ⟨_, h3, rfl, h4⟩⟩
theorem c_root {u v : Nat} (hu : u < pp) (hv : v < pp) (w : World) : FnAt Tryz.prog [.u64] w 89 [num u, num v] (.tup [num ((rr u v).getD 0), .lit (.bool (rr u v).isSome)]) :=
 ⟨fun _ _ => by kernel_rfl, fun O vs hO hk hl hr => by
  obtain ⟨x, y, rfl, h1, h2⟩ := two_args hl hr
  obtain ⟨A, n, c, rfl, s1, -⟩ := row_sl h1
  obtain ⟨B, m, d, rfl, s2, -⟩ := row_sl h2
  refine (RRoot_any A B n m c d u v w hu hv s1 s2).mono fun e w' ⟨C, k, q, s, b, h3, h4, h5, h6, h7, h8⟩ => ⟨_, h3, ?_, h8⟩
  subst h6 h7
  exact ⟨_, rfl, rfl, ⟨_, rfl, sl_row h4 (fun h => by cases h) (below_noK hO hk h8) (nl_noK _)⟩, ⟨_, rfl, rfl⟩, trivial⟩⟩
theorem c_of (x : E5) (hx : x.ok) (w : World) : FnAt Tryz.prog [.u64] w 51 [.lit (.agg x.v)] (num (x.val % pp)) :=
 ⟨fun _ _ => by kernel_rfl, fun O vs hO hk hl hr => by
  obtain ⟨u, rfl, h1⟩ := one_arg hl hr
  cases h1
  exact (Of_any x w hx).mono fun e w' hr => retN_rep hO hk hr⟩
theorem c_number {r : Bool} {l : List Nat} (h : l.length ≤ 1000) (hl : ∀ x ∈ l, x < 256) (w : World) : FnAt Tryz.prog [.u64] w 50 [byt r l] (num (le l)) :=
 ⟨fun _ _ => by kernel_rfl, fun O vs hO hk hln hr => by
  obtain ⟨u, rfl, h1⟩ := one_arg hln hr
  obtain ⟨A, n, c, rfl, s1, -⟩ := row_sl h1
  exact (Number_any A n c l w (by have := s1.1; simp [bl] at this; omega) hl s1).mono fun e w' hr => retN_rep hO hk hr⟩
theorem ownY_rep {w w' : World} {e : Ending} {l : List Nat} {O : Nat → Prop} (hm : l.length ≤ maxLen) (h : ∃ g, e = .returned (.slice (some ⟨g, 0, none⟩) l.length l.length) ∧ w.heap.size ≤ g ∧ Bl w' g 5 (bl l).toArray ∧ Below w.heap.size w w') :
  ∃ v n us, e = .returned v ∧ Row w' 5 1 v n us false ∧ us.length = ((bl l).map DV.lit).length ∧ DV.reps (fun b => O b ∨ blk v = some b) w' ((bl l).map DV.lit) 0 (fun i u => us[i]? = some u) ∧ (∀ b, blk v = some b → w.heap.size ≤ b) ∧ (∃ A n c, v = .slice A n c) ∧ Below w.heap.size w w' := by
 obtain ⟨g, h1, h2, h3, h4⟩ := h
 have hr := row_bl (l := bl l) (ni := false) h3 (by simpa [bl] using hm) (fun h => by cases h)
 rw [show (bl l).length = l.length by simp [bl]] at hr
 refine ⟨_, _, bl l, h1, hr, by simp, reps_iff.2 fun j x hj => ?_, fun b hb => ?_, ⟨_, _, _, rfl⟩, h4⟩
 ·rw [List.getElem?_map] at hj
  cases hq : (bl l)[j]? with
  | none => rw [hq] at hj; cases hj
  | some v => rw [hq] at hj; cases hj; exact ⟨v, by rw [Nat.zero_add]; exact hq, rfl⟩
 ·cases hb; exact h2
theorem by_le (n m : Nat) (h : m ≤ 1000) : (by_ n m).length ≤ maxLen := by
 rw [show (by_ n m).length = m from Fd.by_length n m]; unfold maxLen; omega
theorem c_rdec {r : Bool} {l : List Nat} (h32 : l.length = 32) (hl : ∀ x ∈ l, x < 256) (w : World) : FnAt Tryz.prog [] w 48 [byt r l] (.tup [.lit (.agg (if le l < pp then (el (le l)).v else z5)), .lit (.int .i64 (if le l < pp then 0 else 30))]) :=
 ⟨fun _ _ => by kernel_rfl, fun O vs hO hk hln hr => by
  obtain ⟨u, rfl, h1⟩ := one_arg hln hr
  obtain ⟨A, n, c, rfl, s1, -⟩ := row_sl h1
  obtain rfl : n = 32 := by have := s1.1; simp [bl] at this; omega
  refine (rdecode_any A c l w hl s1).mono fun e w' ⟨h3, h4⟩ => ?_
  unfold DecP at h3
  split at h3
  ·rename_i hp
   rw [if_pos hp, if_pos hp]
   exact ⟨_, h3, ⟨_, rfl, rfl, ⟨_, rfl, rfl⟩, ⟨_, rfl, rfl⟩, trivial⟩, h4⟩
  ·rename_i hp
   rw [if_neg hp, if_neg hp]
   exact ⟨_, h3, ⟨_, rfl, rfl, ⟨_, rfl, rfl⟩, ⟨_, rfl, rfl⟩, trivial⟩, h4⟩⟩
end Go.Proofs.YtjimhjfjfpeojaaGreatDoor.Av
