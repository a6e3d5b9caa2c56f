/-
  The library's swapRangeCmpFunc and rotateCmpFunc at numbers, from a world of the sort to a world of the sort.
-/
import Derived.Test.YtdiihpnfeeediaaSoPure
import Derived.Test.YtdiihpnfeeediaaProg
import Derived.Shelf.SlSortCmp.Kit1
import Derived.Sort.WalkA
import Derived.Deep.LoopGhost
import Derived.BigRegion
import Derived.Lib.Hide
import Derived.RegionTactic
import Derived.ChangeAlike
namespace Go.Proofs.Ytdiihpnfeeediaa.So
open Go.RowKit Go.Sort
/-- A place as a value. -/
def en {α : Type} (v : α → Nat) : α → Value := fun x => .int .i64 (v x)
theorem en_one {α : Type} (v : α → Nat) : Go.Proofs.OneCell (en v) := fun _ => rfl
variable {α : Type} [Inhabited α] {v : α → Nat} {w0 w : World} {blk : Nat} {d0 d : Array α}
set_option linter.unusedVariables false

/-- What one exchange wants, and what it leaves. -/
theorem swap_facts {dk : Array α} {wr : World} (S : SW (en v) w0 blk 0 dk wr) (R : Row1 (en v) w0 blk 0 d0) (hs : dk.size = d0.size) (p q : Nat) (hp : p < dk.size) (hq : q < dk.size) :
    ∃ x y : Nat, wr.cell? ⟨blk, p, none⟩ = some (.int .i64 x) ∧ wr.cell? ⟨blk, q, none⟩ = some (.int .i64 y) ∧ wr.frozen? ⟨blk, p, none⟩ = false ∧ wr.frozen? ⟨blk, q, none⟩ = false ∧
      (∀ u, ∃ z, (wr.setCell ⟨blk, p, none⟩ u).cell? ⟨blk, q, none⟩ = some z) ∧ SW (en v) w0 blk 0 (swp dk p q) ((wr.setCell ⟨blk, p, none⟩ (.int .i64 y)).setCell ⟨blk, q, none⟩ (.int .i64 x)).drew := by
  have a1 := S.c1 R hs p hp
  have a2 := S.c1 R hs q hq
  have b1 := S.f1 R hs p hp
  have b2 := S.f1 R hs q hq
  have c := S.c2 R hs p q hp hq
  have e := S.swapped R p q hp hq
  simp only [Nat.zero_add] at a1 a2 b1 b2 c e
  exact ⟨v dk[p]!, v dk[q]!, a1, a2, b1, b2, c, e⟩
set_option maxHeartbeats 4000000 in
set_option maxRecDepth 100000 in
theorem swapRange_any (R : Row1 (en v) w0 blk 0 d0) (hs : d.size = d0.size) (S : SW (en v) w0 blk 0 d w) {a b n cap : Nat} {F : Value} (hab : a + n ≤ b) (hb : b + n ≤ d.size) (hsz : d.size < 4611686018427387904) :
    Calls Try.prog 28 #[.slice (some ⟨blk, 0, none⟩) d.size cap, .int .i64 a, .int .i64 b, .int .i64 n, F] w fun e w' => e = .returned (.tuple #[]) ∧ ∃ d', SW (en v) w0 blk 0 d' w' ∧ SwR d d' a b n := by
  have S0 := Lib.hid S
  clear S
  go_enter Try.func28, Try.ntmps28
  go_wp2_with fail
  go_loopg [10] n (fun g1 vi wr => ∃ (k : Nat) (dk : Array α), vi = .int .i64 k ∧ k ≤ n ∧ n - k ≤ g1 ∧ Hid (SW (en v) w0 blk 0 dk wr) ∧ Hid (SwR d dk a b k))
  case atStart => exact ⟨0, d, rfl, Nat.zero_le _, Nat.le_refl _, S0, SwR.start d a b⟩
  case round =>
    clear S0
    obtain ⟨k, dk, rfl, hk, hg, SK, HK⟩ := hrel
    have hsk : Hid (dk.size = d.size) := HK.out.1
    by_cases hlt : k < n
    · obtain ⟨p, hp⟩ : ∃ p, p = a + k := ⟨_, rfl⟩
      obtain ⟨q, hq⟩ : ∃ q, q = b + k := ⟨_, rfl⟩
      have HP := Lib.hid hp
      have HQ := Lib.hid hq
      obtain ⟨x, y, a1, a2, b1, b2, c, e⟩ := swap_facts SK.out R (by rw [hsk.out]; exact hs) p q (by have := hsk.out; omega) (by have := hsk.out; omega)
      obtain ⟨z, c⟩ := c (.int .i64 y)
      have E := Lib.hid e
      have e1 : (a : Int) + (k : Int) = (p : Int) := by omega
      have e2 : (b : Int) + (k : Int) = (q : Int) := by omega
      have r1 : IntKind.i64.wrap (p : Int) = (p : Int) := by rw [IntKind.wrap_i64]; omega
      have r2 : IntKind.i64.wrap (q : Int) = (q : Int) := by rw [IntKind.wrap_i64]; omega
      have p1 : (p : Int) < (d.size : Int) := by omega
      have p2 : (q : Int) < (d.size : Int) := by omega
      clear hp hq e
      go_wp2_with fail
      go_region
      go_wp2_with fail
      go_roundg (n - (k + 1))
      case measure => omega
      case rel => exact ⟨k + 1, swp dk p q, by go_num, by omega, by omega, E, (show SwR d (swp dk p q) a b (k + 1) from by rw [HP.out, HQ.out]; exact HK.out.step (by omega) (by omega))⟩
    · go_wp2_with fail
      obtain rfl : k = n := by omega
      go_end0
      exact ⟨rfl, dk, SK.out, HK.out⟩
set_option maxHeartbeats 4000000 in
set_option maxRecDepth 100000 in
theorem rotate_any (R : Row1 (en v) w0 blk 0 d0) (hs : d.size = d0.size) (S : SW (en v) w0 blk 0 d w) {a m b cap : Nat} {F : Value} (ham : a < m) (hmb : m < b) (hb : b ≤ d.size) (hsz : d.size < 4611686018427387904) :
    Calls Try.prog 27 #[.slice (some ⟨blk, 0, none⟩) d.size cap, .int .i64 a, .int .i64 m, .int .i64 b, F] w fun e w' => e = .returned (.tuple #[]) ∧ ∃ d', SW (en v) w0 blk 0 d' w' ∧ Rot d d' a m b := by
  have SR := Lib.hid (fun (i j n : Nat) (w1 : World) (dk : Array α) (ed : dk.size = d.size) (S1 : SW (en v) w0 blk 0 dk w1) (i1 j1 : Int) (ei : i1 = i) (ej : j1 = j) (h1 : i + n ≤ j) (h2 : j + n ≤ d.size) =>
    show Calls Try.prog 28 #[.slice (some ⟨blk, 0, none⟩) d.size cap, .int .i64 i1, .int .i64 j1, .int .i64 n, F] w1 fun e w' => e = .returned (.tuple #[]) ∧ ∃ d', SW (en v) w0 blk 0 d' w' ∧ SwR dk d' i j n from by
      rw [ei, ej, ← ed]; exact swapRange_any R (by rw [ed]; exact hs) S1 (a := i) (b := j) h1 (by omega) (by omega))
  have S0 := Lib.hid S
  clear S hs R
  obtain ⟨i0, hi0⟩ : ∃ i, i + a = m := ⟨m - a, by omega⟩
  obtain ⟨j0, hj0⟩ : ∃ j, j + m = b := ⟨b - m, by omega⟩
  have e1 : (m : Int) - (a : Int) = (i0 : Int) := by omega
  have e2 : (b : Int) - (m : Int) = (j0 : Int) := by omega
  have HI0 := Lib.hid hi0
  have HJ0 := Lib.hid hj0
  have l1 : 0 < i0 := by omega
  have l2 : 0 < j0 := by omega
  have l3 : i0 ≤ m := by omega
  have l4 : m + j0 ≤ d.size := by omega
  clear hi0 hj0
  go_enter Try.func27, Try.ntmps27
  go_wp2_with fail
  go_loopg [10, 11] (i0 + j0) (fun g1 vi vj wr => ∃ (i j : Nat) (dk : Array α), vi = .int .i64 i ∧ vj = .int .i64 j ∧ 0 < i ∧ 0 < j ∧ i ≤ m ∧ m + j ≤ d.size ∧ i + j ≤ g1 ∧ Hid (dk.size = d.size) ∧ Hid (SW (en v) w0 blk 0 dk wr) ∧ Hid (∀ d', Rot dk d' (m - i) m (m + j) → Rot d d' a m b))
  case atStart => exact ⟨i0, j0, d, rfl, rfl, l1, l2, l3, l4, Nat.le_refl _, Lib.hid rfl, S0, Lib.hid (fun d' h => by have := HI0.out; have := HJ0.out; rw [show m - i0 = a by omega, show m + j0 = b by omega] at h; exact h)⟩
  case round =>
    clear S0 e1 e2 l1 l2 l3 l4
    obtain ⟨i, j, dk, rfl, rfl, hi, hj, him, hmj, hg, HS, SK, HK⟩ := hrel
    rcases Nat.lt_trichotomy i j with hlt | heq | hgt
    · have t1 : ((i : Int) != (j : Int)) = true := by rw [bne_iff_ne]; omega
      have t2 : decide ((i : Int) > (j : Int)) = false := decide_eq_false (by omega)
      have t3 : ¬ (j : Int) < (i : Int) := by omega
      go_wp2_with (go_at_call 28; (with_reducible refine (SR.out (m - i) (m + j - i) i _ dk HS.out SK.out _ _ (by omega) (by omega) (by omega) (by omega)).mono ?_); rintro e w1 ⟨rfl, d1, S1, R1⟩; have S2 := Lib.hid S1; have R2 := Lib.hid R1; clear S1 R1)
      go_roundg (i + (j - i))
      case measure => omega
      case rel => exact ⟨i, j - i, d1, rfl, by congr 1; omega, hi, by omega, him, by omega, by omega, Lib.hid (R2.out.1.trans HS.out), S2, Lib.hid (fun d' h => HK.out d' (Rot.less hlt him R2.out h))⟩
    · subst heq
      have t1 : ((i : Int) != (i : Int)) = false := by simp
      go_wp2_with (go_at_call 28; (with_reducible refine (SR.out (m - i) m i _ dk HS.out SK.out _ _ (by omega) rfl (by omega) (by omega)).mono ?_); rintro e w1 ⟨rfl, d1, S1, R1⟩; have S2 := Lib.hid S1; have R2 := Lib.hid R1; clear S1 R1)
      go_end0
      exact ⟨rfl, d1, S2.out, HK.out d1 (Rot.same him R2.out)⟩
    · have t1 : ((i : Int) != (j : Int)) = true := by rw [bne_iff_ne]; omega
      have t2 : decide ((i : Int) > (j : Int)) = true := decide_eq_true (by omega)
      have t3 : (j : Int) < (i : Int) := by omega
      go_wp2_with (go_at_call 28; (with_reducible refine (SR.out (m - i) m j _ dk HS.out SK.out _ _ (by omega) rfl (by omega) (by omega)).mono ?_); rintro e w1 ⟨rfl, d1, S1, R1⟩; have S2 := Lib.hid S1; have R2 := Lib.hid R1; clear S1 R1)
      go_roundg ((i - j) + j)
      case measure => omega
      case rel => exact ⟨i - j, j, d1, by congr 1; omega, rfl, by omega, hj, by omega, by omega, by omega, Lib.hid (R2.out.1.trans HS.out), S2, Lib.hid (fun d' h => HK.out d' (Rot.more hgt him R2.out h))⟩
end Go.Proofs.Ytdiihpnfeeediaa.So
