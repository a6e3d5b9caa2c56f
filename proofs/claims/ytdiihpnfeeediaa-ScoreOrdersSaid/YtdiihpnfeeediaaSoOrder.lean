/-
  The program's Order: the places in order.
-/
import Derived.Test.YtdiihpnfeeediaaSoFalls
import Derived.Test.YtdiihpnfeeediaaSoStable
import Derived.Deep.OwnRows
namespace Go.Proofs.Ytdiihpnfeeediaa.So
open Go.RowKit Go.Sort Go.Proofs.Ytdiihpnfeeediaa.Sc Go.Deep
set_option linter.unusedVariables false

theorem sw_below {α : Type} [Inhabited α] {v : α → Nat} {w0 W : World} {g B0 : Nat} {dk : Array α} (h : SW (en v) w0 g 0 dk W) (h1 : B0 ≤ g) (h2 : B0 ≤ w0.heap.size) : Below B0 w0 W := by
  obtain ⟨n, os, rfl⟩ := h
  unfold sortWorld
  refine ⟨rfl, rfl, rfl, ?_, fun k hk => ?_⟩
  · rw [size_grow, size_putRow]; exact Nat.le_add_right _ _
  · show ((putRow (en v) (Sort.ahead w0 n) g 0 dk).heap ++ os)[k]? = _
    rw [Array.getElem?_append_left (by rw [size_putRow]; exact Nat.lt_of_lt_of_le hk h2)]
    show (w0.heap.modify g _)[k]? = _
    rw [Array.getElem?_modify, if_neg (by omega)]
set_option maxHeartbeats 1000000 in
theorem order1_any {B n c : Nat} {A : Option Addr} {l : List Nat} {W : World} (hc : W.cell? ⟨B, 0, none⟩ = some (.slice A n c)) (h : FL W A n l) {i j : Nat} (hi : i < n) (hj : j < n) :
    Calls Try.prog 16 #[.int .i64 i, .int .i64 j, .pointer (some ⟨B, 0, none⟩)] W fun e w' => e = .returned (.int .i64 (tst l i j)) ∧ ∃ q, w' = W.drewN q := by
  obtain ⟨hs, hn, hl⟩ := h
  obtain ⟨ad, rfl, c1⟩ := fl_at hs hi
  obtain ⟨ad', e, c2⟩ := fl_at hs hj
  cases e
  have hx := getD_lt hl i
  have hy := getD_lt hl j
  obtain ⟨z, hz⟩ : ∃ z, z = tst l i j := ⟨_, rfl⟩
  have C := Lib.hid (fun w => compare_q (l.getD j 0) (l.getD i 0) w hy hx)
  rw [show cmp (l.getD j 0) (l.getD i 0) = z from hz.symm] at C
  rw [← hz]
  clear hz hx hy
  generalize l.getD i 0 = x at *
  generalize l.getD j 0 = y at *
  have q1 : (i : Int) < (n : Int) := by omega
  have q2 : (j : Int) < (n : Int) := by omega
  clear hs hl
  go_enter Try.func16, Try.ntmps16
  go_wp2_with fail
  go_quiet ((go_at_call 14; exact Calls.quiet_of_same (C.out _)))
  go_wp2_with fail
  go_ret
  exact ⟨rfl, nq, rfl⟩
/-- The places as they are at first. -/
def places (n N : Nat) [NeZero N] : Array (Fin N) := ((List.range n).map (Fin.ofNat N)).toArray
theorem places_size (n N : Nat) [NeZero N] : (places n N).size = n := by simp [places]
theorem places_get (n N : Nat) [NeZero N] (h : n ≤ N) {p : Nat} (hp : p < n) : ((places n N)[p]!).val = p := by
  have : p < (places n N).size := by rw [places_size]; exact hp
  rw [getElem!_pos _ p this]
  simp [places, Fin.ofNat]
  exact Nat.mod_eq_of_lt (by omega)
theorem infoi : (Try.prog.info? 3).map (fun i => (i.zero, i.size, i.bytes)) = some (some (.int .i64 0), 1, 8) := by kernel_rfl
/-- What Order answers. -/
def OrderQ (l : List Nat) (n : Nat) (w : World) (e : Ending) (w' : World) : Prop := ∃ g cap o, e = .returned (.slice (some ⟨g, 0, none⟩) n cap) ∧ Sl w' (some ⟨g, 0, none⟩) n (il o) ∧ Ordered l n o ∧ Below w.heap.size w w'
theorem sort_made {A : Option Addr} {n c cap : Nat} {l : List Nat} {w w1 : World} {arr : Array Value} {T : TypeId} (h : FL w A n l) (hb : Below w.heap.size w w1) (hn : n ≤ 1000000) (hw : w.heap.size < w1.heap.size) (hbx : w1.cell? ⟨w.heap.size, 0, none⟩ = some (.slice A n c)) (hsz : arr.size = n) (harr : ∀ j, j < n → arr[j]? = some (.int .i64 (j : Int))) :
    Calls Try.prog 15 #[.slice (some ⟨w1.heap.size, 0, none⟩) n cap, Fv w.heap.size] (w1.alloc (.cells arr T)) fun e w' => e = .returned (.tuple #[]) ∧ ∃ o, Sl w' (some ⟨w1.heap.size, 0, none⟩) n (il o) ∧ Ordered l n o ∧ Below w.heap.size w w' := by
  obtain ⟨N, hN⟩ : ∃ N, N = max n 1 := ⟨_, rfl⟩
  haveI : NeZero N := ⟨by omega⟩
  have hd := places_size n N
  have hg := fun p (hp : p < n) => places_get n N (by omega) hp
  obtain ⟨w0, hw0⟩ : ∃ w0, w0 = w1.alloc (.cells arr T) := ⟨_, rfl⟩
  have hb0 : Below w.heap.size w w0 := by rw [hw0]; exact hb.alloc hb.size _
  have hs0 : w0.heap.size = w1.heap.size + 1 := by rw [hw0]; simp
  have HH : Holds (en (Fin.val (n := N))) w0 w1.heap.size 0 (places n N) := fun j hj => by
    rw [hd] at hj
    rw [hw0, Nat.zero_add]
    refine ⟨?_, by simp⟩
    have := cell_of_row _ w1.heap.size j arr T (0, 0) (heap_alloc_new w1 (.cells arr T))
    rw [harr j hj] at this
    rw [this]
    show _ = some (Value.int .i64 _)
    rw [hg j hj]
  have R : Row1 (en (Fin.val (n := N))) w0 w1.heap.size 0 (places n N) := ⟨en_one _, HH, by omega⟩
  have O := ord_fin l N
  have H : CmpOk (Fin.val (n := N)) w0 w1.heap.size (places n N) w.heap.size (fun x y => tst l x y) := fun W dk hk S p q hp hq => by
    have bW := sw_below S (B0 := w1.heap.size) (Nat.le_refl _) (by omega)
    have bw := hb0.trans (bW.mono hb.size)
    have hl : FL W A n l := ⟨h.1.below bw, h.2.1, h.2.2⟩
    have hx : W.cell? ⟨w.heap.size, 0, none⟩ = some (.slice A n c) := by
      rw [bW.cell (p := ⟨w.heap.size, 0, none⟩) hw, hw0, (Below.alloc (Below.refl w1.heap.size w1) (Nat.le_refl _) (.cells arr T)).cell (p := ⟨w.heap.size, 0, none⟩) hw]
      exact hbx
    have e : N = n := by rw [hd] at hk; omega
    exact order1_any hx hl (by have := (dk[p]!).isLt; omega) (by have := (dk[q]!).isLt; omega)
  have hu : Up (Fin.val (n := N)) (places n N) 0 n := fun p q h1 h2 h3 => by rw [hg p (by omega), hg q h3]; exact h2
  rw [← hw0]
  refine (sortStable_any (cap := cap) O H R (SW.start HH) hd (by omega) hu).mono fun e w' ⟨he, d', S', hr, hm⟩ => ⟨he, (List.range n).map (fun p => (d'[p]!).val), ⟨?_, fun k u hu => ?_⟩, ordered_of (by omega) hd hg hm hr, ?_⟩
  · simp [il]
  · have hk : k < n := by
      have := (List.getElem?_eq_some_iff.1 hu).1
      simpa [il] using this
    have c1 := S'.c1 R (hm.size) k (by rw [hm.size, hd]; exact hk)
    refine ⟨_, rfl, ?_⟩
    simp only [Nat.zero_add] at c1
    rw [add_at, c1, ← hu]
    simp [il, List.getElem?_range hk]
    rfl
  · exact hb0.trans ((sw_below S' (B0 := w.heap.size) hb.size (by have := hb.size; omega)))
set_option maxHeartbeats 1000000 in
theorem order_any {A : Option Addr} {n c : Nat} {l : List Nat} {w : World} (h : FL w A n l) (hn : n ≤ 1000000) :
    Calls Try.prog 7 #[.slice A n c] w (OrderQ l n w) := by
  have hmk := fun w => run_make_row' (P := Try.prog) 25 3 (.int .i64 0) 8 Try.underlying25 infoi rfl .i64 .i64 n (by omega) (by omega) w
  have HF := Lib.hid h
  clear h
  go_enter Try.func7, Try.ntmps7
  go_wp2_with fail
  go_loopg [10, 4] n (fun g1 vi _ wr => ∃ (k : Nat) (arr : Array Value), vi = .int .i64 k ∧ k ≤ n ∧ n - k ≤ g1 ∧ Hid (arr.size = n) ∧ Hid (∀ j, j < k → arr[j]? = some (.int .i64 (j : Int))) ∧ wr = (w.alloc (.cells #[.slice A n c] 22)).alloc (.cells arr 3))
  case atStart => exact ⟨0, _, rfl, Nat.zero_le _, by omega, Lib.hid (size_madeCells _ _), Lib.hid fun j hj => by omega, rfl⟩
  case round =>
    obtain ⟨k, arr, rfl, hk, hg, HSZ, HARR, rfl⟩ := hrel
    by_cases hlt : k < n
    · have hks : k < arr.size := by rw [HSZ.out]; exact hlt
      obtain ⟨x, hx⟩ : ∃ x, x = arr[k] := ⟨_, rfl⟩
      have hc : ((w.alloc (.cells #[.slice A n c] 22)).alloc (.cells arr 3)).cell? ⟨w.heap.size + 1, k, none⟩ = some x := by
        have := cell_of_row _ _ k arr 3 (0, 0) (heap_alloc_new (w.alloc (.cells #[.slice A n c] 22)) (.cells arr 3))
        rw [Array.getElem?_eq_getElem hks, ← hx] at this
        simpa using this
      have q1 : (k : Int) < (n : Int) := by omega
      clear hx hks
      go_wp2_with fail
      go_roundg (n - (k + 1))
      case measure => omega
      case rel =>
        refine ⟨k + 1, _, by go_num, by omega, Nat.le_refl _, Lib.hid (by simp [HSZ.out]), Lib.hid fun j hj => ?_, rfl⟩
        rw [Array.getElem?_setIfInBounds]
        by_cases hjk : k = j
        · subst hjk
          rw [if_pos rfl, if_pos (by rw [HSZ.out]; exact hlt)]
        · rw [if_neg hjk]; exact HARR.out j (by omega)
    · have q1 : ¬ (k : Int) < (n : Int) := by omega
      have C := Lib.hid (sort_made (c := c) (cap := n) (T := 3) (w1 := w.alloc (.cells #[.slice A n c] 22)) HF.out ((Below.refl _ _).alloc (Nat.le_refl _) _) hn (by simp) (by simp) HSZ.out (fun j hj => HARR.out j (by omega)))
      simp only [World.size_alloc] at C
      go_wp2_with fail
      (with_reducible refine C.out.mono ?_)
      rintro e w2 ⟨rfl, o, h1, h2, h3⟩
      have R1 := Lib.hid h1
      have R2 := Lib.hid h2
      have R3 := Lib.hid h3
      clear h1 h2 h3
      go_wp2_with fail
      go_ret
      exact ⟨_, _, o, rfl, R1.out, R2.out, R3.out⟩
end Go.Proofs.Ytdiihpnfeeediaa.So
