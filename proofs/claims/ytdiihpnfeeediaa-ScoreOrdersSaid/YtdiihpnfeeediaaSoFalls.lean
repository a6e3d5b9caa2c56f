/-
  Falls, of the program and of the document; whether two rows of numbers are the same.
-/
import Derived.Test.YtdiihpnfeeediaaScOwn
import Derived.Test.YtdiihpnfeeediaaSoOrd
import Derived.Deep.QuietTactic
import Derived.BigQuiet
import Derived.IntWalk
import Derived.Deep.LoopGhost
namespace Go.Proofs.Ytdiihpnfeeediaa.So
open Go.RowKit Go.Sort Go.Proofs.Ytdiihpnfeeediaa.Sc
set_option linter.unusedVariables false

/-- Whether none is above the one ahead of it. -/
def fallsB (l : List Nat) : Bool := (List.range (l.length - 1)).all fun k => decide (cd l (k + 1) ≤ cd l k)
theorem fallsB_iff {l : List Nat} : fallsB l = true ↔ ∀ k, k + 1 < l.length → cd l (k + 1) ≤ cd l k := by
  unfold fallsB
  rw [List.all_eq_true]
  constructor
  · intro h k hk
    exact of_decide_eq_true (h k (List.mem_range.2 (by omega)))
  · intro h k hk
    exact decide_eq_true (h k (by have := List.mem_range.1 hk; omega))
theorem falls_yes {l : List Nat} {n k : Nat} (hl : l.length = n) (h : ∀ j, j + 1 < k → cd l (j + 1) ≤ cd l j) (hk : n ≤ k) : fallsB l = true := fallsB_iff.2 fun j hj => h j (by omega)
theorem falls_no {l : List Nat} {n k : Nat} (hl : l.length = n) (hk : k + 1 < n) (h : cd l k < cd l (k + 1)) : fallsB l = false := by
  rw [Bool.eq_false_iff]
  intro hh
  have := fallsB_iff.1 hh k (by omega)
  omega
theorem fl_len {l : List Nat} : (fl l).length = l.length := by simp [fl]
theorem fl_get {l : List Nat} {k : Nat} (h : k < l.length) : (fl l)[k]? = some (.float .f64 (l.getD k 0)) := by
  simp [fl, List.getElem?_eq_getElem h]
theorem fl_at {w : World} {A : Option Addr} {n : Nat} {l : List Nat} (h : Sl w A n (fl l)) {k : Nat} (hk : k < n) : ∃ ad, A = some ad ∧ w.cell? (ad.add k) = some (.float .f64 (l.getD k 0)) := by
  obtain ⟨ad, e, hc⟩ := h.at_ hk
  have hl : l.length = n := by have := h.1; rwa [fl_len] at this
  rw [fl_get (by omega)] at hc
  exact ⟨ad, e, hc⟩
theorem getD_lt {l : List Nat} (h : ∀ x ∈ l, x < 18446744073709551616) (k : Nat) : l.getD k 0 < 18446744073709551616 := by
  rw [List.getD_eq_getElem?_getD]
  rcases hk : l[k]? with _ | x
  · simp
  · exact h x (List.mem_of_getElem? hk)
theorem compare_q (a b : Nat) (w : World) (ha : a < 18446744073709551616) (hb : b < 18446744073709551616) :
    Calls Try.prog 14 #[.float .f64 a, .float .f64 b] w fun e w' => e = .returned (.int .i64 (cmp a b)) ∧ w' = w := (compare_any a b w ha hb).mono fun _ _ ⟨h1, h2⟩ => ⟨h1, h2.symm⟩
theorem rcode_q' (b : Nat) (w : World) (hb : b < 18446744073709551616) :
    Calls Try.prog 17 #[.float .f64 b] w fun e w' => e = .returned (.int .u64 ((code b : Nat) : Int)) ∧ w' = w := (rcode_any b w hb).mono fun _ _ ⟨h1, h2⟩ => ⟨h1, h2.symm⟩
theorem drew_sl {w : World} {A : Option Addr} {n : Nat} {xs : List Value} (h : Sl w A n xs) (m : Nat) : Sl (w.drewN m) A n xs := h.keep fun _ _ => rfl
/-- A bool and draws. -/
def BoolQ (b : Bool) (w : World) (e : Ending) (w' : World) : Prop := e = .returned (.bool b) ∧ ∃ m, w' = w.drewN m
set_option maxHeartbeats 1000000 in
theorem falls_any {A : Option Addr} {n c : Nat} {l : List Nat} {w : World} (h : FL w A n l) :
    Calls Try.prog 9 #[.slice A n c] w (BoolQ (fallsB l) w) := by
  obtain ⟨hs, hn, hl⟩ := h
  have HS := Lib.hid hs
  have HL := Lib.hid hl
  have HLEN := Lib.hid (show l.length = n by have := hs.1; rwa [fl_len] at this)
  clear hs hl
  go_enter Try.func9, Try.ntmps9
  go_wp2_with fail
  go_loopg [3] n (fun g1 vi wr => ∃ k : Nat, vi = .int .i64 k ∧ 1 ≤ k ∧ n - k ≤ g1 ∧ (k ≤ n ∨ k = 1) ∧ Hid (∃ m, wr = w.drewN m) ∧ Hid (∀ j, j + 1 < k → cd l (j + 1) ≤ cd l j))
  case atStart => exact ⟨1, by go_num, Nat.le_refl _, by omega, Or.inr rfl, Lib.hid ⟨0, rfl⟩, Lib.hid fun j h => by omega⟩
  case round =>
    obtain ⟨k, rfl, hk1, hg, hk2, HW, HK⟩ := hrel
    by_cases hlt : k < n
    · obtain ⟨p, hp⟩ : ∃ p, k = p + 1 := ⟨k - 1, by omega⟩
      obtain ⟨ad, rfl, c1⟩ := fl_at HS.out (show k < n from hlt)
      obtain ⟨ad', e, c2⟩ := fl_at HS.out (show p < n by omega)
      cases e
      obtain ⟨m, hm⟩ := HW.out
      have d1 : wr.cell? (ad.add k) = some (.float .f64 (l.getD k 0)) := by rw [hm]; exact c1
      have d2 : wr.cell? (ad.add p) = some (.float .f64 (l.getD p 0)) := by rw [hm]; exact c2
      have hx := getD_lt HL.out k
      have hy := getD_lt HL.out p
      have ht : cmp (l.getD k 0) (l.getD p 0) > 0 ↔ cd l p < cd l k := by
        unfold cmp cd
        split
        · omega
        · split <;> omega
      obtain ⟨x, ex⟩ : ∃ x, x = l.getD k 0 := ⟨_, rfl⟩
      obtain ⟨y, ey⟩ : ∃ y, y = l.getD p 0 := ⟨_, rfl⟩
      rw [← ex] at d1 hx ht
      rw [← ey] at d2 hy ht
      have C := Lib.hid (fun w => compare_q x y w hx hy)
      obtain ⟨z, ez⟩ : ∃ z, z = cmp x y := ⟨_, rfl⟩
      rw [← ez] at C ht
      have e1 : (k : Int) - 1 = (p : Int) := by omega
      have r1 : IntKind.i64.wrap (p : Int) = (p : Int) := by rw [IntKind.wrap_i64]; omega
      have q1 : (p : Int) < (n : Int) := by omega
      have HP := Lib.hid hp
      have HT := Lib.hid ht
      clear hm c1 c2 hx hy ex ey ez hp ht
      by_cases hz : z > 0
      · have hd : decide (z > 0) = true := decide_eq_true hz
        go_wp2_with fail
        go_quiet ((go_at_call 14; exact Calls.quiet_of_same (C.out _)))
        go_wp2_with fail
        go_ret
        obtain ⟨m, hm⟩ := HW.out
        have hf := falls_no (l := l) (k := p) HLEN.out (by have := HP.out; omega) (by have := HT.out.1 hz; rwa [HP.out] at this)
        rw [hf]
        exact ⟨rfl, m + nq, by rw [hm, World.drewN_drewN]⟩
      · have hd : decide (z > 0) = false := decide_eq_false hz
        go_wp2_with fail
        go_quiet ((go_at_call 14; exact Calls.quiet_of_same (C.out _)))
        go_wp2_with fail
        go_roundg (n - (k + 1))
        case measure => omega
        case rel =>
          refine ⟨k + 1, by go_num, by omega, by omega, by omega, Lib.hid ?_, Lib.hid fun j hj => ?_⟩
          · obtain ⟨m, hm⟩ := HW.out
            exact ⟨m + nq, by rw [hm, World.drewN_drewN]⟩
          · by_cases e : j + 1 < k
            · exact HK.out j e
            · have e2 : j = p := by have := HP.out; omega
              have e3 : j + 1 = k := by omega
              have := HT.out
              rw [e3, e2]
              omega
    · go_wp2_with fail
      go_ret
      obtain ⟨m, hm⟩ := HW.out
      rw [falls_yes HLEN.out HK.out (by omega)]
      exact ⟨rfl, m, hm⟩
set_option maxHeartbeats 1000000 in
theorem rfalls_any {A : Option Addr} {n c : Nat} {l : List Nat} {w : World} (h : FL w A n l) (hn' : n ≤ 1000000) :
    Calls Try.prog 10 #[.slice A n c] w (BoolQ (fallsB l) w) := by
  obtain ⟨hs, hn, hl⟩ := h
  have HS := Lib.hid hs
  have HL := Lib.hid hl
  have HLEN := Lib.hid (show l.length = n by have := hs.1; rwa [fl_len] at this)
  clear hs hl hn
  go_enter Try.func10, Try.ntmps10
  go_wp2_with fail
  go_loopg [3] n (fun g1 vi wr => ∃ k : Nat, vi = .int .i64 k ∧ n - k ≤ g1 ∧ k ≤ n ∧ Hid (∃ m, wr = w.drewN m) ∧ Hid (∀ j, j + 1 < k + 1 → cd l (j + 1) ≤ cd l j))
  case atStart => exact ⟨0, by go_num, by omega, Nat.zero_le _, Lib.hid ⟨0, rfl⟩, Lib.hid fun j h => by omega⟩
  case round =>
    obtain ⟨k, rfl, hg, hk2, HW, HK⟩ := hrel
    by_cases hlt : k + 1 < n
    · obtain ⟨p, hp⟩ : ∃ p, p = k + 1 := ⟨_, rfl⟩
      obtain ⟨ad, rfl, c1⟩ := fl_at HS.out (show k < n by omega)
      obtain ⟨ad', e, c2⟩ := fl_at HS.out (show p < n by omega)
      cases e
      obtain ⟨m, hm⟩ := HW.out
      have d1 : wr.cell? (ad.add k) = some (.float .f64 (l.getD k 0)) := by rw [hm]; exact c1
      have d2 : wr.cell? (ad.add p) = some (.float .f64 (l.getD p 0)) := by rw [hm]; exact c2
      have hx := getD_lt HL.out k
      have hy := getD_lt HL.out p
      have hx2 : cd l k < 18446744073709551616 := code_lt _ hx
      have hy2 : cd l p < 18446744073709551616 := code_lt _ hy
      obtain ⟨x, ex⟩ : ∃ x, x = l.getD k 0 := ⟨_, rfl⟩
      obtain ⟨y, ey⟩ : ∃ y, y = l.getD p 0 := ⟨_, rfl⟩
      have C1 := Lib.hid (fun w => rcode_q' (l.getD k 0) w hx)
      have C2 := Lib.hid (fun w => rcode_q' (l.getD p 0) w hy)
      obtain ⟨X, eX⟩ : ∃ z, z = cd l k := ⟨_, rfl⟩
      obtain ⟨Y, eY⟩ : ∃ z, z = cd l p := ⟨_, rfl⟩
      rw [show code (l.getD k 0) = X from eX.symm, ← ex] at C1
      rw [show code (l.getD p 0) = Y from eY.symm, ← ey] at C2
      rw [← ex] at d1
      rw [← ey] at d2
      have e1 : (k : Int) + 1 = (p : Int) := by omega
      have r1 : IntKind.i64.wrap (p : Int) = (p : Int) := by rw [IntKind.wrap_i64]; omega
      have q1 : (p : Int) < (n : Int) := by omega
      have q2 : (k : Int) < (n : Int) := by omega
      have HP := Lib.hid hp
      have EX := Lib.hid eX
      have EY := Lib.hid eY
      clear hm c1 c2 hx hy hx2 hy2 ex ey hp eX eY hlt
      by_cases hz : X < Y
      · have hd : decide ((Y : Int) > (X : Int)) = true := decide_eq_true (by omega)
        have hd' : (X : Int) < (Y : Int) := by omega
        go_wp2_with fail
        go_quiet ((first | (go_at_call_of 17 (Value.float .f64 y); exact Calls.quiet_of_same (C2.out _)) | (go_at_call_of 17 (Value.float .f64 x); exact Calls.quiet_of_same (C1.out _))))
        go_wp2_with fail
        go_ret
        obtain ⟨m, hm⟩ := HW.out
        have hf := falls_no (l := l) (k := k) HLEN.out (by have := HP.out; omega) (by rw [← EX.out, ← HP.out, ← EY.out]; exact hz)
        rw [hf]
        exact ⟨rfl, m + nq, by rw [hm, World.drewN_drewN]⟩
      · have hd : decide ((Y : Int) > (X : Int)) = false := decide_eq_false (by omega)
        have hd' : ¬ (X : Int) < (Y : Int) := by omega
        go_wp2_with fail
        go_quiet ((first | (go_at_call_of 17 (Value.float .f64 y); exact Calls.quiet_of_same (C2.out _)) | (go_at_call_of 17 (Value.float .f64 x); exact Calls.quiet_of_same (C1.out _))))
        go_wp2_with fail
        go_roundg (n - p)
        case measure => have := HP.out; omega
        case rel =>
          refine ⟨p, rfl, by omega, by omega, Lib.hid ?_, Lib.hid fun j hj => ?_⟩
          · obtain ⟨m, hm⟩ := HW.out
            exact ⟨m + nq, by rw [hm, World.drewN_drewN]⟩
          · by_cases e : j + 1 < k + 1
            · exact HK.out j e
            · have e2 : j = k := by have := HP.out; omega
              rw [e2, ← HP.out, ← EX.out, ← EY.out]
              omega
    · have q1 : ¬ (k : Int) + 1 < (n : Int) := by omega
      go_wp2_with fail
      go_ret
      obtain ⟨m, hm⟩ := HW.out
      rw [falls_yes HLEN.out HK.out (by omega)]
      exact ⟨rfl, m, hm⟩
/-- Places as values. -/
def il (o : List Nat) : List Value := o.map fun k : Nat => Value.int .i64 (k : Int)
theorem il_len {o : List Nat} : (il o).length = o.length := by simp [il]
theorem il_get {o : List Nat} {k : Nat} (h : k < o.length) : (il o)[k]? = some (.int .i64 ((o.getD k 0 : Nat) : Int)) := by simp [il, List.getElem?_eq_getElem h]
theorem il_at {w : World} {A : Option Addr} {n : Nat} {o : List Nat} (h : Sl w A n (il o)) {k : Nat} (hk : k < n) : ∃ ad, A = some ad ∧ w.cell? (ad.add k) = some (.int .i64 ((o.getD k 0 : Nat) : Int)) := by
  obtain ⟨ad, e, hc⟩ := h.at_ hk
  have hl : o.length = n := by have := h.1; rwa [il_len] at this
  rw [il_get (by omega)] at hc
  exact ⟨ad, e, hc⟩
set_option maxHeartbeats 1000000 in
theorem sameInts_any {A A' : Option Addr} {n c c' : Nat} {o : List Nat} {w : World} (h : Sl w A n (il o)) (h' : Sl w A' n (il o)) (hn : n ≤ 1000000) :
    Calls Try.prog 6 #[.slice A n c, .slice A' n c'] w (BoolQ true w) := by
  have HS := Lib.hid h
  have HS' := Lib.hid h'
  clear h h'
  go_enter Try.func6, Try.ntmps6
  have t0 : ((n : Int) != (n : Int)) = false := by simp
  go_wp2_with fail
  go_loopg [5] n (fun g1 vi wr => ∃ k : Nat, vi = .int .i64 k ∧ n - k ≤ g1 ∧ k ≤ n ∧ Hid (∃ m, wr = w.drewN m))
  case atStart => exact ⟨0, by go_num, by omega, Nat.zero_le _, Lib.hid ⟨0, rfl⟩⟩
  case round =>
    obtain ⟨k, rfl, hg, hk2, HW⟩ := hrel
    by_cases hlt : k < n
    · obtain ⟨ad, rfl, c1⟩ := il_at HS.out hlt
      obtain ⟨ad', rfl, c2⟩ := il_at HS'.out hlt
      obtain ⟨m, hm⟩ := HW.out
      have d1 : wr.cell? (ad.add k) = some (.int .i64 ((o.getD k 0 : Nat) : Int)) := by rw [hm]; exact c1
      have d2 : wr.cell? (ad'.add k) = some (.int .i64 ((o.getD k 0 : Nat) : Int)) := by rw [hm]; exact c2
      obtain ⟨x, ex⟩ : ∃ x, x = o.getD k 0 := ⟨_, rfl⟩
      rw [← ex] at d1 d2
      have t1 : ((x : Int) != (x : Int)) = false := by simp
      have q1 : (k : Int) < (n : Int) := by omega
      clear hm c1 c2 ex
      go_wp2_with fail
      go_quiet (fail)
      go_wp2_with fail
      go_roundg (n - (k + 1))
      case measure => omega
      case rel =>
        refine ⟨k + 1, by go_num, by omega, by omega, Lib.hid ?_⟩
        obtain ⟨m, hm⟩ := HW.out
        exact ⟨m + nq, by rw [hm, World.drewN_drewN]⟩
    · go_wp2_with fail
      go_ret
      exact ⟨rfl, HW.out⟩
end Go.Proofs.Ytdiihpnfeeediaa.So
