/-
  The document's Order: each number's place behind all that are not below it.
-/
import Derived.Test.YtdiihpnfeeediaaSoFalls
import Derived.Deep.OwnRows
namespace Go.Proofs.Ytdiihpnfeeediaa.So
open Go.RowKit Go.Proofs.Ytdiihpnfeeediaa.Sc Go.Deep
set_option linter.unusedVariables false

theorem infoi' : (Try.prog.info? 3).map (fun i => (i.zero, i.size, i.bytes)) = some (some (.int .i64 0), 1, 8) := by kernel_rfl
theorem infoP : ∃ i0, Try.prog.info? 3 = some i0 ∧ i0.zero = some (.int .i64 0) ∧ i0.size = 1 ∧ i0.bytes = 8 := info_parts infoi'
/-- How many stand ahead. -/
def cut (l o : List Nat) (i : Nat) : Nat := (o.takeWhile (fun x => decide (cd l i ≤ cd l x))).length
theorem split_at {o t d : List Nat} (h : t ++ d = o) : o.take t.length = t ∧ o.drop t.length = d := by subst h; simp
theorem put_eq (l o : List Nat) (i : Nat) : put l o i = o.take (cut l o i) ++ i :: o.drop (cut l o i) := by
  have h := split_at (List.takeWhile_append_dropWhile (p := fun x => decide (cd l i ≤ cd l x)) (l := o))
  unfold put cut
  rw [h.1, h.2]
theorem cut_stop {l o : List Nat} {i k : Nat} (h : ∀ j, j < k → cd l i ≤ cd l (o.getD j 0)) (hk : k ≤ o.length) (hs : k = o.length ∨ cd l (o.getD k 0) < cd l i) : cut l o i = k := by
  induction o generalizing k with
  | nil => simp at hk; subst hk; rfl
  | cons a o ih =>
    cases k with
    | zero =>
      rcases hs with h0 | h0
      · simp at h0
      · simp at h0
        unfold cut
        rw [List.takeWhile_cons, if_neg (by simp; omega)]
        rfl
    | succ k =>
      have h0 := h 0 (by omega)
      simp at h0
      unfold cut at ih ⊢
      rw [List.takeWhile_cons, if_pos (by simpa using h0), List.length_cons]
      rw [ih (k := k) (fun j hj => by have := h (j + 1) (by omega); simpa using this) (by simpa using hk) (by
        rcases hs with e | e
        · exact Or.inl (by simpa using e)
        · exact Or.inr (by simpa using e))]
theorem il_append {a b : List Nat} : il (a ++ b) = il a ++ il b := by simp [il]
theorem il_take {a : List Nat} {k : Nat} : il (a.take k) = (il a).take k := by simp [il]
theorem il_drop {a : List Nat} {k : Nat} : il (a.drop k) = (il a).drop k := by simp [il]
theorem il_one {a : List Nat} : ∀ u ∈ il a, u.oneCell' = true := fun u hu => by
  obtain ⟨x, -, rfl⟩ := List.mem_map.1 hu
  rfl
theorem sl_take {w : World} {A : Option Addr} {n : Nat} {xs : List Value} (h : Sl w A n xs) (k : Nat) (hk : k ≤ n) : Sl w A k (xs.take k) := by
  have hl := h.1
  refine ⟨by simp; omega, fun j v hv => h.2 j v ?_⟩
  rw [List.getElem?_take] at hv
  split at hv
  · exact hv
  · cases hv
theorem sl_drop {w : World} {A : Option Addr} {n c : Nat} {xs : List Value} (h : Sl w A n xs) (k : Nat) (hk : k ≤ n) (hc : n ≤ c) : Sl w (if c = k then A else A.map (fun x => x.add k)) (n - k) (xs.drop k) := by
  have hl := h.1
  refine ⟨by simp [hl], fun j v hv => ?_⟩
  have hjl : j < n - k := by have := (List.getElem?_eq_some_iff.1 hv).1; simpa [hl] using this
  rw [List.getElem?_drop] at hv
  obtain ⟨ad, rfl, hcell⟩ := h.2 (k + j) v hv
  rw [if_neg (by omega)]
  refine ⟨ad.add k, rfl, ?_⟩
  rw [← hcell]
  congr 1
  unfold Addr.add
  by_cases h0 : k = 0
  · subst h0; simp
  · by_cases h1 : j = 0
    · subst h1; simp
    · simp [h0, h1, Nat.add_assoc]
theorem nil_drop' {A : Option Addr} {c k : Nat} (h : A = none → c = 0) : (if c = k then A else A.map (fun x => x.add k)) = none → c - k = 0 := by
  intro h1
  split at h1
  · omega
  · cases A with
    | none => have := h rfl; omega
    | some a => simp at h1
theorem own_blk' {w : World} {base : Nat} {e : TypeId} {v : Value} {n : Nat} {xs : List Value} (h : w.ownsRow base e 1 v n xs) : ∀ k, v.ownBlock = some k → base ≤ k := by
  obtain ⟨hl, h2⟩ := h
  rcases h2 with ⟨rfl, -⟩ | ⟨g, cap, cur, rfl, hg, -⟩
  · intro k hk; cases hk
  · intro k hk; simp [Value.ownBlock] at hk; omega
theorem Below.of_grown' {w w' : World} {row : Option Nat} (hg : w.grownBy w' row) (hr : row ≠ none → False) : Below w.heap.size w w' := (Below.refl _ w).grown hg (Nat.le_refl _) fun k e => by subst e; exact absurd (hr (by simp)) id
theorem own_keep {w w' : World} {base : Nat} {e : TypeId} {v : Value} {n : Nat} {xs : List Value} (h : w.ownsRow base e 1 v n xs) (hb : Below w.heap.size w w') : w'.ownsRow base e 1 v n xs := by
  obtain ⟨hl, h2⟩ := h
  refine ⟨hl, ?_⟩
  rcases h2 with h2 | ⟨g, cap, cur, hv, hg, hh, r⟩
  · exact .inl h2
  · refine .inr ⟨g, cap, cur, hv, hg, ?_, r⟩
    have hlt : g < w.heap.size := by
      rcases Nat.lt_or_ge g w.heap.size with h | h
      · exact h
      · rw [Array.getElem?_eq_none h] at hh; cases hh
    exact (hb.block g hlt).trans hh
theorem own_cap {w : World} {base : Nat} {e : TypeId} {A : Option Addr} {n cap : Nat} {xs : List Value} (h : w.ownsRow base e 1 (.slice A n cap) n xs) : n ≤ cap ∧ cap ≤ 9223372036854775807 := by
  obtain ⟨hl, h2⟩ := h
  rcases h2 with ⟨h2, h3⟩ | ⟨g, cap', cur, hv, hg, hh, h3, h4, r⟩
  · injection h2 with h2 h5 h6
    omega
  · injection hv with h2 h5 h6
    unfold maxLen at h4
    omega
theorem sl_new' (w : World) (T : TypeId) (v : Value) : Sl (w.alloc (.cells #[v] T)) (some ⟨w.heap.size, 0, none⟩) 1 [v] := by
  refine ⟨rfl, fun k u hu => ⟨_, rfl, ?_⟩⟩
  cases k with
  | zero =>
    simp at hu
    subst hu
    have e : (⟨w.heap.size, 0, none⟩ : Addr).add 0 = ⟨w.heap.size, 0, none⟩ := by unfold Addr.add; simp
    rw [e]
    exact cell_of_row _ _ 0 #[v] T (0, 0) (heap_alloc_new w (.cells #[v] T))
  | succ k => simp at hu
set_option maxHeartbeats 2000000 in
set_option maxRecDepth 100000 in
theorem rorder_any {A : Option Addr} {n c : Nat} {l : List Nat} {w : World} (h : FL w A n l) (hn : n ≤ 1000000) :
    Calls Try.prog 8 #[.slice A n c] w fun e w' => ∃ v, e = .returned v ∧ w'.ownsRow w.heap.size 3 1 v n (il (rord l n)) ∧ Below w.heap.size w w' := by
  obtain ⟨hs, -, hl⟩ := h
  have HS := Lib.hid hs
  have HL := Lib.hid hl
  clear hs hl
  obtain ⟨i0, hi, hz0, hz1, hz2⟩ := infoP
  go_enter Try.func8, Try.ntmps8
  go_wp2_with fail
  go_loopg [4, 3, 5, 6] n (fun g1 vi vo _ _ wr => ∃ i : Nat, vi = .int .i64 i ∧ i ≤ n ∧ n - i ≤ g1 ∧ Hid (wr.ownsRow w.heap.size 3 1 vo i (il (rord l i))) ∧ Hid (Below w.heap.size w wr))
  case atStart => exact ⟨0, rfl, Nat.zero_le _, by omega, Lib.hid (own_nil _ _ _), Lib.hid (Below.refl _ _)⟩
  case round =>
    obtain ⟨i, rfl, hin, hg, HO, HB⟩ := hrel
    by_cases hlt : i < n
    · have q1 : (i : Int) < (n : Int) := by omega
      obtain ⟨O, cap, rfl, hsl, hnil, hmax⟩ := Sl.own HO.out
      have HSL := Lib.hid hsl
      have HNIL := Lib.hid hnil
      have HORD := Lib.hid (ordered_rord l i)
      clear hsl hnil hmax
      have HCAP := Lib.hid (own_cap HO.out)
      have HOL := Lib.hid HORD.out.len
      obtain ⟨o, ho⟩ : ∃ o, o = rord l i := ⟨_, rfl⟩
      rw [← ho] at HSL HOL
      have HORD' := HORD
      rw [← ho] at HORD'
      have HOO := Lib.hid ho
      clear ho HORD
      go_wp2_with fail
      have HO1 := HO
      rw [← HOO.out] at HO1
      go_loopg [5] i (fun g2 vk wr2 => ∃ k : Nat, vk = .int .i64 k ∧ k ≤ i ∧ i - k ≤ g2 ∧ Hid (Below w.heap.size w wr2) ∧ Hid (wr2.ownsRow w.heap.size 3 1 (.slice O i cap) i (il o)) ∧ Hid (Sl wr2 O i (il o)) ∧ Hid (∀ j, j < k → cd l i ≤ cd l (o.getD j 0)))
      case atStart => exact ⟨0, rfl, Nat.zero_le _, by omega, HB, HO1, HSL, Lib.hid fun j h => by omega⟩
      case round =>
        clear HB HO1 HSL HO
        obtain ⟨k, rfl, hki, hg2, HB, HO, HSL, HK⟩ := hrel
        have HA := Lib.hid (HS.out.below HB.out)
        by_cases hk : k < i
        · obtain ⟨ad, rfl, c1⟩ := il_at HSL.out hk
          have ho1 := HORD'.out.lt (o.getD k 0) (by
            have : k < o.length := by have := HOL.out; omega
            rw [List.getD_eq_getElem?_getD, List.getElem?_eq_getElem this]; exact List.getElem_mem _)
          obtain ⟨ad2, rfl, c2⟩ := fl_at HA.out (show o.getD k 0 < n by omega)
          obtain ⟨ad3, e3, c3⟩ := fl_at HA.out hlt
          cases e3
          have hx := getD_lt HL.out (o.getD k 0)
          have hy := getD_lt HL.out i
          have hx2 : cd l (o.getD k 0) < 18446744073709551616 := code_lt _ hx
          have hy2 : cd l i < 18446744073709551616 := code_lt _ hy
          have C1 := Lib.hid (fun w => rcode_q' (l.getD (o.getD k 0) 0) w hx)
          have C2 := Lib.hid (fun w => rcode_q' (l.getD i 0) w hy)
          obtain ⟨X, eX⟩ : ∃ z, z = cd l (o.getD k 0) := ⟨_, rfl⟩
          obtain ⟨Y, eY⟩ : ∃ z, z = cd l i := ⟨_, rfl⟩
          rw [show code (l.getD (o.getD k 0) 0) = X from eX.symm] at C1
          rw [show code (l.getD i 0) = Y from eY.symm] at C2
          obtain ⟨p, ep⟩ : ∃ p, p = o.getD k 0 := ⟨_, rfl⟩
          rw [← ep] at c1 c2 ho1 C1
          obtain ⟨x, ex⟩ : ∃ x, x = l.getD p 0 := ⟨_, rfl⟩
          obtain ⟨y, ey⟩ : ∃ y, y = l.getD i 0 := ⟨_, rfl⟩
          rw [← ex] at c2 C1
          rw [← ey] at c3 C2
          have q2 : (p : Int) < (n : Int) := by omega
          have q3 : (k : Int) < (i : Int) := by omega
          have q4 : decide ((k : Int) < (i : Int)) = true := decide_eq_true q3
          have EX := Lib.hid eX
          have EY := Lib.hid eY
          clear hx hy hx2 hy2 eX eY ep ex ey
          by_cases hz : Y ≤ X
          · have hd : decide ((X : Int) ≥ (Y : Int)) = true := decide_eq_true (by omega)
            have hd' : (Y : Int) ≤ (X : Int) := by omega
            go_wp2_with fail
            go_quiet ((first | (go_at_call_of 17 (Value.float .f64 x); exact Calls.quiet_of_same (C1.out _)) | (go_at_call_of 17 (Value.float .f64 y); exact Calls.quiet_of_same (C2.out _))))
            go_wp2_with fail
            go_roundg (i - (k + 1))
            case measure => omega
            case rel =>
              refine ⟨k + 1, by go_num, by omega, by omega, Lib.hid (Below.drewN HB.out _), Lib.hid HO.out, Lib.hid (drew_sl HSL.out _), Lib.hid fun j hj => ?_⟩
              by_cases e : j < k
              · exact HK.out j e
              · obtain rfl : j = k := by omega
                rw [← EX.out, ← EY.out]; exact hz
          · have hd : decide ((X : Int) ≥ (Y : Int)) = false := decide_eq_false (by omega)
            have hd' : ¬ (Y : Int) ≤ (X : Int) := by omega
            go_wp2_with fail
            go_quiet ((first | (go_at_call_of 17 (Value.float .f64 x); exact Calls.quiet_of_same (C1.out _)) | (go_at_call_of 17 (Value.float .f64 y); exact Calls.quiet_of_same (C2.out _))))
            have HC := Lib.hid (cut_stop HK.out (by have := HOL.out; omega) (Or.inr (by rw [← EX.out, ← EY.out]; omega)))
            have B1 := Lib.hid (Below.drewN HB.out nq)
            have O1 := Lib.hid (show (wr.drewN nq).ownsRow w.heap.size 3 1 (.slice (some ad) i cap) i (il o) from HO.out)
            have S1 := Lib.hid (drew_sl HSL.out nq)
            generalize wr.drewN nq = w1 at B1 O1 S1 ⊢
            obtain ⟨hcap, hcap2⟩ := HCAP.out
            have hck : ¬ cap = k := by omega
            have hck' : ¬ k = cap := by omega
            have k3 : (k : Int) ≤ (cap : Int) := by omega
            have k4 : k ≤ cap := by omega
            have k5 : (k : Int) ≤ (i : Int) := by omega
            go_wp2_with (at_builtin; refine wpList_append_sl rfl _ _ 25 rfl w1.heap.size 3 i0 _ 8 Try.underlying25 hi hz0 hz1 hz2 rfl (.slice none 0 0) 0 [] rfl (own_nil _ _ _) (some ad) k cap ((il o).take k) rfl (fun h => by cases h) (sl_take S1.out k (by omega)) (fun u hu => il_one u (List.mem_of_mem_take hu)) (by unfold maxLen; omega) (by omega) (Nat.le_refl _) ?_)
            intro v2 w2 hown2 hgrow2
            have BB2 := Lib.hid ((Below.refl w1.heap.size w1).grown hgrow2 (Nat.le_refl _) (own_blk' (own_nil w1 w1.heap.size 3)))
            obtain ⟨A2, z2, rfl, -, hnil2, -⟩ := Sl.own hown2
            have O2 := Lib.hid hown2
            clear hown2 hgrow2 hnil2
            go_wp2_with (at_builtin; refine wpList_append_sl rfl _ _ 25 rfl w1.heap.size 3 i0 _ 8 Try.underlying25 hi hz0 hz1 hz2 rfl (.slice A2 k z2) k _ rfl (own_keep O2.out ((Below.refl _ _).alloc (Nat.le_refl _) _)) (some ⟨w2.heap.size, 0, none⟩) 1 1 [.int .i64 (i : Int)] rfl (fun h => by cases h) (sl_new' w2 _ _) (fun u hu => by simp at hu; subst hu; rfl) (by unfold maxLen; omega) (by omega) (by have := BB2.out.size; simp; omega) ?_)
            intro v3 w3 hown3 hgrow3
            have BB3 := Lib.hid ((BB2.out.alloc BB2.out.size (.cells #[.int .i64 (i : Int)] 3)).grown hgrow3 (by have := BB2.out.size; simp; omega) (own_blk' O2.out))
            have S3 := Lib.hid (S1.out.below BB3.out)
            obtain ⟨A3, z3, rfl, -, hnil3, -⟩ := Sl.own hown3
            have O3 := Lib.hid hown3
            clear hown3 hgrow3 hnil3
            have SD := Lib.hid (show Sl w3 (some (ad.add k)) (i - k) ((il o).drop k) from by have h := sl_drop (c := cap) S3.out k hki hcap; rw [if_neg hck] at h; exact h)
            go_wp2_with (at_builtin; refine wpList_append_sl rfl _ _ 25 rfl w1.heap.size 3 i0 _ 8 Try.underlying25 hi hz0 hz1 hz2 rfl (.slice A3 (k + 1) z3) (k + 1) _ rfl O3.out (some (ad.add k)) (i - k) (cap - k) ((il o).drop k) rfl (fun h => by cases h) SD.out (fun u hu => il_one u (List.mem_of_mem_drop hu)) (by unfold maxLen; omega) (by omega) BB3.out.size ?_)
            intro v4 w4 hown4 hgrow4
            have BB4 := Lib.hid (BB3.out.grown hgrow4 BB3.out.size (own_blk' O3.out))
            have O4 := Lib.hid hown4
            clear hown4 hgrow4
            go_wp2_with fail
            go_roundg (n - (i + 1))
            case measure => omega
            case rel =>
              refine ⟨i + 1, by go_num, by omega, Nat.le_refl _, Lib.hid ?_, Lib.hid (B1.out.trans (BB4.out.mono B1.out.size))⟩
              have h := own_base O4.out B1.out.size
              rw [rord_succ, ← HOO.out, put_eq, HC.out]
              rw [show k + 1 + (i - k) = i + 1 by omega] at h
              simpa [il] using h
        · have q4 : decide ((k : Int) < (i : Int)) = false := decide_eq_false (by omega)
          have q3 : ¬ (k : Int) < (i : Int) := by omega
          obtain rfl : i = k := by omega
          have HC := Lib.hid (cut_stop (l := l) (i := i) HK.out (by have := HOL.out; omega) (Or.inl (by have := HOL.out; omega)))
          obtain ⟨hcap, hcap2⟩ := HCAP.out
          cases O with
          | none =>
            obtain rfl := HNIL.out rfl
            obtain rfl : i = 0 := by omega
            go_wp2_with fail
            go_quiet (fail)
            have B1 := Lib.hid (Below.drewN HB.out nq)
            have S1 := Lib.hid (drew_sl HSL.out nq)
            generalize wr.drewN nq = w1 at B1 S1 ⊢
            go_wp2_with (at_builtin; refine wpList_append_sl rfl _ _ 25 rfl w1.heap.size 3 i0 _ 8 Try.underlying25 hi hz0 hz1 hz2 rfl (.slice none 0 0) 0 [] rfl (own_nil _ _ _) none 0 0 ((il o).take 0) rfl (fun _ => rfl) (sl_take S1.out 0 (by omega)) (fun u hu => il_one u (List.mem_of_mem_take hu)) (by unfold maxLen; omega) (by omega) (Nat.le_refl _) ?_)
            intro v2 w2 hown2 hgrow2
            have BB2 := Lib.hid ((Below.refl w1.heap.size w1).grown hgrow2 (Nat.le_refl _) (own_blk' (own_nil w1 w1.heap.size 3)))
            obtain ⟨A2, z2, rfl, -, hnil2, -⟩ := Sl.own hown2
            have O2 := Lib.hid hown2
            clear hown2 hgrow2 hnil2
            go_wp2_with (at_builtin; refine wpList_append_sl rfl _ _ 25 rfl w1.heap.size 3 i0 _ 8 Try.underlying25 hi hz0 hz1 hz2 rfl (.slice A2 0 z2) 0 _ rfl (own_keep O2.out ((Below.refl _ _).alloc (Nat.le_refl _) _)) (some ⟨w2.heap.size, 0, none⟩) 1 1 [.int .i64 (0 : Int)] rfl (fun h => by cases h) (sl_new' w2 _ _) (fun u hu => by simp at hu; subst hu; rfl) (by unfold maxLen; omega) (by omega) (by have := BB2.out.size; simp; omega) ?_)
            intro v3 w3 hown3 hgrow3
            have BB3 := Lib.hid ((BB2.out.alloc BB2.out.size (.cells #[.int .i64 (0 : Int)] 3)).grown hgrow3 (by have := BB2.out.size; simp; omega) (own_blk' O2.out))
            have S3 := Lib.hid (S1.out.below BB3.out)
            obtain ⟨A3, z3, rfl, -, hnil3, -⟩ := Sl.own hown3
            have O3 := Lib.hid hown3
            clear hown3 hgrow3 hnil3
            go_wp2_with (at_builtin; refine wpList_append_sl rfl _ _ 25 rfl w1.heap.size 3 i0 _ 8 Try.underlying25 hi hz0 hz1 hz2 rfl (.slice A3 1 z3) 1 _ rfl O3.out none 0 0 [] rfl (fun _ => rfl) ⟨rfl, fun k v h => by simp at h⟩ (fun u hu => by simp at hu) (by unfold maxLen; omega) (by omega) BB3.out.size ?_)
            intro v4 w4 hown4 hgrow4
            have BB4 := Lib.hid (BB3.out.grown hgrow4 BB3.out.size (own_blk' O3.out))
            have O4 := Lib.hid hown4
            clear hown4 hgrow4
            go_wp2_with fail
            go_roundg (n - (0 + 1))
            case measure => omega
            case rel =>
              refine ⟨0 + 1, by go_num, by omega, Nat.le_refl _, Lib.hid ?_, Lib.hid (B1.out.trans (BB4.out.mono B1.out.size))⟩
              have h := own_base O4.out B1.out.size
              rw [rord_succ, ← HOO.out, put_eq, HC.out]
              have hd : o.drop 0 = [] := List.drop_eq_nil_of_le (by have := HOL.out; omega)
              rw [hd]
              simpa [il] using h
          | some ad =>
            by_cases hck : cap = i
            · obtain rfl : i = cap := by omega
              clear hck
              go_wp2_with fail
              go_quiet (fail)
              have B1 := Lib.hid (Below.drewN HB.out nq)
              have S1 := Lib.hid (drew_sl HSL.out nq)
              generalize wr.drewN nq = w1 at B1 S1 ⊢
              go_wp2_with (at_builtin; refine wpList_append_sl rfl _ _ 25 rfl w1.heap.size 3 i0 _ 8 Try.underlying25 hi hz0 hz1 hz2 rfl (.slice none 0 0) 0 [] rfl (own_nil _ _ _) (some ad) i i ((il o).take i) rfl (fun h => by cases h) (sl_take S1.out i (by omega)) (fun u hu => il_one u (List.mem_of_mem_take hu)) (by unfold maxLen; omega) (by omega) (Nat.le_refl _) ?_)
              intro v2 w2 hown2 hgrow2
              have BB2 := Lib.hid ((Below.refl w1.heap.size w1).grown hgrow2 (Nat.le_refl _) (own_blk' (own_nil w1 w1.heap.size 3)))
              obtain ⟨A2, z2, rfl, -, hnil2, -⟩ := Sl.own hown2
              have O2 := Lib.hid hown2
              clear hown2 hgrow2 hnil2
              go_wp2_with (at_builtin; refine wpList_append_sl rfl _ _ 25 rfl w1.heap.size 3 i0 _ 8 Try.underlying25 hi hz0 hz1 hz2 rfl (.slice A2 i z2) i _ rfl (own_keep O2.out ((Below.refl _ _).alloc (Nat.le_refl _) _)) (some ⟨w2.heap.size, 0, none⟩) 1 1 [.int .i64 (i : Int)] rfl (fun h => by cases h) (sl_new' w2 _ _) (fun u hu => by simp at hu; subst hu; rfl) (by unfold maxLen; omega) (by omega) (by have := BB2.out.size; simp; omega) ?_)
              intro v3 w3 hown3 hgrow3
              have BB3 := Lib.hid ((BB2.out.alloc BB2.out.size (.cells #[.int .i64 (i : Int)] 3)).grown hgrow3 (by have := BB2.out.size; simp; omega) (own_blk' O2.out))
              have S3 := Lib.hid (S1.out.below BB3.out)
              obtain ⟨A3, z3, rfl, -, hnil3, -⟩ := Sl.own hown3
              have O3 := Lib.hid hown3
              clear hown3 hgrow3 hnil3
              go_wp2_with (at_builtin; refine wpList_append_sl rfl _ _ 25 rfl w1.heap.size 3 i0 _ 8 Try.underlying25 hi hz0 hz1 hz2 rfl (.slice A3 (i + 1) z3) (i + 1) _ rfl O3.out (some ad) 0 0 [] rfl (fun h => by cases h) ⟨rfl, fun k v h => by simp at h⟩ (fun u hu => by simp at hu) (by unfold maxLen; omega) (by omega) BB3.out.size ?_)
              intro v4 w4 hown4 hgrow4
              have BB4 := Lib.hid (BB3.out.grown hgrow4 BB3.out.size (own_blk' O3.out))
              have O4 := Lib.hid hown4
              clear hown4 hgrow4
              go_wp2_with fail
              go_roundg (n - (i + 1))
              case measure => omega
              case rel =>
                refine ⟨i + 1, by go_num, by omega, Nat.le_refl _, Lib.hid ?_, Lib.hid (B1.out.trans (BB4.out.mono B1.out.size))⟩
                have h := own_base O4.out B1.out.size
                rw [rord_succ, ← HOO.out, put_eq, HC.out]
                have hd : o.drop i = [] := List.drop_eq_nil_of_le (by have := HOL.out; omega)
                rw [hd]
                simpa [il] using h
            · have hck' : ¬ i = cap := by omega
              go_wp2_with fail
              go_quiet (fail)
              have B1 := Lib.hid (Below.drewN HB.out nq)
              have S1 := Lib.hid (drew_sl HSL.out nq)
              generalize wr.drewN nq = w1 at B1 S1 ⊢
              have k3 : (i : Int) ≤ (cap : Int) := by omega
              have k4 : i ≤ cap := by omega
              have k5 : (i : Int) ≤ (i : Int) := by omega
              go_wp2_with (at_builtin; refine wpList_append_sl rfl _ _ 25 rfl w1.heap.size 3 i0 _ 8 Try.underlying25 hi hz0 hz1 hz2 rfl (.slice none 0 0) 0 [] rfl (own_nil _ _ _) (some ad) i cap ((il o).take i) rfl (fun h => by cases h) (sl_take S1.out i (by omega)) (fun u hu => il_one u (List.mem_of_mem_take hu)) (by unfold maxLen; omega) (by omega) (Nat.le_refl _) ?_)
              intro v2 w2 hown2 hgrow2
              have BB2 := Lib.hid ((Below.refl w1.heap.size w1).grown hgrow2 (Nat.le_refl _) (own_blk' (own_nil w1 w1.heap.size 3)))
              obtain ⟨A2, z2, rfl, -, hnil2, -⟩ := Sl.own hown2
              have O2 := Lib.hid hown2
              clear hown2 hgrow2 hnil2
              go_wp2_with (at_builtin; refine wpList_append_sl rfl _ _ 25 rfl w1.heap.size 3 i0 _ 8 Try.underlying25 hi hz0 hz1 hz2 rfl (.slice A2 i z2) i _ rfl (own_keep O2.out ((Below.refl _ _).alloc (Nat.le_refl _) _)) (some ⟨w2.heap.size, 0, none⟩) 1 1 [.int .i64 (i : Int)] rfl (fun h => by cases h) (sl_new' w2 _ _) (fun u hu => by simp at hu; subst hu; rfl) (by unfold maxLen; omega) (by omega) (by have := BB2.out.size; simp; omega) ?_)
              intro v3 w3 hown3 hgrow3
              have BB3 := Lib.hid ((BB2.out.alloc BB2.out.size (.cells #[.int .i64 (i : Int)] 3)).grown hgrow3 (by have := BB2.out.size; simp; omega) (own_blk' O2.out))
              have S3 := Lib.hid (S1.out.below BB3.out)
              obtain ⟨A3, z3, rfl, -, hnil3, -⟩ := Sl.own hown3
              have O3 := Lib.hid hown3
              clear hown3 hgrow3 hnil3
              go_wp2_with (at_builtin; refine wpList_append_sl rfl _ _ 25 rfl w1.heap.size 3 i0 _ 8 Try.underlying25 hi hz0 hz1 hz2 rfl (.slice A3 (i + 1) z3) (i + 1) _ rfl O3.out (some (ad.add i)) 0 (cap - i) [] rfl (fun h => by cases h) ⟨rfl, fun k v h => by simp at h⟩ (fun u hu => by simp at hu) (by unfold maxLen; omega) (by omega) BB3.out.size ?_)
              intro v4 w4 hown4 hgrow4
              have BB4 := Lib.hid (BB3.out.grown hgrow4 BB3.out.size (own_blk' O3.out))
              have O4 := Lib.hid hown4
              clear hown4 hgrow4
              go_wp2_with fail
              go_roundg (n - (i + 1))
              case measure => omega
              case rel =>
                refine ⟨i + 1, by go_num, by omega, Nat.le_refl _, Lib.hid ?_, Lib.hid (B1.out.trans (BB4.out.mono B1.out.size))⟩
                have h := own_base O4.out B1.out.size
                rw [rord_succ, ← HOO.out, put_eq, HC.out]
                have hd : o.drop i = [] := List.drop_eq_nil_of_le (by have := HOL.out; omega)
                rw [hd]
                simpa [il] using h
    · have q1 : ¬ (i : Int) < (n : Int) := by omega
      go_wp2_with fail
      go_ret
      obtain rfl : i = n := by omega
      exact ⟨_, rfl, HO.out, HB.out⟩
end Go.Proofs.Ytdiihpnfeeediaa.So
