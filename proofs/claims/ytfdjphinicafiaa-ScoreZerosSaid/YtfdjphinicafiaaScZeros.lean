/-
  The walk of the law that zeros play no part in a total.
-/
import Derived.Test.YtfdjphinicafiaaScByteLaws
import Derived.Deep.RegionLaw
import Derived.Deep.AppendLies
import Derived.RegionTactic
import Derived.Deep.CutBlock
import Derived.Deep.DeepCutAuto
import Derived.Outline
import Derived.Deep.RegionHeld3
namespace Go.Proofs.Ytfdjphinicafiaa.Sc
open Go.RowKit Go.Deep
set_option linter.unusedVariables false

/-! Plain: a zero among the numbers changes no total. -/
theorem totR_valid (l : List Nat) (hl : ∀ x ∈ l, x < 18446744073709551616) : ∀ s, totR l = some s → s < 18446744073709551616 ∧ valid s = true := by
  have : ∀ k, ∀ s, totR (l.take k) = some s → s < 18446744073709551616 ∧ valid s = true := by
    intro k
    induction k with
    | zero => intro s h; simp [totR] at h; subst h; exact ⟨by decide, valid_zero⟩
    | succ k ih =>
      intro s h
      cases hx : l[k]? with
      | none =>
        have : l.take (k + 1) = l.take k := by rw [List.take_add_one, hx]; simp
        rw [this] at h; exact ih s h
      | some x =>
        rw [take_snoc l k x hx, totR_snoc] at h
        cases ht : totR (l.take k) with
        | none => rw [ht] at h; simp at h
        | some t =>
          rw [ht] at h
          obtain ⟨h1, h2⟩ := ih t ht
          simp only [Option.bind_some] at h
          unfold step at h
          split at h
          · rename_i hv
            obtain ⟨r, ha, hr⟩ := add_valid h1 (hl x (List.mem_of_getElem? hx)) h2 hv
            have ha' : addF t x = some r := ha
            rw [ha'] at h
            simp only at h
            split at h
            · cases h
            · rename_i h4
              cases h
              exact ⟨add_lt ha', hr h4⟩
          · cases h
  intro s h
  refine this l.length s ?_
  rwa [List.take_length]
theorem step_zero {s : Nat} (h : s < 18446744073709551616) (hv : valid s = true) : step s 0 = some s := by
  unfold step
  have ha : addF s 0 = some s := add_zero h hv
  rw [if_pos valid_zero, ha]
  simp only
  rw [if_neg (cls_valid hv).2.1]
theorem totR_zero (l m : List Nat) (hl : ∀ x ∈ l, x < 18446744073709551616) : totR (l ++ 0 :: m) = totR (l ++ m) := by
  have e1 : totR (l ++ 0 :: m) = m.foldl (fun s x => s.bind (step · x)) ((totR l).bind (step · 0)) := by
    unfold totR; rw [List.foldl_append, List.foldl_cons]
  have e2 : totR (l ++ m) = m.foldl (fun s x => s.bind (step · x)) (totR l) := by
    unfold totR; rw [List.foldl_append]
  rw [e1, e2]
  congr 1
  cases h : totR l with
  | none => rfl
  | some s =>
    obtain ⟨h1, h2⟩ := totR_valid l hl s h
    exact step_zero h1 h2
theorem tot_zero (l : List Nat) (k : Nat) (hl : ∀ x ∈ l, x < 18446744073709551616) : totX (l.take k ++ 0 :: l.drop k) = totX l ∧ totE (l.take k ++ 0 :: l.drop k) = totE l := by
  have := totR_zero (l.take k) (l.drop k) fun x hx => hl x (List.mem_of_mem_take hx)
  rw [List.take_append_drop] at this
  unfold totX totE; rw [this]; exact ⟨rfl, rfl⟩

theorem among_any (x n : Int) (w : World) (hn : 1 ≤ n) (hn' : n ≤ 1000000) (hx : -9223372036854775808 ≤ x) (hx' : x ≤ 9223372036854775807) :
    Calls Try.prog 43 #[.int .i64 x, .int .i64 n] w fun e w' => e = .returned (.int .i64 (x % n)) ∧ w = w' := by
  have hm : IntKind.i64.wrap (x.tmod n) = x.tmod n := by
    refine IntWalk.i64_in _ ?_
    have h1 := Int.tmod_lt_of_pos x (show 0 < n by omega)
    have h2 := Int.lt_tmod_of_pos x (show 0 < n by omega)
    omega
  go_enter Try.func43, Try.ntmps43
  have he : x % n = (x.tmod n) % n := by
    have := Int.tmod_add_mul_tdiv x n
    rw [← this]; simp [Int.add_mul_emod_self_left]
    rw [this]
  have h1 := Int.tmod_lt_of_pos x (show 0 < n by omega)
  have h2 := Int.lt_tmod_of_pos x (show 0 < n by omega)
  have HE := Lib.hid he
  have H12 := Lib.hid (And.intro h1 h2)
  clear he h1 h2
  go_wp2
  · go_ret
    have := H12.out
    have hneg : x.tmod n < 0 := by assumption
    refine ⟨ret_int ?_, rfl⟩
    rw [HE.out, IntWalk.wrap64_in _ (by omega), ← Int.add_emod_right, Int.emod_eq_of_lt (by omega) (by omega)]
  · go_ret
    have := H12.out
    have hpos : 0 ≤ x.tmod n := by assumption
    refine ⟨ret_int ?_, rfl⟩
    rw [HE.out, Int.emod_eq_of_lt hpos (by omega)]

theorem infof : (Try.prog.info? 22).map (fun i => (i.zero, i.size, i.bytes)) = some (some (.float .f64 0), 1, 8) := by kernel_rfl
section
variable {P : Program} {w : World}
theorem wp_append_sl {o : Oper} {a : Act} {K : Act → World → Prop} {Q : Exit → Act → World → Prop} (s x : Operand) (t : TypeId)
    (ho : o.op = .call { callee := .builtin .append, args := #[s, x], argTypes := #[t, t] })
    (base : Nat) (e : TypeId) (i : TypeInfo) (z : Value) (bytes : Nat) (ht : P.underlying t = some (.slice e)) (hi : P.info? e = some i) (hz : i.zero = some z)
    (hsize : i.size = 1) (hby : i.bytes = bytes) (hzs : z.cells.size = 1)
    (v : Value) (n : Nat) (xs : List Value) (hs : a.eval s = v) (hown : w.ownsRow base e 1 v n xs)
    (A : Option Addr) (m c : Nat) (news : List Value) (hx : a.eval x = .slice A m c) (hnil : A = none → c = 0) (hsl : Sl w A m news) (h1 : ∀ u ∈ news, u.oneCell' = true)
    (h63 : n + m ≤ maxLen) (hbytes : (n + m) * bytes ≤ 140737488355328) (hbase : base ≤ w.heap.size)
    (h : ∀ v' w', w'.ownsRow base e 1 v' (n + m) (xs ++ news) → w.grownBy w' v.ownBlock → K (a.put o.dst v') w') : Oper.wp P o a w K Q := by
  cases A with
  | none =>
    obtain rfl := hnil rfl
    have hm : m = 0 := by
      rcases Nat.eq_zero_or_pos m with h0 | h0
      · exact h0
      · obtain ⟨ad, he, _⟩ := hsl.at_ h0
        cases he
    subst hm
    have hn : news = [] := List.length_eq_zero_iff.1 hsl.1
    subst hn
    have hrun := run_append_owned_none (P := P) (w := w) base t o.type e i 1 ht hi v n xs hown
    unfold Oper.wp
    simp only [execOp, ho]
    simp [resolve, invoke, builtin, hs, hx, hrun, Result.andThen]
    exact h v w (by simpa using hown) (World.grownBy.refl w _)
  | some ad =>
    refine wp_append_own w s x t ho base e i z 1 bytes ht hi hz hsize hby hzs (by decide) v n xs hs hown ad m c news hx (by rw [hsl.1]; omega) (fun j u hu => ?_) h1 h63 hbytes hbase (fun v' w' h2 h3 _ => h v' w' h2 h3)
    obtain ⟨ad', he, hc⟩ := hsl.2 j u hu
    cases he
    exact hc
theorem step_append_sl {ops : Array Oper} {o : Oper} {a : Act} {K : Act → World → Prop} {Q : Exit → Act → World → Prop} {E : Prop} (hgd : o.guard = none) (s x : Operand) (t : TypeId)
    (ho : o.op = .call { callee := .builtin .append, args := #[s, x], argTypes := #[t, t] })
    (base : Nat) (e : TypeId) (i : TypeInfo) (z : Value) (bytes : Nat) (ht : P.underlying t = some (.slice e)) (hi : P.info? e = some i) (hz : i.zero = some z)
    (hsize : i.size = 1) (hby : i.bytes = bytes) (hzs : z.cells.size = 1)
    (v : Value) (n : Nat) (xs : List Value) (hs : a.eval s = v) (hown : w.ownsRow base e 1 v n xs)
    (A : Option Addr) (m c : Nat) (news : List Value) (hx : a.eval x = .slice A m c) (hnil : A = none → c = 0) (hsl : Sl w A m news) (h1 : ∀ u ∈ news, u.oneCell' = true)
    (h63 : n + m ≤ maxLen) (hbytes : (n + m) * bytes ≤ 140737488355328) (hbase : base ≤ w.heap.size)
    (h : ∀ v' w', w'.ownsRow base e 1 v' (n + m) (xs ++ news) → w.grownBy w' v.ownBlock → K (a.put o.dst v') w') :
    if Region.wanted o (yielded ops a.tmps) = true then Oper.wp P o a w K Q else E := by
  have hw : Region.wanted o (yielded ops a.tmps) = true := by simp [Region.wanted, hgd]
  rw [if_pos hw]
  exact wp_append_sl s x t ho base e i z bytes ht hi hz hsize hby hzs v n xs hs hown A m c news hx hnil hsl h1 h63 hbytes hbase h
end

theorem Sl.take_ {w : World} {A : Option Addr} {n : Nat} {l : List Nat} (h : Sl w A n (fl l)) (k : Nat) (hk : k ≤ n) : Sl w A k (fl (l.take k)) := by
  have hl : l.length = n := by simpa [fl] using h.1
  refine ⟨by simp [fl, hl]; omega, fun j v hv => h.2 j v ?_⟩
  unfold fl at hv ⊢
  rw [List.map_take, List.getElem?_take] at hv
  split at hv
  · exact hv
  · cases hv
theorem Sl.drop_ {w : World} {A : Option Addr} {n c : Nat} {l : List Nat} (h : Sl w A n (fl l)) (k : Nat) (hk : k ≤ n) (hc : n ≤ c) : Sl w (if c = k then A else A.map (fun x => x.add k)) (n - k) (fl (l.drop k)) := by
  have hl : l.length = n := by simpa [fl] using h.1
  refine ⟨by simp [fl, hl], fun j v hv => ?_⟩
  have hjl : j < n - k := by have := (List.getElem?_eq_some_iff.1 hv).1; simpa [fl, hl] using this
  unfold fl at hv
  rw [List.map_drop, List.getElem?_drop] at hv
  obtain ⟨ad, rfl, hcell⟩ := h.2 (k + j) v hv
  rw [if_neg (by omega)]
  refine ⟨ad.add k, rfl, ?_⟩
  rw [← hcell]
  congr 1
  unfold Addr.add
  by_cases h0 : k = 0
  · subst h0; simp
  · by_cases h1 : j = 0
    · subst h1; simp
    · simp [h0, h1, Nat.add_assoc]
theorem nil_drop {A : Option Addr} {c k : Nat} (h : A = none → c = 0) : (if c = k then A else A.map (fun x => x.add k)) = none → c - k = 0 := by
  intro h1
  split at h1
  · omega
  · cases A with
    | none => have := h rfl; omega
    | some a => simp at h1
theorem Below.of_grown {B : Nat} {w w' : World} {row : Option Nat} (hg : w.grownBy w' row) (hB : B ≤ w.heap.size) (hr : ∀ k, row = some k → B ≤ k) : Below B w w' := (Below.refl B w).grown hg hB hr
theorem fl_cell (l : List Nat) : ∀ u ∈ fl l, u.oneCell' = true := by
  intro u hu; simp [fl] at hu; obtain ⟨y, -, rfl⟩ := hu; rfl


theorem own_blk {w : World} {base : Nat} {e : TypeId} {v : Value} {n : Nat} {xs : List Value} (h : w.ownsRow base e 1 v n xs) : ∀ k, v.ownBlock = some k → base ≤ k := by
  obtain ⟨hl, h2⟩ := h
  rcases h2 with ⟨rfl, -⟩ | ⟨g, cap, cur, rfl, hg, -⟩
  · intro k hk; cases hk
  · intro k hk; simp [Value.ownBlock] at hk; omega
theorem own_below' {w w' : World} {base : Nat} {e : TypeId} {v : Value} {n : Nat} {xs : List Value} (h : w.ownsRow base e 1 v n xs) (hb : Below w.heap.size w w') : w'.ownsRow base e 1 v n xs := by
  obtain ⟨hl, h2⟩ := h
  refine ⟨hl, ?_⟩
  rcases h2 with h2 | ⟨g, cap, cur, hv, hg, hh, r⟩
  · exact .inl h2
  · refine .inr ⟨g, cap, cur, hv, hg, ?_, r⟩
    have hlt : g < w.heap.size := by
      rcases Nat.lt_or_ge g w.heap.size with h | h
      · exact h
      · rw [Array.getElem?_eq_none h] at hh; cases hh
    exact (hb.block g hlt).trans hh
theorem sl_new (w : World) (T : TypeId) (v : Value) : Sl (w.alloc (.cells #[v] T)) (some ⟨w.heap.size, 0, none⟩) 1 [v] := by
  refine ⟨rfl, fun k u hu => ⟨_, rfl, ?_⟩⟩
  cases k with
  | zero =>
    simp at hu
    subst hu
    have e : (⟨w.heap.size, 0, none⟩ : Addr).add 0 = ⟨w.heap.size, 0, none⟩ := by unfold Addr.add; simp
    rw [e]
    exact cell_of_row _ _ 0 #[v] T (0, 0) (heap_alloc_new w (.cells #[v] T))
  | succ k => simp at hu
set_option maxRecDepth 100000 in
set_option maxHeartbeats 16000000 in
theorem zeros_core (l : List Nat) (A : Option Addr) (n c : Nat) (at_ : Int) (a b : Nat) (w0 : World) (hn : n ≤ 300) (k : Nat) (hk : k ≤ n) (hc : n ≤ c) (HL : Hid (∀ x ∈ l, x < 18446744073709551616)) (HA : Hid (a < 18446744073709551616)) (HB : Hid (b < 18446744073709551616)) (z : Nat) (ez : Int) (HZ : Hid (z < 18446744073709551616)) (MID : Hid (∀ w, Calls Try.prog 36 #[.float .f64 a, .float .f64 b] w fun e w' => e = .returned (.tuple #[.float .f64 z, .int .i64 ez]) ∧ w = w')) (HQ : (ez == 0) = false ∨ ((ez == 0) = true ∧ ((cmp z a == 1) && (cmp z b == 1)) = false ∧ ((cmp a z == 1) && (cmp b z == 1)) = false)) (hnil : Hid (A = none → c = 0)) (HS : Hid (Sl w0 A n (fl l))) (hka : ∀ w, Calls Try.prog 43 #[.int .i64 at_, .int .i64 ((n : Int) + 1)] w fun e w' => e = .returned (.int .i64 (k : Int)) ∧ w = w') :
    Calls Try.prog 14 #[.slice A n c, .int .i64 at_, .float .f64 a, .float .f64 b] w0 fun e w' => e = .returned (.bool true) ∧ Below w0.heap.size w0 w' := by
  have HKA := Lib.hid hka
  clear hka
  have t1 : decide (300 < (n : Int)) = false := by simp; omega
  have k1 : (0 : Int) ≤ (k : Int) := by omega
  have k2 : (k : Int) ≤ (n : Int) := by omega
  have k3 : (k : Int) ≤ (c : Int) := by omega
  have k4 : k ≤ c := by omega
  obtain ⟨i0, hi, hz0, hz1, hz2⟩ := info_parts infof
  go_enter Try.func14, Try.ntmps14
  go_wp2_with (go_at_call 43; refine (HKA.out _).mono ?_; rintro e w' ⟨rfl, rfl⟩)
  have X0 : Below w0.heap.size w0 w0 := Below.refl _ _
  go_region_held3 (fun x => Below w0.heap.size w0 x)
    (first | exact X3 | exact X2 | exact X1 | exact X0 | exact X1.alloc X1.size _ | exact X0.alloc (Nat.le_refl _) _ | exact X0.drew | exact (X0.drew).alloc (Nat.le_refl _) _)
    (first | (refine step_append_sl (o := ⟨some 30, _, _, _, _, _⟩) (by rfl) (.tmp 26) (.tmp 29) 41 (by rfl) w0.heap.size 22 i0 _ 8 Try.underlying41 hi hz0 hz1 hz2 (by rfl) (.slice none 0 0) 0 [] (by rfl) (own_nil _ _ _) A k c (fl (l.take k)) (by rfl) hnil.out (by first | exact Sl.take_ HS.out k hk | exact Sl.take_ (HS.out.below ((Below.refl _ _).drew)) k hk | exact Sl.take_ (HS.out.below ((Below.refl _ _).drew.alloc (Nat.le_refl _) _)) k hk) (fl_cell _) (by unfold maxLen; omega) (by omega) (by first | exact Nat.le_refl _ | (simp; done)) ?_; intro v1 w1 hown1 hgrow1; have X1 : Below w0.heap.size w0 w1 := by first | exact (X0.drew).grown hgrow1 (Nat.le_refl _) (fun k e => by cases e) | exact ((X0.drew).alloc (Nat.le_refl _) _).grown hgrow1 (by simp) (fun k e => by cases e)) | (refine step_append_sl (o := ⟨some 32, _, _, _, _, _⟩) (by rfl) (.tmp 30) (.tmp 31) 41 (by rfl) w0.heap.size 22 i0 _ 8 Try.underlying41 hi hz0 hz1 hz2 (by rfl) v1 (0 + k) ([] ++ fl (l.take k)) (by rfl) (own_below' hown1 ((Below.refl _ _).alloc (Nat.le_refl _) _)) (some ⟨w1.heap.size, 0, none⟩) 1 1 [.float .f64 0] (by rfl) (fun h => by cases h) (sl_new w1 _ _) (by intro u hu; simp at hu; subst hu; rfl) (by unfold maxLen; omega) (by omega) (by have := X1.size; simp; omega) ?_; intro v2 w2 hown2 hgrow2; have X2 : Below w0.heap.size w0 w2 := (X1.alloc X1.size _).grown hgrow2 (by have := X1.size; simp; omega) (own_blk hown1)) | (refine step_append_sl (o := ⟨some 32, _, _, _, _, _⟩) (by rfl) (.tmp 30) (.tmp 31) 41 (by rfl) w0.heap.size 22 i0 _ 8 Try.underlying41 hi hz0 hz1 hz2 (by rfl) v1 (0 + k) ([] ++ fl (l.take k)) (by rfl) hown1 (some ⟨w0.heap.size, 0, none⟩) 1 1 [.float .f64 0] (by rfl) (fun h => by cases h) (Sl.below (sl_new w0.drew _ _) ((Below.refl _ _).grown hgrow1 (Nat.le_refl _) (fun k e => by cases e))) (by intro u hu; simp at hu; subst hu; rfl) (by unfold maxLen; omega) (by omega) X1.size ?_; intro v2 w2 hown2 hgrow2; have X2 : Below w0.heap.size w0 w2 := X1.grown hgrow2 X1.size (own_blk hown1)) | (refine step_append_sl (o := ⟨some 36, _, _, _, _, _⟩) (by rfl) (.tmp 32) (.tmp 35) 41 (by rfl) w0.heap.size 22 i0 _ 8 Try.underlying41 hi hz0 hz1 hz2 (by rfl) v2 (0 + k + 1) ([] ++ fl (l.take k) ++ [.float .f64 0]) (by rfl) hown2 _ (n - k) (c - k) (fl (l.drop k)) (by rfl) (nil_drop hnil.out) ((HS.out.below X2).drop_ k hk hc) (fl_cell _) (by unfold maxLen; omega) (by omega) X2.size ?_; intro v3 w3 hown3 hgrow3; have X3 : Below w0.heap.size w0 w3 := X2.grown hgrow3 X2.size (own_blk hown2)))
  all_goals
    rename_i hHeld
    clear hHeld
    generalize (if c = k then A else Option.map (fun x => x.add k) A) = AX
    rw [show 0 + k + 1 + (n - k) = n + 1 by omega, show [] ++ fl (l.take k) ++ [Value.float .f64 0] ++ fl (l.drop k) = fl (l.take k ++ 0 :: l.drop k) by simp [fl]] at hown3
    obtain ⟨A3, c3, rfl, hs3, -⟩ := Sl.own hown3
    have S3 := Lib.hid hs3
    have B3 := Lib.hid X3
    have S0 := Lib.hid (HS.out.below X3)
    clear hown1 hgrow1 hown2 hgrow2 hown3 hgrow3 hs3 X1 X2 X3 X0
    have LM := Lib.hid (tot_zero l k HL.out)
    go_wp2_with (go_at_call 34; (with_reducible refine (total_any A n c l w3 (by omega) HL.out S0.out).mono ?_); rintro e w4 ⟨rfl, m4, rfl⟩)
    have S4 := Lib.hid (Sl.drewN S3.out m4)
    have HT := Lib.hid (total_any A3 (n + 1) c3 _ _ (by omega) (show ∀ x ∈ l.take k ++ 0 :: l.drop k, x < 18446744073709551616 from fun x hx => by
      rcases List.mem_append.1 hx with h | h
      · exact HL.out x (List.mem_of_mem_take h)
      · rcases List.mem_cons.1 h with rfl | h
        · decide
        · exact HL.out x (List.mem_of_mem_drop h)) S4.out)
    rw [LM.out.1, LM.out.2] at HT
    go_wp2_with (go_at_call 34; (with_reducible refine HT.out.mono ?_); rintro e w5 ⟨rfl, m5, rfl⟩)
    have B5 := Lib.hid (Below.drewN B3.out (m4 + m5))
    generalize w3.drewN (m4 + m5) = w5 at B5 ⊢
    clear HT S4 S3 S0 B3
    rcases HQ with h | ⟨h, q12, q34⟩
    · go_wp2_with (first | (go_at_call 36; (with_reducible refine (MID.out _).mono ?_); rintro e w' ⟨rfl, rfl⟩) | (go_at_call 24; (with_reducible refine (rsame_any _ _ _).mono ?_); rintro e w' ⟨rfl, rfl⟩) | (go_at_call 21; (with_reducible refine (known_any _).mono ?_); rintro e w6 ⟨rfl, hb⟩))
      go_ret
      exact ⟨rfl, B5.out.trans (hb.mono B5.out.size)⟩
    · have p12 : (cmp z a == 1) = false ∨ ((cmp z a == 1) = true ∧ (cmp z b == 1) = false) := by
        cases c1 : (cmp z a == 1)
        · exact .inl rfl
        · rw [c1, Bool.true_and] at q12; exact .inr ⟨rfl, q12⟩
      have p34 : (cmp a z == 1) = false ∨ ((cmp a z == 1) = true ∧ (cmp b z == 1) = false) := by
        cases c3 : (cmp a z == 1)
        · exact .inl rfl
        · rw [c3, Bool.true_and] at q34; exact .inr ⟨rfl, q34⟩
      clear q12 q34
      have CP := Lib.hid (fun x y (hx : x < 18446744073709551616) (hy : y < 18446744073709551616) => fun w => compare_any x y w hx hy)
      rcases p12 with c1 | ⟨c1, c2⟩ <;> rcases p34 with c3 | ⟨c3, c4⟩
      all_goals
        go_wp2_with (first | (go_at_call 36; (with_reducible refine (MID.out _).mono ?_); rintro e w' ⟨rfl, rfl⟩) | (go_at_call 19; refine (compare_any _ _ _ (by first | exact HZ.out | exact HA.out | exact HB.out) (by first | exact HZ.out | exact HA.out | exact HB.out)).mono ?_; rintro e w' ⟨rfl, rfl⟩) | (go_at_call 24; (with_reducible refine (rsame_any _ _ _).mono ?_); rintro e w' ⟨rfl, rfl⟩) | (go_at_call 21; (with_reducible refine (known_any _).mono ?_); rintro e w6 ⟨rfl, hb⟩))
        go_ret
        exact ⟨rfl, B5.out.trans (hb.mono B5.out.size)⟩
end Go.Proofs.Ytfdjphinicafiaa.Sc
