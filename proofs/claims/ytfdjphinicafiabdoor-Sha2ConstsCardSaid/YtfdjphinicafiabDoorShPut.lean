/-
  What a hash holds; the contracts of put, and of what tells a hash's sizes.
-/
import Derived.Test.YtfdjphinicafiabDoorShObj
import Derived.Test.YtfdjphinicafiabDoorGnMore
namespace Go.Proofs.YtfdjphinicafiabDoor.Sh
open Go.RowKit Go.Proofs.YtfdjphinicafiabDoor.Gn Go.Deep
set_option linter.unusedVariables false

/-! Plain: what stands in a hash that has a text. -/
structure St (b : Bool) (T w r : List Nat) : Prop where
  ws : w = run b T (T.length / bk b)
  wl : w.length = 8
  wlt : ∀ x ∈ w, x < mo b
  rl : r.length = 128
  rlt : ∀ x ∈ r, x < 256
  tail : r.take (T.length % bk b) = T.drop (T.length / bk b * bk b)
theorem bk_pos (b : Bool) : 0 < bk b := by cases b <;> decide
theorem bk_le (b : Bool) : bk b ≤ 128 := by cases b <;> decide
theorem run_append (b : Bool) (T p : List Nat) (k : Nat) (h : k * bk b ≤ T.length) : run b (T ++ p) k = run b T k := by
  induction k with
  | zero => rfl
  | succ k ih =>
    have hk : k * bk b + bk b ≤ T.length := by rw [Nat.succ_mul] at h; exact h
    rw [run, run, ih (by omega), List.drop_append_of_le_length (by omega), List.take_append_of_le_length (by simp; omega)]
theorem St.part {b : Bool} {T ws rs : List Nat} (h : St b T ws rs) (p : List Nat) (hp : ∀ x ∈ p, x < 256) (hl : T.length % bk b + p.length < bk b) : St b (T ++ p) ws (spr rs (T.length % bk b) p) := by
  have hB := bk_pos b
  have hm := Nat.mod_lt T.length hB
  have hd := Nat.div_add_mod T.length (bk b)
  have h128 := bk_le b
  have hq : (T ++ p).length / bk b = T.length / bk b := by
    rw [List.length_append, ← hd, Nat.add_assoc, Nat.mul_add_div hB, Nat.div_eq_of_lt hl]
    rw [Nat.mul_add_div hB, Nat.div_eq_of_lt hm]
  have hr : (T ++ p).length % bk b = T.length % bk b + p.length := by
    rw [List.length_append]
    conv => lhs; rw [← hd]
    rw [Nat.add_assoc, Nat.mul_add_mod, Nat.mod_eq_of_lt hl]
  have hqB : T.length / bk b * bk b ≤ T.length := Nat.div_mul_le_self _ _
  refine ⟨?_, h.wl, h.wlt, by rw [spr_length _ _ _ (by rw [h.rl]; omega), h.rl], ?_, ?_⟩
  · rw [hq, run_append _ _ _ _ hqB]; exact h.ws
  · intro x hx
    unfold spr at hx
    rcases List.mem_append.1 hx with hx | hx
    · exact h.rlt x (List.mem_of_mem_take hx)
    · rcases List.mem_append.1 hx with hx | hx
      · exact hp x hx
      · exact h.rlt x (List.mem_of_mem_drop hx)
  · rw [hq, hr, spr_take _ _ _ (by rw [h.rl]; omega), h.tail, List.drop_append_of_le_length hqB]
theorem St.full {b : Bool} {T ws rs : List Nat} (h : St b T ws rs) (p : List Nat) (hp : ∀ x ∈ p, x < 256) (hl : T.length % bk b + p.length = bk b) :
    St b (T ++ p) (bh b ws ((spr rs (T.length % bk b) p).take (bk b))) (spr rs (T.length % bk b) p) := by
  have hB := bk_pos b
  have hm := Nat.mod_lt T.length hB
  have hd := Nat.div_add_mod T.length (bk b)
  have h128 := bk_le b
  have hlen : (T ++ p).length = bk b * (T.length / bk b + 1) := by
    rw [List.length_append, Nat.mul_add, Nat.mul_one]; omega
  have hq : (T ++ p).length / bk b = T.length / bk b + 1 := by rw [hlen, Nat.mul_div_cancel_left _ hB]
  have hr : (T ++ p).length % bk b = 0 := by rw [hlen, Nat.mul_mod_right]
  have hqB : T.length / bk b * bk b ≤ T.length := Nat.div_mul_le_self _ _
  have hsp := spr_take rs (T.length % bk b) p (by rw [h.rl]; omega)
  rw [hl] at hsp
  refine ⟨?_, bh_length _ _ _ h.wl, bh_lt _ _ _, by rw [spr_length _ _ _ (by rw [h.rl]; omega), h.rl], ?_, ?_⟩
  · rw [hq, run, run_append _ _ _ _ hqB, ← h.ws, hsp, h.tail, List.drop_append_of_le_length hqB]
    rw [List.take_of_length_le]
    rw [List.length_append, List.length_drop]
    have : T.length / bk b * bk b = bk b * (T.length / bk b) := Nat.mul_comm _ _
    omega
  · intro x hx
    unfold spr at hx
    rcases List.mem_append.1 hx with hx | hx
    · exact h.rlt x (List.mem_of_mem_take hx)
    · rcases List.mem_append.1 hx with hx | hx
      · exact hp x hx
      · exact h.rlt x (List.mem_of_mem_drop hx)
  · rw [hr, hq, List.take_zero, List.drop_of_length_le]
    rw [hlen, Nat.mul_comm]
    exact Nat.le_refl _
theorem spl_rest (b : Bool) (n : Nat) (ws rs p : List Nat) (hw : ws.length = 8) (k : Nat) (h : k + p.length ≤ rs.length) :
    spl (hc b n ws rs).toArray (10 + k) (bl p) = (hc b n ws (spr rs k p)).toArray := by
  rw [spl_eq _ _ _ (by simp [hc, bl, hw]; omega)]
  obtain ⟨P, hP⟩ : ∃ P : List Value, P = .int .i64 (bt b : Int) :: .int .i64 (n : Int) :: ws.map fun (x : Nat) => Value.int .u64 (x : Int) := ⟨_, rfl⟩
  have hl : P.length = 10 := by simp [hP, hw]
  have e : ∀ r, hc b n ws r = P ++ bl r := fun r => by rw [hP]; rfl
  rw [e, e, ← hl]
  congr 1
  have e2 : (P ++ bl rs).toArray.toList = P ++ bl rs := by simp
  rw [e2, List.take_length_add_append, Nat.add_assoc, List.drop_length_add_append, List.append_assoc]
  simp [spr, bl, List.map_take, List.map_drop]
theorem hc_count (b : Bool) (n m : Nat) (ws rs : List Nat) : (hc b n ws rs).toArray.setIfInBounds 1 (.int .i64 (m : Int)) = (hc b m ws rs).toArray := by
  simp [hc, List.setIfInBounds_toArray]
theorem Tab.only {w w' : World} (h : Tab w) {g : Nat} (hg : 2 ≤ g) (ho : w.grownBy w' (some g)) : Tab w' :=
  ⟨fun t ht => (only_cell ho (cell_lt (h.1 t ht)) (fun e => by injection e with e; simp at e; omega)).trans (h.1 t ht), fun t ht => (only_cell ho (cell_lt (h.2 t ht)) (fun e => by injection e with e; simp at e; omega)).trans (h.2 t ht)⟩
theorem info_u8 : (Tryd.prog.info? 5).map (·.size) = some 1 := by kernel_rfl
theorem block_256 (w : World) : Calls Tryd.prog 41 #[.int .i64 256] w fun e w' => e = .returned (.int .i64 64) ∧ w = w' := by
  go_enter Tryd.func41, Tryd.ntmps41
  go_wp2
  go_ret
  exact ⟨rfl, rfl⟩
theorem block_512 (w : World) : Calls Tryd.prog 41 #[.int .i64 512] w fun e w' => e = .returned (.int .i64 128) ∧ w = w' := by
  go_enter Tryd.func41, Tryd.ntmps41
  go_wp2
  go_ret
  exact ⟨rfl, rfl⟩
theorem dsize_256 (w : World) : Calls Tryd.prog 49 #[.int .i64 256] w fun e w' => e = .returned (.int .i64 32) ∧ w = w' := by
  go_enter Tryd.func49, Tryd.ntmps49
  go_wp2
  go_ret
  exact ⟨rfl, rfl⟩
theorem dsize_512 (w : World) : Calls Tryd.prog 49 #[.int .i64 512] w fun e w' => e = .returned (.int .i64 64) ∧ w = w' := by
  go_enter Tryd.func49, Tryd.ntmps49
  go_wp2
  go_ret
  exact ⟨rfl, rfl⟩
/-- What holds at the head of each round of put. -/
def P32 (T l : List Nat) (g : Nat) (w : World) (v : Value) (wr : World) : Prop :=
  ∃ (j : Nat) (A : Option Addr) (c : Nat) (ws rs : List Nat), j ≤ l.length ∧ v = .slice A (l.length - j) c ∧ Sl wr A (l.length - j) (bl (l.drop j)) ∧ (∀ ad, A = some ad → ad.block ≠ g) ∧ l.length - j ≤ c ∧ Bl wr g 72 (hc false (T.length + j) ws rs).toArray ∧ St false (T ++ l.take j) ws rs ∧ w.grownBy wr (some g) ∧ Tab wr

theorem P_step32 {T l : List Nat} {g : Nat} {w wr w2 : World} {j m p c1 c2 : Nat} {ad : Addr} {A2 : Option Addr} {ws1 rs1 : List Nat} (hg : 2 ≤ g) (hj : j ≤ l.length) (hS1 : Sl wr (some ad) m (bl (l.drop j))) (hS2 : ad.block ≠ g) (h3 : m ≤ c1) (hm : m = l.length - j) (hp : p ≤ m) (hg2 : wr.grownBy w2 (some g))
    (hA2 : A2 = if c1 = p then some ad else some (ad.add p)) (hc2 : c2 = c1 - p) (hbl : Bl w2 g 72 (hc false (T.length + (j + p)) ws1 rs1).toArray) (hst : St false (T ++ l.take (j + p)) ws1 rs1) (h6 : w.grownBy wr (some g)) (tab : Tab wr) : P32 T l g w (.slice A2 (m - p) c2) w2 := by
  have hd := hS1.drop_ (c := c1) p hp h3
  rw [bl_drop, List.drop_drop] at hd
  have hA3 : (if c1 = p then some ad else (some ad).map fun x => x.add p) = A2 := by rw [hA2]; split <;> rfl
  rw [hA3] at hd
  have hA4 : ∀ a, A2 = some a → a.block ≠ g := by
    intro a ha
    rw [hA2] at ha
    split at ha
    · injection ha with ha; rw [← ha]; exact hS2
    · injection ha with ha; rw [← ha, add_block]; exact hS2
  have hml : m - p = l.length - (j + p) := by omega
  refine ⟨j + p, A2, c2, ws1, rs1, by omega, by rw [hml], ?_, hA4, by omega, hbl, hst, only_trans h6 hg2, tab.only hg hg2⟩
  rw [← hml]
  exact hd.only hg2 fun a ha => by
    intro e
    injection e with e
    exact hA4 a ha e.symm

set_option maxRecDepth 100000 in
set_option maxHeartbeats 2000000 in
theorem put32_any (T l ws0 rs0 : List Nat) (g : Nat) (A : Option Addr) (c : Nat) (w : World) (hg : 2 ≤ g) (hl : ∀ x ∈ l, x < 256) (hsl : Sl w A l.length (bl l)) (hA : ∀ ad, A = some ad → ad.block ≠ g) (hlc : l.length ≤ c) (hb : Bl w g 72 (hc false T.length ws0 rs0).toArray) (hst : St false T ws0 rs0) (hmax : T.length + l.length ≤ 2000000) (tab : Tab w) :
    Calls Tryd.prog 47 #[.pointer (some ⟨g, 0, none⟩), .slice A l.length c] w
      fun e w' => e = .returned (.tuple #[]) ∧ (∃ ws rs, Bl w' g 72 (hc false (T.length + l.length) ws rs).toArray ∧ St false (T ++ l) ws rs) ∧ w.grownBy w' (some g) ∧ Tab w' := by
  have H0 := Lib.hid (show P32 T l g w (.slice A l.length c) w from ⟨0, A, c, ws0, rs0, Nat.zero_le _, rfl, hsl, hA, hlc, hb, by rw [List.take_zero, List.append_nil]; exact hst, World.grownBy.refl _ _, tab⟩)
  have HL := Lib.hid hl
  have b0 : w.cell? ⟨g, 0, none⟩ = some (.int .i64 256) := hb.cell_ rfl
  clear hl hsl hA hlc hb hst tab
  go_enter Tryd.func47, Tryd.ntmps47
  go_wp2_with (go_at_call 41; refine (block_256 _).mono ?_; rintro e w' ⟨rfl, rfl⟩)
  go_loopw [1] (fun v wr => P32 T l g w v wr) (fun v _ => slen v)
  case atStart => exact H0.out
  case round =>
    obtain ⟨j, A1, c1, ws, rs, hj, rfl, h1, h2, h3, h4, h5, h6, h7⟩ := hrel
    have S1 := Lib.hid h1
    have S2 := Lib.hid h2
    have S4 := Lib.hid h4
    have S5 := Lib.hid h5
    have S6 := Lib.hid h6
    have S7 := Lib.hid h7
    clear h1 h2 h4 h5 h6 h7 H0 b0
    obtain ⟨m, hm⟩ : ∃ m, m = l.length - j := ⟨_, rfl⟩
    rw [← hm] at S1 h3 ⊢
    have HM := Lib.hid hm
    clear hm
    by_cases hpos : 0 < m
    · obtain ⟨ad, rfl, -⟩ := S1.out.at_ hpos
      obtain ⟨n, hn⟩ : ∃ n, n = T.length + j := ⟨_, rfl⟩
      rw [← hn] at S4
      have HN := Lib.hid hn
      clear hn
      obtain ⟨a, ha⟩ : ∃ a, a = n % 64 := ⟨_, rfl⟩
      have hrem : (n : Int) % 64 = (a : Int) := by omega
      have ha1 : (a : Int) < 64 := by omega
      have k1 := S4.out.cell_ (i := 1) (v := .int .i64 (n : Int)) rfl
      have f1 := S4.out.frozen 1
      have HA := Lib.hid ha
      clear ha
      obtain ⟨p, hp⟩ : ∃ p, p = Nat.min m (64 - a) := ⟨_, rfl⟩
      have hp1 : p ≤ m ∧ a + p ≤ 64 ∧ 0 < p := by
        have h1 : p ≤ m := hp ▸ Nat.min_le_left m (64 - a)
        have h2 : p ≤ 64 - a := hp ▸ Nat.min_le_right m (64 - a)
        have h3 : 0 < p := hp ▸ Nat.lt_min.2 ⟨hpos, by omega⟩
        omega
      have HP := Lib.hid hp
      have HI := Lib.hid info_u8
      clear hp
      have hsa := run_sliceAt_arr Tryd.underlying70 HI.out g 10 a 64 (by omega) (by decide) (by omega)
      have hsb := run_sliceAt_to Tryd.underlying70 HI.out g 10 64 (by decide) (by decide)
      simp only [Int.reduceToNat] at hsa hsb
      obtain ⟨pc, hpc⟩ : ∃ q, q = (l.drop j).take p := ⟨_, rfl⟩
      have hpl : pc.length = p := by rw [hpc, List.length_take, List.length_drop]; have := HM.out; omega
      have HPC := Lib.hid hpc
      have HPL := Lib.hid hpl
      clear hpc hpl
      have RL := Lib.hid (show (spr rs a pc).length = 128 by rw [spr_length _ _ _ (by rw [S5.out.rl, HPL.out]; omega)]; exact S5.out.rl)
      have PLT := Lib.hid (show ∀ x ∈ pc, x < 256 by rw [HPC.out]; exact fun x hx => HL.out x (List.mem_of_mem_drop (List.mem_of_mem_take hx)))
      have RLT := Lib.hid (show ∀ x ∈ spr rs a pc, x < 256 by
        intro x hx
        unfold spr at hx
        rcases List.mem_append.1 hx with hx | hx
        · exact S5.out.rlt x (List.mem_of_mem_take hx)
        · rcases List.mem_append.1 hx with hx | hx
          · exact PLT.out x hx
          · exact S5.out.rlt x (List.mem_of_mem_drop hx))
      obtain ⟨rs1, hrs1⟩ : ∃ r, r = spr rs a pc := ⟨_, rfl⟩
      rw [← hrs1] at RL RLT
      have HRS := Lib.hid hrs1
      clear hrs1
      go_upto_region 3 with fail
      rw [hrem]
      clear hrem
      go_upto_region 4 with (refine wpList_copy_bl rfl (.tmp 26) (.tmp 27) 30 30 rfl 5 Tryd.underlying30 HI.out g (10 + a) (64 - a) (128 - a) ad m c1 (by rfl) (by rfl) 72 _ S4.out _ S1.out p HP.out (by rw [hc_size _ _ _ _ S5.out.wl S5.out.rl]; omega) (bl_one _) ?_; intro w1 hb1 hg1)
      rw [bl_take, ← HPC.out, spl_rest _ _ _ _ _ S5.out.wl _ (by rw [HPL.out, S5.out.rl]; omega), ← HRS.out] at hb1
      have B1 := Lib.hid hb1
      have G1 := Lib.hid hg1
      have k2 := hb1.cell_ (i := 1) (v := .int .i64 (n : Int)) rfl
      have f2 := hb1.frozen 1
      clear hb1 hg1 k1 f1
      have hnp : (n : Int) + (p : Int) ≤ 2000000 := by have := HN.out; have := HM.out; omega
      have hlen : (T ++ l.take j).length = n := by rw [List.length_append, List.length_take, Nat.min_eq_left hj, HN.out]
      have hmod : (T ++ l.take j).length % bk false = a := by rw [hlen, HA.out]; rfl
      have htk : T ++ l.take (j + p) = (T ++ l.take j) ++ pc := by rw [List.append_assoc, HPC.out, List.take_add]
      have HMOD := Lib.hid hmod
      have HTK := Lib.hid htk
      clear hlen hmod htk
      by_cases hfull : a + p = 64
      · have ht : ((a : Int) + (p : Int) == 64) = true := by rw [beq_iff_eq]; omega
        have ST := Lib.hid (S5.out.full pc PLT.out (by rw [HMOD.out, HPL.out]; exact hfull))
        go_wp2_with fail
        all_goals refine (mix32_any g (n + p) ws rs1 S5.out.wl RL.out S5.out.wlt RLT.out _ (by have h := B1.out.set_ 1 (.int .i64 ((n + p : Nat) : Int)); rw [hc_count] at h; exact h) ((S7.out.only hg (only_set G1.out (.inl rfl) _))) 128 (by decide)).mono ?_
        all_goals rintro e w2 ⟨rfl, hb2, hg2⟩
        all_goals have B2 := Lib.hid hb2
        all_goals have G2 := Lib.hid (only_trans (only_set G1.out (.inl rfl) _) hg2)
        all_goals clear hb2 hg2
        all_goals go_wp2_with fail
        all_goals (try go_big_round)
        all_goals refine ⟨P_step32 (ws1 := bh false ws (rs1.take 64)) (rs1 := rs1) hg hj S1.out (S2.out ad rfl) h3 HM.out hp1.1 G2.out ?_ ?_ (by rw [← Nat.add_assoc, ← HN.out]; exact B2.out) (by have h := ST.out; rw [HMOD.out, ← HRS.out] at h; rw [HTK.out]; exact h) S6.out S7.out, by simp only [slen]; omega⟩
        · have hcp : c1 = p := by assumption
          rw [if_pos hcp]
        · have hcp : c1 = p := by assumption
          omega
        · have hcp : ¬ c1 = p := by assumption
          rw [if_neg hcp]
        · rfl
      · have ST := Lib.hid (S5.out.part pc PLT.out (by rw [HMOD.out, HPL.out]; show a + p < 64; omega))
        have ht : ((a : Int) + (p : Int) == 64) = false := by rw [beq_eq_false_iff_ne]; omega
        go_wp2_with fail
        (try go_big_round)
        refine ⟨P_step32 (ws1 := ws) (rs1 := rs1) hg hj S1.out (S2.out ad rfl) h3 HM.out hp1.1 (only_set G1.out (.inl rfl) _) rfl rfl ?_ (by have h := ST.out; rw [HMOD.out, ← HRS.out] at h; rw [HTK.out]; exact h) S6.out S7.out, by simp only [slen]; omega⟩
        have h := B1.out.set_ 1 (.int .i64 ((n + p : Nat) : Int))
        rw [hc_count] at h
        rw [← Nat.add_assoc, ← HN.out]
        exact h
    · have hm0 : m = 0 := by omega
      subst hm0
      go_wp2_with fail
      go_end0
      have hjl : j = l.length := by have := HM.out; omega
      subst hjl
      refine ⟨rfl, ⟨ws, rs, S4.out, ?_⟩, S6.out, S7.out⟩
      have h := S5.out
      rwa [List.take_length] at h
/-- What holds at the head of each round of put. -/
def P64 (T l : List Nat) (g : Nat) (w : World) (v : Value) (wr : World) : Prop :=
  ∃ (j : Nat) (A : Option Addr) (c : Nat) (ws rs : List Nat), j ≤ l.length ∧ v = .slice A (l.length - j) c ∧ Sl wr A (l.length - j) (bl (l.drop j)) ∧ (∀ ad, A = some ad → ad.block ≠ g) ∧ l.length - j ≤ c ∧ Bl wr g 72 (hc true (T.length + j) ws rs).toArray ∧ St true (T ++ l.take j) ws rs ∧ w.grownBy wr (some g) ∧ Tab wr

theorem P_step64 {T l : List Nat} {g : Nat} {w wr w2 : World} {j m p c1 c2 : Nat} {ad : Addr} {A2 : Option Addr} {ws1 rs1 : List Nat} (hg : 2 ≤ g) (hj : j ≤ l.length) (hS1 : Sl wr (some ad) m (bl (l.drop j))) (hS2 : ad.block ≠ g) (h3 : m ≤ c1) (hm : m = l.length - j) (hp : p ≤ m) (hg2 : wr.grownBy w2 (some g))
    (hA2 : A2 = if c1 = p then some ad else some (ad.add p)) (hc2 : c2 = c1 - p) (hbl : Bl w2 g 72 (hc true (T.length + (j + p)) ws1 rs1).toArray) (hst : St true (T ++ l.take (j + p)) ws1 rs1) (h6 : w.grownBy wr (some g)) (tab : Tab wr) : P64 T l g w (.slice A2 (m - p) c2) w2 := by
  have hd := hS1.drop_ (c := c1) p hp h3
  rw [bl_drop, List.drop_drop] at hd
  have hA3 : (if c1 = p then some ad else (some ad).map fun x => x.add p) = A2 := by rw [hA2]; split <;> rfl
  rw [hA3] at hd
  have hA4 : ∀ a, A2 = some a → a.block ≠ g := by
    intro a ha
    rw [hA2] at ha
    split at ha
    · injection ha with ha; rw [← ha]; exact hS2
    · injection ha with ha; rw [← ha, add_block]; exact hS2
  have hml : m - p = l.length - (j + p) := by omega
  refine ⟨j + p, A2, c2, ws1, rs1, by omega, by rw [hml], ?_, hA4, by omega, hbl, hst, only_trans h6 hg2, tab.only hg hg2⟩
  rw [← hml]
  exact hd.only hg2 fun a ha => by
    intro e
    injection e with e
    exact hA4 a ha e.symm

set_option maxRecDepth 100000 in
set_option maxHeartbeats 2000000 in
theorem put64_any (T l ws0 rs0 : List Nat) (g : Nat) (A : Option Addr) (c : Nat) (w : World) (hg : 2 ≤ g) (hl : ∀ x ∈ l, x < 256) (hsl : Sl w A l.length (bl l)) (hA : ∀ ad, A = some ad → ad.block ≠ g) (hlc : l.length ≤ c) (hb : Bl w g 72 (hc true T.length ws0 rs0).toArray) (hst : St true T ws0 rs0) (hmax : T.length + l.length ≤ 2000000) (tab : Tab w) :
    Calls Tryd.prog 47 #[.pointer (some ⟨g, 0, none⟩), .slice A l.length c] w
      fun e w' => e = .returned (.tuple #[]) ∧ (∃ ws rs, Bl w' g 72 (hc true (T.length + l.length) ws rs).toArray ∧ St true (T ++ l) ws rs) ∧ w.grownBy w' (some g) ∧ Tab w' := by
  have H0 := Lib.hid (show P64 T l g w (.slice A l.length c) w from ⟨0, A, c, ws0, rs0, Nat.zero_le _, rfl, hsl, hA, hlc, hb, by rw [List.take_zero, List.append_nil]; exact hst, World.grownBy.refl _ _, tab⟩)
  have HL := Lib.hid hl
  have b0 : w.cell? ⟨g, 0, none⟩ = some (.int .i64 512) := hb.cell_ rfl
  clear hl hsl hA hlc hb hst tab
  go_enter Tryd.func47, Tryd.ntmps47
  go_wp2_with (go_at_call 41; refine (block_512 _).mono ?_; rintro e w' ⟨rfl, rfl⟩)
  go_loopw [1] (fun v wr => P64 T l g w v wr) (fun v _ => slen v)
  case atStart => exact H0.out
  case round =>
    obtain ⟨j, A1, c1, ws, rs, hj, rfl, h1, h2, h3, h4, h5, h6, h7⟩ := hrel
    have S1 := Lib.hid h1
    have S2 := Lib.hid h2
    have S4 := Lib.hid h4
    have S5 := Lib.hid h5
    have S6 := Lib.hid h6
    have S7 := Lib.hid h7
    clear h1 h2 h4 h5 h6 h7 H0 b0
    obtain ⟨m, hm⟩ : ∃ m, m = l.length - j := ⟨_, rfl⟩
    rw [← hm] at S1 h3 ⊢
    have HM := Lib.hid hm
    clear hm
    by_cases hpos : 0 < m
    · obtain ⟨ad, rfl, -⟩ := S1.out.at_ hpos
      obtain ⟨n, hn⟩ : ∃ n, n = T.length + j := ⟨_, rfl⟩
      rw [← hn] at S4
      have HN := Lib.hid hn
      clear hn
      obtain ⟨a, ha⟩ : ∃ a, a = n % 128 := ⟨_, rfl⟩
      have hrem : (n : Int) % 128 = (a : Int) := by omega
      have ha1 : (a : Int) < 128 := by omega
      have k1 := S4.out.cell_ (i := 1) (v := .int .i64 (n : Int)) rfl
      have f1 := S4.out.frozen 1
      have HA := Lib.hid ha
      clear ha
      obtain ⟨p, hp⟩ : ∃ p, p = Nat.min m (128 - a) := ⟨_, rfl⟩
      have hp1 : p ≤ m ∧ a + p ≤ 128 ∧ 0 < p := by
        have h1 : p ≤ m := hp ▸ Nat.min_le_left m (128 - a)
        have h2 : p ≤ 128 - a := hp ▸ Nat.min_le_right m (128 - a)
        have h3 : 0 < p := hp ▸ Nat.lt_min.2 ⟨hpos, by omega⟩
        omega
      have HP := Lib.hid hp
      have HI := Lib.hid info_u8
      clear hp
      have hsa := run_sliceAt_arr Tryd.underlying70 HI.out g 10 a 128 (by omega) (by decide) (by omega)
      have hsb := run_sliceAt_to Tryd.underlying70 HI.out g 10 128 (by decide) (by decide)
      simp only [Int.reduceToNat] at hsa hsb
      obtain ⟨pc, hpc⟩ : ∃ q, q = (l.drop j).take p := ⟨_, rfl⟩
      have hpl : pc.length = p := by rw [hpc, List.length_take, List.length_drop]; have := HM.out; omega
      have HPC := Lib.hid hpc
      have HPL := Lib.hid hpl
      clear hpc hpl
      have RL := Lib.hid (show (spr rs a pc).length = 128 by rw [spr_length _ _ _ (by rw [S5.out.rl, HPL.out]; omega)]; exact S5.out.rl)
      have PLT := Lib.hid (show ∀ x ∈ pc, x < 256 by rw [HPC.out]; exact fun x hx => HL.out x (List.mem_of_mem_drop (List.mem_of_mem_take hx)))
      have RLT := Lib.hid (show ∀ x ∈ spr rs a pc, x < 256 by
        intro x hx
        unfold spr at hx
        rcases List.mem_append.1 hx with hx | hx
        · exact S5.out.rlt x (List.mem_of_mem_take hx)
        · rcases List.mem_append.1 hx with hx | hx
          · exact PLT.out x hx
          · exact S5.out.rlt x (List.mem_of_mem_drop hx))
      obtain ⟨rs1, hrs1⟩ : ∃ r, r = spr rs a pc := ⟨_, rfl⟩
      rw [← hrs1] at RL RLT
      have HRS := Lib.hid hrs1
      clear hrs1
      go_upto_region 3 with fail
      rw [hrem]
      clear hrem
      go_upto_region 4 with (refine wpList_copy_bl rfl (.tmp 26) (.tmp 27) 30 30 rfl 5 Tryd.underlying30 HI.out g (10 + a) (128 - a) (128 - a) ad m c1 (by rfl) (by rfl) 72 _ S4.out _ S1.out p HP.out (by rw [hc_size _ _ _ _ S5.out.wl S5.out.rl]; omega) (bl_one _) ?_; intro w1 hb1 hg1)
      rw [bl_take, ← HPC.out, spl_rest _ _ _ _ _ S5.out.wl _ (by rw [HPL.out, S5.out.rl]; omega), ← HRS.out] at hb1
      have B1 := Lib.hid hb1
      have G1 := Lib.hid hg1
      have k2 := hb1.cell_ (i := 1) (v := .int .i64 (n : Int)) rfl
      have f2 := hb1.frozen 1
      clear hb1 hg1 k1 f1
      have hnp : (n : Int) + (p : Int) ≤ 2000000 := by have := HN.out; have := HM.out; omega
      have hlen : (T ++ l.take j).length = n := by rw [List.length_append, List.length_take, Nat.min_eq_left hj, HN.out]
      have hmod : (T ++ l.take j).length % bk true = a := by rw [hlen, HA.out]; rfl
      have htk : T ++ l.take (j + p) = (T ++ l.take j) ++ pc := by rw [List.append_assoc, HPC.out, List.take_add]
      have HMOD := Lib.hid hmod
      have HTK := Lib.hid htk
      clear hlen hmod htk
      by_cases hfull : a + p = 128
      · have ht : ((a : Int) + (p : Int) == 128) = true := by rw [beq_iff_eq]; omega
        have ST := Lib.hid (S5.out.full pc PLT.out (by rw [HMOD.out, HPL.out]; exact hfull))
        go_wp2_with fail
        all_goals refine (mix64_any g (n + p) ws rs1 S5.out.wl RL.out S5.out.wlt RLT.out _ (by have h := B1.out.set_ 1 (.int .i64 ((n + p : Nat) : Int)); rw [hc_count] at h; exact h) ((S7.out.only hg (only_set G1.out (.inl rfl) _))) 128 (by decide)).mono ?_
        all_goals rintro e w2 ⟨rfl, hb2, hg2⟩
        all_goals have B2 := Lib.hid hb2
        all_goals have G2 := Lib.hid (only_trans (only_set G1.out (.inl rfl) _) hg2)
        all_goals clear hb2 hg2
        all_goals go_wp2_with fail
        all_goals (try go_big_round)
        all_goals refine ⟨P_step64 (ws1 := bh true ws (rs1.take 128)) (rs1 := rs1) hg hj S1.out (S2.out ad rfl) h3 HM.out hp1.1 G2.out ?_ ?_ (by rw [← Nat.add_assoc, ← HN.out]; exact B2.out) (by have h := ST.out; rw [HMOD.out, ← HRS.out] at h; rw [HTK.out]; exact h) S6.out S7.out, by simp only [slen]; omega⟩
        · have hcp : c1 = p := by assumption
          rw [if_pos hcp]
        · have hcp : c1 = p := by assumption
          omega
        · have hcp : ¬ c1 = p := by assumption
          rw [if_neg hcp]
        · rfl
      · have ST := Lib.hid (S5.out.part pc PLT.out (by rw [HMOD.out, HPL.out]; show a + p < 128; omega))
        have ht : ((a : Int) + (p : Int) == 128) = false := by rw [beq_eq_false_iff_ne]; omega
        go_wp2_with fail
        (try go_big_round)
        refine ⟨P_step64 (ws1 := ws) (rs1 := rs1) hg hj S1.out (S2.out ad rfl) h3 HM.out hp1.1 (only_set G1.out (.inl rfl) _) rfl rfl ?_ (by have h := ST.out; rw [HMOD.out, ← HRS.out] at h; rw [HTK.out]; exact h) S6.out S7.out, by simp only [slen]; omega⟩
        have h := B1.out.set_ 1 (.int .i64 ((n + p : Nat) : Int))
        rw [hc_count] at h
        rw [← Nat.add_assoc, ← HN.out]
        exact h
    · have hm0 : m = 0 := by omega
      subst hm0
      go_wp2_with fail
      go_end0
      have hjl : j = l.length := by have := HM.out; omega
      subst hjl
      refine ⟨rfl, ⟨ws, rs, S4.out, ?_⟩, S6.out, S7.out⟩
      have h := S5.out
      rwa [List.take_length] at h
end Go.Proofs.YtfdjphinicafiabDoor.Sh
