/-
  The contracts of Write, Sum, Size, Count, Sum256, Sum512, Const, Start.
-/
import Derived.Test.YtfdjphinicafiabDoorShNew
namespace Go.Proofs.YtfdjphinicafiabDoor.Sh
open Go.RowKit Go.Proofs.YtfdjphinicafiabDoor.Gn Go.Deep
set_option linter.unusedVariables false
attribute [local go_sem ↓] Go.wp_at_zero Go.wp_at_succ

theorem pad_lt (b : Bool) (n : Nat) : ∀ x ∈ pad b n, x < 256 := by
  intro x hx
  unfold pad at hx
  simp only [List.mem_cons, List.mem_append, List.mem_replicate] at hx
  rcases hx with rfl | ⟨-, rfl⟩ | hx
  · decide
  · decide
  · exact be_lt _ _ _ hx
theorem pads_le (b : Bool) (n : Nat) : pads b n ≤ 256 := by
  have := Nat.mod_lt n (bk_pos b)
  cases b <;> simp [pads, bk] at * <;> split <;> omega
theorem dg_of32 {T ws rs : List Nat} (h : St false (T ++ pad false T.length) ws rs) : (ws.flatMap fun x => be x 4) = dg false T := by
  rw [h.ws]
  unfold dg
  rw [List.length_append]
  rfl
theorem padl32_any (n : Nat) (w : World) (hn : n ≤ 1048576) :
    Calls Tryd.prog 19 #[.int .i64 (n : Int), .int .i64 256] w fun e w' =>
      e = .returned (.tuple #[.slice (some ⟨w.heap.size, 0, none⟩) (pad false n).length (pad false n).length, .int .i64 0]) ∧ w' = w.alloc (.cells (bl (pad false n)).toArray 5) := by
  rw [pad_length]; exact pad32_any n w hn
set_option maxRecDepth 100000 in
set_option maxHeartbeats 1000000 in
theorem hsum32_any (T : List Nat) (g : Nat) (w : World) (hT : T.length ≤ 1048576) (h : Hs false T g w) (tab : Tab w) :
    Calls Tryd.prog 30 #[.pointer (some ⟨g, 0, none⟩)] w fun e w' => ∃ q, e = .returned (.slice (some ⟨q, 0, none⟩) 32 32) ∧ w.heap.size ≤ q ∧ Bl w' q 5 (bl (dg false T)).toArray ∧ Below w.heap.size w w' := by
  have TAB := Lib.hid tab
  have HH := Lib.hid h
  have HT := Lib.hid hT
  have h2 := Lib.hid tab.size
  obtain ⟨ws, rs, hb, hst⟩ := h
  have b0 : w.cell? ⟨g, 0, none⟩ = some (.int .i64 256) := hb.cell_ rfl
  have b1 : w.cell? ⟨g, 1, none⟩ = some (.int .i64 (T.length : Int)) := hb.cell_ rfl
  clear hb hst tab hT ws rs
  obtain ⟨pd, hpd⟩ : ∃ pd, pd = pad false T.length := ⟨_, rfl⟩
  have HPC := Lib.hid (show ∀ w, Calls Tryd.prog 19 #[.int .i64 (T.length : Int), .int .i64 256] w fun e w' =>
      e = .returned (.tuple #[.slice (some ⟨w.heap.size, 0, none⟩) pd.length pd.length, .int .i64 0]) ∧ w' = w.alloc (.cells (bl pd).toArray 5) from fun w => by rw [hpd]; exact padl32_any T.length w HT.out)
  have HPL := Lib.hid (show pd.length ≤ 256 by rw [hpd, pad_length]; exact pads_le _ _)
  have HPB := Lib.hid (show ∀ x ∈ pd, x < 256 by rw [hpd]; exact pad_lt _ _)
  have HPD := Lib.hid hpd
  clear hpd
  go_enter Tryd.func30, Tryd.ntmps30
  go_wp2_with (go_at_call 46; refine (none32 g _ b0).mono ?_; rintro e w' ⟨rfl, rfl⟩)
  go_region_held3 (fun x => x.cell? ⟨g, 0, none⟩ = some (.int .i64 256) ∧ x.cell? ⟨g, 1, none⟩ = some (.int .i64 (T.length : Int))) (first | exact ⟨b0, b1⟩ | exact ⟨keepc K1 b0, keepc K1 b1⟩)
    (first | (go_at_call 19; refine (HPC.out _).mono ?_; rintro e w1 ⟨rfl, hw1⟩; have K1 : Below w.heap.size w w1 := (by rw [hw1]; exact ((Below.refl _ _).drew).alloc (Nat.le_refl _) _); have P1 := Lib.hid (show Bl w1 w.heap.size 5 (bl pd).toArray by rw [hw1]; exact Bl.new_ w.drew _ _); clear hw1))
  rename_i hHeld
  clear hHeld b0 b1
  have HK1 := Lib.hid K1
  clear K1
  have H1 := Lib.hid (HH.out.below HK1.out)
  have T1 := Lib.hid (TAB.out.below HK1.out)
  have hq0 := Lib.hid P1.out.lt
  go_wp2_with (go_at_call 32; refine (copy32_any T g _ H1.out).mono ?_; rintro e w2 ⟨q, rfl, hq, hs2, hb2⟩; have HQ := Lib.hid hq; have HS2 := Lib.hid hs2; have HB2 := Lib.hid hb2; clear hq hs2 hb2)
  obtain ⟨ws2, rs2, hb2, hst2⟩ := HS2.out
  have B2 := Lib.hid hb2
  have S2 := Lib.hid hst2
  clear hb2 hst2
  have hne : w.heap.size ≠ q := by have := hq0.out; have := HQ.out; omega
  have HNE := Lib.hid hne
  clear hne
  have HSL := Lib.hid (show Sl w2 (some ⟨w.heap.size, 0, none⟩) pd.length (bl pd) from Sl.of_bl (P1.out.below' HB2.out) 0 _ _ (by simp [bl]) (fun k v hk => by rw [Nat.zero_add]; simpa using hk))
  go_wp2_with (go_at_call 47; refine (put32_any T pd ws2 rs2 q _ _ _ (by have := h2.out; have := HK1.out.size; have := HQ.out; omega) HPB.out HSL.out (fun ad h => by injection h with h; rw [← h]; exact HNE.out) (Nat.le_refl _) B2.out S2.out (by have := HT.out; have := HPL.out; omega) (T1.out.below HB2.out)).mono ?_; rintro e w3 ⟨rfl, ⟨ws3, rs3, hb3, hst3⟩, hg3, ht3⟩; have B3 := Lib.hid hb3; have S3 := Lib.hid hst3; have G3 := Lib.hid hg3; clear hb3 hst3 hg3 ht3)
  have hwl3 : ∀ x ∈ ws3, x < 18446744073709551616 := fun x hx => Nat.lt_of_lt_of_le (S3.out.wlt x hx) (by decide)
  have WL3 := Lib.hid hwl3
  clear hwl3
  go_wp2_with (go_at_call 48; refine (digest32_any q _ ws3 rs3 S3.out.wl S3.out.rl WL3.out _ B3.out).mono ?_; rintro e w4 ⟨rfl, hw4⟩; have W4 := Lib.hid hw4; clear hw4)
  go_ret
  have hs2 := HB2.out.size
  obtain ⟨_, _, _, hs3, _⟩ := G3.out
  have hs1 := HK1.out.size
  have e : (ws3.flatMap fun x => be x 4) = dg false T := dg_of32 (by rw [← HPD.out]; exact S3.out)
  refine ⟨_, rfl, by omega, by rw [W4.out, e]; exact Bl.new_ _ _ _, ?_⟩
  rw [W4.out]
  exact ((HK1.out.trans (HB2.out.mono HK1.out.size)).grown G3.out (by omega) (fun k e => by injection e with e; have := HQ.out; omega)).alloc (by omega) _
theorem write32_any (T l : List Nat) (g : Nat) (A : Option Addr) (c : Nat) (w : World) (hg : 2 ≤ g) (hl : ∀ x ∈ l, x < 256) (hsl : Sl w A l.length (bl l)) (hA : ∀ ad, A = some ad → ad.block ≠ g) (hlc : l.length ≤ c) (h : Hs false T g w) (hmax : T.length + l.length ≤ 1048576) (tab : Tab w) :
    Calls Tryd.prog 28 #[.pointer (some ⟨g, 0, none⟩), .slice A l.length c] w
      fun e w' => e = .returned (.int .i64 0) ∧ Hs false (T ++ l) g w' ∧ w.grownBy w' (some g) ∧ Tab w' := by
  obtain ⟨ws, rs, hb, hst⟩ := h
  have TAB := Lib.hid tab
  have HL := Lib.hid hl
  have HSL := Lib.hid hsl
  have HA := Lib.hid hA
  have HB := Lib.hid hb
  have HST := Lib.hid hst
  have b0 : w.cell? ⟨g, 0, none⟩ = some (.int .i64 256) := hb.cell_ rfl
  have b1 : w.cell? ⟨g, 1, none⟩ = some (.int .i64 (T.length : Int)) := hb.cell_ rfl
  have t1 : decide ((1048576 : Int) - (T.length : Int) < (l.length : Int)) = false := decide_eq_false (by omega)
  clear tab hl hsl hA hb hst
  go_enter Tryd.func28, Tryd.ntmps28
  go_wp2_with (first | (go_at_call 46; refine (none32 g _ b0).mono ?_; rintro e w' ⟨rfl, rfl⟩) | (go_at_call 47; refine (put32_any T l ws rs g _ _ _ hg HL.out HSL.out HA.out hlc HB.out HST.out (by omega) TAB.out).mono ?_; rintro e w3 ⟨rfl, ⟨ws3, rs3, hb3, hst3⟩, hg3, ht3⟩; have B3 := Lib.hid hb3; have S3 := Lib.hid hst3; have G3 := Lib.hid hg3; have T3 := Lib.hid ht3; clear hb3 hst3 hg3 ht3))
  go_ret
  exact ⟨rfl, ⟨ws3, rs3, by rw [List.length_append]; exact B3.out, S3.out⟩, G3.out, T3.out⟩
theorem write32_long (T : List Nat) (n g : Nat) (A : Option Addr) (c : Nat) (w : World) (h : Hs false T g w) (hT : T.length ≤ 1048576) (hn : n ≤ 9223372036854775807) (hmax : 1048576 < T.length + n) :
    Calls Tryd.prog 28 #[.pointer (some ⟨g, 0, none⟩), .slice A n c] w fun e w' => e = .returned (.int .i64 2) ∧ w = w' := by
  obtain ⟨ws, rs, hb, hst⟩ := h
  have b0 : w.cell? ⟨g, 0, none⟩ = some (.int .i64 256) := hb.cell_ rfl
  have b1 : w.cell? ⟨g, 1, none⟩ = some (.int .i64 (T.length : Int)) := hb.cell_ rfl
  have t1 : decide ((1048576 : Int) - (T.length : Int) < (n : Int)) = true := decide_eq_true (by omega)
  clear hb hst hn
  go_enter Tryd.func28, Tryd.ntmps28
  go_wp2_with (go_at_call 46; refine (none32 g _ b0).mono ?_; rintro e w' ⟨rfl, rfl⟩)
  go_ret
  exact ⟨rfl, rfl⟩
theorem count32 (T : List Nat) (g : Nat) (w : World) (h : Hs false T g w) : Calls Tryd.prog 29 #[.pointer (some ⟨g, 0, none⟩)] w fun e w' => e = .returned (.int .i64 (T.length : Int)) ∧ w = w' := by
  obtain ⟨ws, rs, hb, hst⟩ := h
  have b0 : w.cell? ⟨g, 0, none⟩ = some (.int .i64 256) := hb.cell_ rfl
  have b1 : w.cell? ⟨g, 1, none⟩ = some (.int .i64 (T.length : Int)) := hb.cell_ rfl
  clear hb hst
  go_enter Tryd.func29, Tryd.ntmps29
  go_wp2_with (go_at_call 46; refine (none32 g _ b0).mono ?_; rintro e w' ⟨rfl, rfl⟩)
  go_ret
  exact ⟨rfl, rfl⟩
theorem hsize32 (T : List Nat) (g : Nat) (w : World) (h : Hs false T g w) : Calls Tryd.prog 31 #[.pointer (some ⟨g, 0, none⟩)] w fun e w' => e = .returned (.int .i64 32) ∧ w = w' := by
  obtain ⟨ws, rs, hb, hst⟩ := h
  have b0 : w.cell? ⟨g, 0, none⟩ = some (.int .i64 256) := hb.cell_ rfl
  clear hb hst
  go_enter Tryd.func31, Tryd.ntmps31
  go_wp2_with (first | (go_at_call 46; refine (none32 g _ b0).mono ?_; rintro e w' ⟨rfl, rfl⟩) | (go_at_call 49; refine (dsize32 _).mono ?_; rintro e w' ⟨rfl, rfl⟩))
  go_ret
  exact ⟨rfl, rfl⟩
/-- A digest at once. -/
theorem sum32_any (l : List Nat) (A : Option Addr) (c : Nat) (w : World) (hl : ∀ x ∈ l, x < 256) (hsl : Sl w A l.length (bl l)) (hAw : ∀ ad, A = some ad → ad.block < w.heap.size) (hlc : l.length ≤ c) (hmax : l.length ≤ 1048576) (tab : Tab w) :
    Calls Tryd.prog 52 #[.slice A l.length c, .int .i64 256] w
      fun e w' => ∃ q, e = .returned (.tuple #[.slice (some ⟨q, 0, none⟩) 32 32, .int .i64 0]) ∧ w.heap.size ≤ q ∧ Bl w' q 5 (bl (dg false l)).toArray ∧ Below w.heap.size w w' := by
  have TAB := Lib.hid tab
  have HL := Lib.hid hl
  have HSL := Lib.hid hsl
  have HA := Lib.hid hAw
  have h2 := Lib.hid tab.size
  clear tab hl hsl hAw
  go_enter Tryd.func52, Tryd.ntmps52
  go_wp2_with (go_at_call 27; refine (new32_any _ TAB.out).mono ?_; rintro e w1 ⟨g, rfl, hg, hs, hb, ht⟩; have HG := Lib.hid hg; have H1 := Lib.hid hs; have HB := Lib.hid hb; have T1 := Lib.hid ht; clear hg hs hb ht)
  go_wp2_with (go_at_call 28; refine (write32_any [] l g A c _ (by have := h2.out; have := HG.out; omega) HL.out (HSL.out.below HB.out) (fun ad h => by have := HA.out ad h; have := HG.out; omega) hlc H1.out (by simpa using hmax) T1.out).mono ?_; rintro e w2 ⟨rfl, hs2, hg2, ht2⟩; have H2 := Lib.hid (show Hs false l g w2 from hs2); have G2 := Lib.hid hg2; have T2 := Lib.hid ht2; clear hs2 hg2 ht2)
  go_wp2_with (go_at_call 30; refine (hsum32_any l g _ hmax H2.out T2.out).mono ?_; rintro e w3 ⟨q, rfl, hq, hbl, hb3⟩; have HQ := Lib.hid hq; have HBL := Lib.hid hbl; have HB3 := Lib.hid hb3; clear hq hbl hb3)
  go_ret2
  have hb2 : Below w.heap.size w w2 := HB.out.grown G2.out HB.out.size (fun k e => by injection e with e; have := HG.out; omega)
  exact ⟨q, rfl, by have := hb2.size; have := HQ.out; omega, HBL.out, hb2.trans (HB3.out.mono hb2.size)⟩
theorem sum32_long (n : Nat) (A : Option Addr) (c : Nat) (w : World) (hn : n ≤ 9223372036854775807) (hmax : 1048576 < n) (tab : Tab w) :
    Calls Tryd.prog 52 #[.slice A n c, .int .i64 256] w
      fun e w' => e = .returned (.tuple #[.slice none 0 0, .int .i64 2]) ∧ Below w.heap.size w w' := by
  have TAB := Lib.hid tab
  have HN := Lib.hid hn
  clear tab hn
  go_enter Tryd.func52, Tryd.ntmps52
  go_wp2_with (go_at_call 27; refine (new32_any _ TAB.out).mono ?_; rintro e w1 ⟨g, rfl, hg, hs, hb, ht⟩; have H1 := Lib.hid hs; have HB := Lib.hid hb; clear hg hs hb ht)
  go_wp2_with (go_at_call 28; refine (write32_long [] n g A c _ H1.out (by simp) HN.out (by simpa using hmax)).mono ?_; rintro e w2 ⟨rfl, rfl⟩)
  go_ret2
  exact ⟨rfl, HB.out⟩
theorem Sum256_any (l : List Nat) (A : Option Addr) (c : Nat) (w : World) (hl : ∀ x ∈ l, x < 256) (hsl : Sl w A l.length (bl l)) (hAw : ∀ ad, A = some ad → ad.block < w.heap.size) (hlc : l.length ≤ c) (hmax : l.length ≤ 1048576) (tab : Tab w) :
    Calls Tryd.prog 39 #[.slice A l.length c] w
      fun e w' => ∃ q, e = .returned (.tuple #[.slice (some ⟨q, 0, none⟩) 32 32, .int .i64 0]) ∧ w.heap.size ≤ q ∧ Bl w' q 5 (bl (dg false l)).toArray ∧ Below w.heap.size w w' := by
  go_enter Tryd.func39, Tryd.ntmps39
  go_wp2_with (go_at_call 52; refine (sum32_any l A c _ hl hsl hAw hlc hmax tab).mono ?_; rintro e w1 ⟨q, rfl, hq, hbl, hb⟩)
  go_ret2
  exact ⟨q, rfl, hq, hbl, hb⟩
theorem Sum256_long (n : Nat) (A : Option Addr) (c : Nat) (w : World) (hn : n ≤ 9223372036854775807) (hmax : 1048576 < n) (tab : Tab w) :
    Calls Tryd.prog 39 #[.slice A n c] w
      fun e w' => e = .returned (.tuple #[.slice none 0 0, .int .i64 2]) ∧ Below w.heap.size w w' := by
  go_enter Tryd.func39, Tryd.ntmps39
  go_wp2_with (go_at_call 52; refine (sum32_long n A c _ hn hmax tab).mono ?_; rintro e w1 ⟨rfl, hb⟩)
  go_ret2
  exact ⟨rfl, hb⟩
theorem dg_of64 {T ws rs : List Nat} (h : St true (T ++ pad true T.length) ws rs) : (ws.flatMap fun x => be x 8) = dg true T := by
  rw [h.ws]
  unfold dg
  rw [List.length_append]
  rfl
theorem padl64_any (n : Nat) (w : World) (hn : n ≤ 1048576) :
    Calls Tryd.prog 19 #[.int .i64 (n : Int), .int .i64 512] w fun e w' =>
      e = .returned (.tuple #[.slice (some ⟨w.heap.size, 0, none⟩) (pad true n).length (pad true n).length, .int .i64 0]) ∧ w' = w.alloc (.cells (bl (pad true n)).toArray 5) := by
  rw [pad_length]; exact pad64_any n w hn
set_option maxRecDepth 100000 in
set_option maxHeartbeats 1000000 in
theorem hsum64_any (T : List Nat) (g : Nat) (w : World) (hT : T.length ≤ 1048576) (h : Hs true T g w) (tab : Tab w) :
    Calls Tryd.prog 30 #[.pointer (some ⟨g, 0, none⟩)] w fun e w' => ∃ q, e = .returned (.slice (some ⟨q, 0, none⟩) 64 64) ∧ w.heap.size ≤ q ∧ Bl w' q 5 (bl (dg true T)).toArray ∧ Below w.heap.size w w' := by
  have TAB := Lib.hid tab
  have HH := Lib.hid h
  have HT := Lib.hid hT
  have h2 := Lib.hid tab.size
  obtain ⟨ws, rs, hb, hst⟩ := h
  have b0 : w.cell? ⟨g, 0, none⟩ = some (.int .i64 512) := hb.cell_ rfl
  have b1 : w.cell? ⟨g, 1, none⟩ = some (.int .i64 (T.length : Int)) := hb.cell_ rfl
  clear hb hst tab hT ws rs
  obtain ⟨pd, hpd⟩ : ∃ pd, pd = pad true T.length := ⟨_, rfl⟩
  have HPC := Lib.hid (show ∀ w, Calls Tryd.prog 19 #[.int .i64 (T.length : Int), .int .i64 512] w fun e w' =>
      e = .returned (.tuple #[.slice (some ⟨w.heap.size, 0, none⟩) pd.length pd.length, .int .i64 0]) ∧ w' = w.alloc (.cells (bl pd).toArray 5) from fun w => by rw [hpd]; exact padl64_any T.length w HT.out)
  have HPL := Lib.hid (show pd.length ≤ 256 by rw [hpd, pad_length]; exact pads_le _ _)
  have HPB := Lib.hid (show ∀ x ∈ pd, x < 256 by rw [hpd]; exact pad_lt _ _)
  have HPD := Lib.hid hpd
  clear hpd
  go_enter Tryd.func30, Tryd.ntmps30
  go_wp2_with (go_at_call 46; refine (none64 g _ b0).mono ?_; rintro e w' ⟨rfl, rfl⟩)
  go_region_held3 (fun x => x.cell? ⟨g, 0, none⟩ = some (.int .i64 512) ∧ x.cell? ⟨g, 1, none⟩ = some (.int .i64 (T.length : Int))) (first | exact ⟨b0, b1⟩ | exact ⟨keepc K1 b0, keepc K1 b1⟩)
    (first | (go_at_call 19; refine (HPC.out _).mono ?_; rintro e w1 ⟨rfl, hw1⟩; have K1 : Below w.heap.size w w1 := (by rw [hw1]; exact ((Below.refl _ _).drew).alloc (Nat.le_refl _) _); have P1 := Lib.hid (show Bl w1 w.heap.size 5 (bl pd).toArray by rw [hw1]; exact Bl.new_ w.drew _ _); clear hw1))
  rename_i hHeld
  clear hHeld b0 b1
  have HK1 := Lib.hid K1
  clear K1
  have H1 := Lib.hid (HH.out.below HK1.out)
  have T1 := Lib.hid (TAB.out.below HK1.out)
  have hq0 := Lib.hid P1.out.lt
  go_wp2_with (go_at_call 32; refine (copy64_any T g _ H1.out).mono ?_; rintro e w2 ⟨q, rfl, hq, hs2, hb2⟩; have HQ := Lib.hid hq; have HS2 := Lib.hid hs2; have HB2 := Lib.hid hb2; clear hq hs2 hb2)
  obtain ⟨ws2, rs2, hb2, hst2⟩ := HS2.out
  have B2 := Lib.hid hb2
  have S2 := Lib.hid hst2
  clear hb2 hst2
  have hne : w.heap.size ≠ q := by have := hq0.out; have := HQ.out; omega
  have HNE := Lib.hid hne
  clear hne
  have HSL := Lib.hid (show Sl w2 (some ⟨w.heap.size, 0, none⟩) pd.length (bl pd) from Sl.of_bl (P1.out.below' HB2.out) 0 _ _ (by simp [bl]) (fun k v hk => by rw [Nat.zero_add]; simpa using hk))
  go_wp2_with (go_at_call 47; refine (put64_any T pd ws2 rs2 q _ _ _ (by have := h2.out; have := HK1.out.size; have := HQ.out; omega) HPB.out HSL.out (fun ad h => by injection h with h; rw [← h]; exact HNE.out) (Nat.le_refl _) B2.out S2.out (by have := HT.out; have := HPL.out; omega) (T1.out.below HB2.out)).mono ?_; rintro e w3 ⟨rfl, ⟨ws3, rs3, hb3, hst3⟩, hg3, ht3⟩; have B3 := Lib.hid hb3; have S3 := Lib.hid hst3; have G3 := Lib.hid hg3; clear hb3 hst3 hg3 ht3)
  have hwl3 : ∀ x ∈ ws3, x < 18446744073709551616 := fun x hx => Nat.lt_of_lt_of_le (S3.out.wlt x hx) (by decide)
  have WL3 := Lib.hid hwl3
  clear hwl3
  go_wp2_with (go_at_call 48; refine (digest64_any q _ ws3 rs3 S3.out.wl S3.out.rl WL3.out _ B3.out).mono ?_; rintro e w4 ⟨rfl, hw4⟩; have W4 := Lib.hid hw4; clear hw4)
  go_ret
  have hs2 := HB2.out.size
  obtain ⟨_, _, _, hs3, _⟩ := G3.out
  have hs1 := HK1.out.size
  have e : (ws3.flatMap fun x => be x 8) = dg true T := dg_of64 (by rw [← HPD.out]; exact S3.out)
  refine ⟨_, rfl, by omega, by rw [W4.out, e]; exact Bl.new_ _ _ _, ?_⟩
  rw [W4.out]
  exact ((HK1.out.trans (HB2.out.mono HK1.out.size)).grown G3.out (by omega) (fun k e => by injection e with e; have := HQ.out; omega)).alloc (by omega) _
theorem write64_any (T l : List Nat) (g : Nat) (A : Option Addr) (c : Nat) (w : World) (hg : 2 ≤ g) (hl : ∀ x ∈ l, x < 256) (hsl : Sl w A l.length (bl l)) (hA : ∀ ad, A = some ad → ad.block ≠ g) (hlc : l.length ≤ c) (h : Hs true T g w) (hmax : T.length + l.length ≤ 1048576) (tab : Tab w) :
    Calls Tryd.prog 28 #[.pointer (some ⟨g, 0, none⟩), .slice A l.length c] w
      fun e w' => e = .returned (.int .i64 0) ∧ Hs true (T ++ l) g w' ∧ w.grownBy w' (some g) ∧ Tab w' := by
  obtain ⟨ws, rs, hb, hst⟩ := h
  have TAB := Lib.hid tab
  have HL := Lib.hid hl
  have HSL := Lib.hid hsl
  have HA := Lib.hid hA
  have HB := Lib.hid hb
  have HST := Lib.hid hst
  have b0 : w.cell? ⟨g, 0, none⟩ = some (.int .i64 512) := hb.cell_ rfl
  have b1 : w.cell? ⟨g, 1, none⟩ = some (.int .i64 (T.length : Int)) := hb.cell_ rfl
  have t1 : decide ((1048576 : Int) - (T.length : Int) < (l.length : Int)) = false := decide_eq_false (by omega)
  clear tab hl hsl hA hb hst
  go_enter Tryd.func28, Tryd.ntmps28
  go_wp2_with (first | (go_at_call 46; refine (none64 g _ b0).mono ?_; rintro e w' ⟨rfl, rfl⟩) | (go_at_call 47; refine (put64_any T l ws rs g _ _ _ hg HL.out HSL.out HA.out hlc HB.out HST.out (by omega) TAB.out).mono ?_; rintro e w3 ⟨rfl, ⟨ws3, rs3, hb3, hst3⟩, hg3, ht3⟩; have B3 := Lib.hid hb3; have S3 := Lib.hid hst3; have G3 := Lib.hid hg3; have T3 := Lib.hid ht3; clear hb3 hst3 hg3 ht3))
  go_ret
  exact ⟨rfl, ⟨ws3, rs3, by rw [List.length_append]; exact B3.out, S3.out⟩, G3.out, T3.out⟩
theorem write64_long (T : List Nat) (n g : Nat) (A : Option Addr) (c : Nat) (w : World) (h : Hs true T g w) (hT : T.length ≤ 1048576) (hn : n ≤ 9223372036854775807) (hmax : 1048576 < T.length + n) :
    Calls Tryd.prog 28 #[.pointer (some ⟨g, 0, none⟩), .slice A n c] w fun e w' => e = .returned (.int .i64 2) ∧ w = w' := by
  obtain ⟨ws, rs, hb, hst⟩ := h
  have b0 : w.cell? ⟨g, 0, none⟩ = some (.int .i64 512) := hb.cell_ rfl
  have b1 : w.cell? ⟨g, 1, none⟩ = some (.int .i64 (T.length : Int)) := hb.cell_ rfl
  have t1 : decide ((1048576 : Int) - (T.length : Int) < (n : Int)) = true := decide_eq_true (by omega)
  clear hb hst hn
  go_enter Tryd.func28, Tryd.ntmps28
  go_wp2_with (go_at_call 46; refine (none64 g _ b0).mono ?_; rintro e w' ⟨rfl, rfl⟩)
  go_ret
  exact ⟨rfl, rfl⟩
theorem count64 (T : List Nat) (g : Nat) (w : World) (h : Hs true T g w) : Calls Tryd.prog 29 #[.pointer (some ⟨g, 0, none⟩)] w fun e w' => e = .returned (.int .i64 (T.length : Int)) ∧ w = w' := by
  obtain ⟨ws, rs, hb, hst⟩ := h
  have b0 : w.cell? ⟨g, 0, none⟩ = some (.int .i64 512) := hb.cell_ rfl
  have b1 : w.cell? ⟨g, 1, none⟩ = some (.int .i64 (T.length : Int)) := hb.cell_ rfl
  clear hb hst
  go_enter Tryd.func29, Tryd.ntmps29
  go_wp2_with (go_at_call 46; refine (none64 g _ b0).mono ?_; rintro e w' ⟨rfl, rfl⟩)
  go_ret
  exact ⟨rfl, rfl⟩
theorem hsize64 (T : List Nat) (g : Nat) (w : World) (h : Hs true T g w) : Calls Tryd.prog 31 #[.pointer (some ⟨g, 0, none⟩)] w fun e w' => e = .returned (.int .i64 64) ∧ w = w' := by
  obtain ⟨ws, rs, hb, hst⟩ := h
  have b0 : w.cell? ⟨g, 0, none⟩ = some (.int .i64 512) := hb.cell_ rfl
  clear hb hst
  go_enter Tryd.func31, Tryd.ntmps31
  go_wp2_with (first | (go_at_call 46; refine (none64 g _ b0).mono ?_; rintro e w' ⟨rfl, rfl⟩) | (go_at_call 49; refine (dsize64 _).mono ?_; rintro e w' ⟨rfl, rfl⟩))
  go_ret
  exact ⟨rfl, rfl⟩
/-- A digest at once. -/
theorem sum64_any (l : List Nat) (A : Option Addr) (c : Nat) (w : World) (hl : ∀ x ∈ l, x < 256) (hsl : Sl w A l.length (bl l)) (hAw : ∀ ad, A = some ad → ad.block < w.heap.size) (hlc : l.length ≤ c) (hmax : l.length ≤ 1048576) (tab : Tab w) :
    Calls Tryd.prog 52 #[.slice A l.length c, .int .i64 512] w
      fun e w' => ∃ q, e = .returned (.tuple #[.slice (some ⟨q, 0, none⟩) 64 64, .int .i64 0]) ∧ w.heap.size ≤ q ∧ Bl w' q 5 (bl (dg true l)).toArray ∧ Below w.heap.size w w' := by
  have TAB := Lib.hid tab
  have HL := Lib.hid hl
  have HSL := Lib.hid hsl
  have HA := Lib.hid hAw
  have h2 := Lib.hid tab.size
  clear tab hl hsl hAw
  go_enter Tryd.func52, Tryd.ntmps52
  go_wp2_with (go_at_call 27; refine (new64_any _ TAB.out).mono ?_; rintro e w1 ⟨g, rfl, hg, hs, hb, ht⟩; have HG := Lib.hid hg; have H1 := Lib.hid hs; have HB := Lib.hid hb; have T1 := Lib.hid ht; clear hg hs hb ht)
  go_wp2_with (go_at_call 28; refine (write64_any [] l g A c _ (by have := h2.out; have := HG.out; omega) HL.out (HSL.out.below HB.out) (fun ad h => by have := HA.out ad h; have := HG.out; omega) hlc H1.out (by simpa using hmax) T1.out).mono ?_; rintro e w2 ⟨rfl, hs2, hg2, ht2⟩; have H2 := Lib.hid (show Hs true l g w2 from hs2); have G2 := Lib.hid hg2; have T2 := Lib.hid ht2; clear hs2 hg2 ht2)
  go_wp2_with (go_at_call 30; refine (hsum64_any l g _ hmax H2.out T2.out).mono ?_; rintro e w3 ⟨q, rfl, hq, hbl, hb3⟩; have HQ := Lib.hid hq; have HBL := Lib.hid hbl; have HB3 := Lib.hid hb3; clear hq hbl hb3)
  go_ret2
  have hb2 : Below w.heap.size w w2 := HB.out.grown G2.out HB.out.size (fun k e => by injection e with e; have := HG.out; omega)
  exact ⟨q, rfl, by have := hb2.size; have := HQ.out; omega, HBL.out, hb2.trans (HB3.out.mono hb2.size)⟩
theorem sum64_long (n : Nat) (A : Option Addr) (c : Nat) (w : World) (hn : n ≤ 9223372036854775807) (hmax : 1048576 < n) (tab : Tab w) :
    Calls Tryd.prog 52 #[.slice A n c, .int .i64 512] w
      fun e w' => e = .returned (.tuple #[.slice none 0 0, .int .i64 2]) ∧ Below w.heap.size w w' := by
  have TAB := Lib.hid tab
  have HN := Lib.hid hn
  clear tab hn
  go_enter Tryd.func52, Tryd.ntmps52
  go_wp2_with (go_at_call 27; refine (new64_any _ TAB.out).mono ?_; rintro e w1 ⟨g, rfl, hg, hs, hb, ht⟩; have H1 := Lib.hid hs; have HB := Lib.hid hb; clear hg hs hb ht)
  go_wp2_with (go_at_call 28; refine (write64_long [] n g A c _ H1.out (by simp) HN.out (by simpa using hmax)).mono ?_; rintro e w2 ⟨rfl, rfl⟩)
  go_ret2
  exact ⟨rfl, HB.out⟩
theorem Sum512_any (l : List Nat) (A : Option Addr) (c : Nat) (w : World) (hl : ∀ x ∈ l, x < 256) (hsl : Sl w A l.length (bl l)) (hAw : ∀ ad, A = some ad → ad.block < w.heap.size) (hlc : l.length ≤ c) (hmax : l.length ≤ 1048576) (tab : Tab w) :
    Calls Tryd.prog 42 #[.slice A l.length c] w
      fun e w' => ∃ q, e = .returned (.tuple #[.slice (some ⟨q, 0, none⟩) 64 64, .int .i64 0]) ∧ w.heap.size ≤ q ∧ Bl w' q 5 (bl (dg true l)).toArray ∧ Below w.heap.size w w' := by
  go_enter Tryd.func42, Tryd.ntmps42
  go_wp2_with (go_at_call 52; refine (sum64_any l A c _ hl hsl hAw hlc hmax tab).mono ?_; rintro e w1 ⟨q, rfl, hq, hbl, hb⟩)
  go_ret2
  exact ⟨q, rfl, hq, hbl, hb⟩
theorem Sum512_long (n : Nat) (A : Option Addr) (c : Nat) (w : World) (hn : n ≤ 9223372036854775807) (hmax : 1048576 < n) (tab : Tab w) :
    Calls Tryd.prog 42 #[.slice A n c] w
      fun e w' => e = .returned (.tuple #[.slice none 0 0, .int .i64 2]) ∧ Below w.heap.size w w' := by
  go_enter Tryd.func42, Tryd.ntmps42
  go_wp2_with (go_at_call 52; refine (sum64_long n A c _ hn hmax tab).mono ?_; rintro e w1 ⟨rfl, hb⟩)
  go_ret2
  exact ⟨rfl, hb⟩
/-! A hash that is not there. -/
theorem write_nil (n : Nat) (A : Option Addr) (c : Nat) (w : World) : Calls Tryd.prog 28 #[.pointer none, .slice A n c] w fun e w' => e = .returned (.int .i64 3) ∧ w = w' := by
  go_enter Tryd.func28, Tryd.ntmps28
  go_wp2_with (go_at_call 46; refine (none_nil _).mono ?_; rintro e w' ⟨rfl, rfl⟩)
  go_ret
  exact ⟨rfl, rfl⟩
theorem sum_nil (w : World) : Calls Tryd.prog 30 #[.pointer none] w fun e w' => e = .returned (.slice none 0 0) ∧ w = w' := by
  go_enter Tryd.func30, Tryd.ntmps30
  go_wp2_with (go_at_call 46; refine (none_nil _).mono ?_; rintro e w' ⟨rfl, rfl⟩)
  go_ret
  exact ⟨rfl, rfl⟩
theorem hsize_nil (w : World) : Calls Tryd.prog 31 #[.pointer none] w fun e w' => e = .returned (.int .i64 0) ∧ w = w' := by
  go_enter Tryd.func31, Tryd.ntmps31
  go_wp2_with (go_at_call 46; refine (none_nil _).mono ?_; rintro e w' ⟨rfl, rfl⟩)
  go_ret
  exact ⟨rfl, rfl⟩
theorem count_nil (w : World) : Calls Tryd.prog 29 #[.pointer none] w fun e w' => e = .returned (.int .i64 0) ∧ w = w' := by
  go_enter Tryd.func29, Tryd.ntmps29
  go_wp2_with (go_at_call 46; refine (none_nil _).mono ?_; rintro e w' ⟨rfl, rfl⟩)
  go_ret
  exact ⟨rfl, rfl⟩
theorem copy_nil (w : World) : Calls Tryd.prog 32 #[.pointer none] w fun e w' => e = .returned (.pointer none) ∧ w = w' := by
  go_enter Tryd.func32, Tryd.ntmps32
  go_wp2_with (go_at_call 46; refine (none_nil _).mono ?_; rintro e w' ⟨rfl, rfl⟩)
  go_ret
  exact ⟨rfl, rfl⟩
theorem reset_nil (w : World) : Calls Tryd.prog 33 #[.pointer none] w fun e w' => e = .returned (.tuple #[]) ∧ w = w' := by
  go_enter Tryd.func33, Tryd.ntmps33
  go_wp2_with (go_at_call 46; refine (none_nil _).mono ?_; rintro e w' ⟨rfl, rfl⟩)
  refine bodyPost_ret (results_none rfl _ _ _) rfl ?_
  exact ⟨rfl, rfl⟩
/-! The tables. -/
theorem const_any (i : Nat) (w : World) (hi : i < 80) (tab : Tab w) : Calls Tryd.prog 12 #[.int .i64 (i : Int)] w fun e w' => e = .returned (.tuple #[.int .u64 ((kc.getD i 0 : Nat) : Int), .int .i64 0]) ∧ w = w' := by
  have hc := tab.1 i hi
  obtain ⟨C, hC⟩ : ∃ C, C = kc.getD i 0 := ⟨_, rfl⟩
  rw [← hC] at hc ⊢
  clear hC tab
  have bt : (i : Int) < 80 := by omega
  go_enter Tryd.func12, Tryd.ntmps12
  go_wp2
  go_ret2
  exact ⟨rfl, rfl⟩
theorem const_no (i : Int) (w : World) (hi : i < 0 ∨ 80 ≤ i) : Calls Tryd.prog 12 #[.int .i64 i] w fun e w' => e = .returned (.tuple #[.int .u64 0, .int .i64 1]) ∧ w = w' := by
  by_cases h0 : i < 0
  · go_enter Tryd.func12, Tryd.ntmps12
    go_wp2
    go_ret2
    exact ⟨rfl, rfl⟩
  · have h1 : 80 ≤ i := by omega
    go_enter Tryd.func12, Tryd.ntmps12
    go_wp2
    go_ret2
    exact ⟨rfl, rfl⟩
theorem start_any (i : Nat) (w : World) (hi : i < 8) (tab : Tab w) : Calls Tryd.prog 14 #[.int .i64 (i : Int)] w fun e w' => e = .returned (.tuple #[.int .u64 ((sc.getD i 0 : Nat) : Int), .int .i64 0]) ∧ w = w' := by
  have hc := tab.2 i hi
  obtain ⟨C, hC⟩ : ∃ C, C = sc.getD i 0 := ⟨_, rfl⟩
  rw [← hC] at hc ⊢
  clear hC tab
  have bt : (i : Int) < 8 := by omega
  go_enter Tryd.func14, Tryd.ntmps14
  go_wp2
  go_ret2
  exact ⟨rfl, rfl⟩
theorem start_no (i : Int) (w : World) (hi : i < 0 ∨ 8 ≤ i) : Calls Tryd.prog 14 #[.int .i64 i] w fun e w' => e = .returned (.tuple #[.int .u64 0, .int .i64 1]) ∧ w = w' := by
  by_cases h0 : i < 0
  · go_enter Tryd.func14, Tryd.ntmps14
    go_wp2
    go_ret2
    exact ⟨rfl, rfl⟩
  · have h1 : 8 ≤ i := by omega
    go_enter Tryd.func14, Tryd.ntmps14
    go_wp2
    go_ret2
    exact ⟨rfl, rfl⟩
end Go.Proofs.YtfdjphinicafiabDoor.Sh
