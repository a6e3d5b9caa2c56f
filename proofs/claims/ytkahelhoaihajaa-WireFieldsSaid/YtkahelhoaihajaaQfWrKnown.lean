/- Joined texts. -/
import Derived.Deep.RegionHeld
import Derived.Test.YtkahelhoaihajaaQfWrNd
import Derived.Test.YtkahelhoaihajaaQfWrTvalE
set_option linter.unusedVariables false
namespace Go.Proofs.Ytkahelhoaihajaa.Wr
open Go.RowKit Go.Proofs.Ytkahelhoaihajaa.Gn Go.Proofs.Ytkahelhoaihajaa.Fd Go.Deep
set_option maxHeartbeats 4000000 in
set_option maxRecDepth 100000 in
theorem known_any (w : World) : Calls Try.prog 11 #[] w fun e w' => e = .returned (.bool true) ∧ Below w.heap.size w w' := by
  have C1 := Lib.hid (fun u => show Calls _ _ #[.int .u64 5] u (fun e w' => e = .returned (.agg #[.int .i64 1, .int .u64 5, .slice none 0 0, .slice none 0 0]) ∧ Ok w' (.mk 1 5 (none, 0, 0, []) none 0 []) ∧ Below u.heap.size u w') from Num_any 5 (by decide) u)
  have C2 := Lib.hid (fun u => (Bytes_any (nil_pc u) (by decide)).mono fun e w' ⟨A2, c2, h, _⟩ => (show ∃ A2 c2, e = Ending.returned (.agg #[.int .i64 2, .int .u64 0, .slice A2 0 c2, .slice none 0 0]) ∧ Ok w' (.mk 2 0 (A2, 0, c2, []) none 0 []) ∧ Below u.heap.size u w' from ⟨A2, c2, h⟩))
  have CW := Lib.hid (fun u => Whole_any u)
  go_enter Try.func11, Try.ntmps11
  go_upto_region 2 with (first
    | (go_at_call 23; (refine (C1.out _).mono ?_); rintro e w1 ⟨rfl, h1, h2⟩; have O1 := Lib.hid h1; have B1 := Lib.hid h2; clear h1 h2)
    | (go_at_call 25; go_loud ((refine (C2.out _).mono ?_); rintro e w2 ⟨A2, c2, rfl, h1, h2⟩; have O2 := Lib.hid h1; have B2 := Lib.hid h2; have X2 := Lib.hid (below_one w2 (.cells #[.int .i64 1, .int .u64 5, .slice none 0 0, .slice none 0 0, .int .i64 2, .int .u64 0, .slice A2 0 c2, .slice none 0 0] 26)); have S2 := Lib.hid (show Sl (w2.alloc (.cells #[.int .i64 1, .int .u64 5, .slice none 0 0, .slice none 0 0, .int .i64 2, .int .u64 0, .slice A2 0 c2, .slice none 0 0] 26)) (some ⟨w2.heap.size, 0, none⟩) (4 * 2) (flat [.mk 1 5 (none, 0, 0, []) none 0 [], .mk 2 0 (A2, 0, c2, []) none 0 []]) from Sl.new_ w2 26 [.int .i64 1, .int .u64 5, .slice none 0 0, .slice none 0 0, .int .i64 2, .int .u64 0, .slice A2 0 c2, .slice none 0 0]); have CL := Lib.hid (List_any (ks := [.mk 1 5 (none, 0, 0, []) none 0 [], .mk 2 0 (A2, 0, c2, []) none 0 []]) (c := 2) S2.out (Nat.le_refl _) (fun e => by cases e) (fun t ht => by rcases List.mem_cons.1 ht with rfl | ht <;> first | exact (O1.out.keep h2).keep X2.out | (rw [List.mem_singleton.1 ht]; exact O2.out.keep X2.out)) (by simp [szs, sz]) _ (Below.refl _ _)); clear h1 h2))
    | (go_at_call 21; (refine CL.out.mono ?_); rintro e w3 ⟨us, A3, c3, ⟨rfl, h1, h2⟩, h3, h4⟩; simp only [Tv.val, Tv.row]; have O3 := Lib.hid h1; have B3 := Lib.hid h2; have D3 := Lib.hid h3; clear h1 h2 h3 h4))
  have O4 := Lib.hid (O3.out.keep (below_one w3 (.cells #[.int .i64 3, .int .u64 0, .slice none 0 0, .slice A3 us.length c3] 26)))
  have B4 := Lib.hid (show Below w.heap.size w (w3.alloc (.cells #[.int .i64 3, .int .u64 0, .slice none 0 0, .slice A3 us.length c3] 26)) from (((B1.out.trans (B2.out.mono B1.out.size)).trans (X2.out.mono (Nat.le_trans B1.out.size B2.out.size))).trans (B3.out.mono (Nat.le_trans (Nat.le_trans B1.out.size B2.out.size) X2.out.size))).trans ((below_one w3 _).mono (Nat.le_trans (Nat.le_trans (Nat.le_trans B1.out.size B2.out.size) X2.out.size) B3.out.size)))
  have N4 := Lib.hid (Bl.new_ w3 26 #[.int .i64 3, .int .u64 0, .slice none 0 0, .slice A3 us.length c3])
  have ND := Lib.hid (show nd (.mk 3 0 (none, 0, 0, []) A3 c3 us) = ndk from by rw [nd, D3.out]; rfl)
  clear O3 B1 B2 X2 S2 CL B3 C1 C2 D3 O1 O2
  obtain ⟨q, hq⟩ : ∃ q, w3.heap.size = q := ⟨_, rfl⟩
  rw [hq] at N4 ⊢
  generalize w3.alloc (.cells #[.int .i64 3, .int .u64 0, .slice none 0 0, .slice A3 us.length c3] 26) = w4 at *
  clear hq w3
  have CR := Lib.hid (fun u (hu : Below w4.heap.size w4 u) => show Calls _ _ #[.agg #[.int .i64 3, .int .u64 0, .slice none 0 0, .slice A3 us.length c3], lim 65536 16 16384 65536] u (fun e w' => ∃ T, e = .returned (.tuple #[T, .int .i64 0]) ∧ World.ownsRow w' u.heap.size 5 1 T 6 (bl [3, 2, 1, 5, 2, 0]) ∧ Below u.heap.size u w') from (Write_any (O4.out.keep hu) 65536 16 16384 65536 (by decide) (by
      have h := (nd_all _ (O4.out.keep hu)).2.2.2
      rw [h, ND.out]; decide)).mono fun e w' ⟨h1, h2⟩ => by
    have e1 : wer (max 65536 0) (max 16 0) (max 16384 0) (max 65536 0) (.mk 3 0 (none, 0, 0, []) A3 c3 us) = 0 := by rw [wer_nd (O4.out.keep hu), ND.out]; exact k1
    have e2 : wb (.mk 3 0 (none, 0, 0, []) A3 c3 us) = [3, 2, 1, 5, 2, 0] := by rw [(nd_all _ (O4.out.keep hu)).2.1, ND.out]; exact k2
    rw [e1, e2] at h2
    rcases h2 with ⟨-, T, h2, h3⟩ | ⟨h2, -⟩
    · exact ⟨T, h2, h3, h1⟩
    · exact (h2 rfl).elim)
  have a0 : w4.cell? ⟨q, 0, none⟩ = some (.int .i64 3) := N4.out.cell_ rfl
  have a1 : w4.cell? ⟨q, 1, none⟩ = some (.int .u64 0) := N4.out.cell_ rfl
  have a2 : w4.cell? ⟨q, 2, none⟩ = some (.slice none 0 0) := N4.out.cell_ rfl
  have a3 : w4.cell? ⟨q, 3, none⟩ = some (.slice A3 us.length c3) := N4.out.cell_ rfl
  have D4 := Lib.hid (show Below w4.heap.size w4 w4.drew from below_drewN (Below.refl _ w4) 1)
  refine wp_region_held_drew (S := fun w' => w'.cell? ⟨q, 0, none⟩ = some (.int .i64 3) ∧ w'.cell? ⟨q, 1, none⟩ = some (.int .u64 0) ∧ w'.cell? ⟨q, 2, none⟩ = some (.slice none 0 0) ∧ w'.cell? ⟨q, 3, none⟩ = some (.slice A3 us.length c3)) (by kernel_rfl) (by exact ⟨a0, a1, a2, a3⟩) (fun _ => ?_)
  refine take_l 0 (v := ?_) rfl (by kernel_rfl) (by kernel_rfl) (by kernel_rfl) (fun _ _ _ h => h) (Or.inl ⟨by rfl, ?_⟩) (by show World.cell? _ _ = _ ∧ World.cell? _ _ = _ ∧ World.cell? _ _ = _ ∧ World.cell? _ _ = _; first | exact ⟨a0, a1, a2, a3⟩ | exact ⟨b0, b1, b2, b3⟩ | exact ⟨d0, d1, d2, d3⟩) ?_; rotate_left
  · intro w' hSw
    have hS0 : w'.cell? ⟨q, 0, none⟩ = some (.int .i64 3) := hSw.1
    have hS1 : w'.cell? ⟨q, 1, none⟩ = some (.int .u64 0) := hSw.2.1
    have hS2 : w'.cell? ⟨q, 2, none⟩ = some (.slice none 0 0) := hSw.2.2.1
    have hS3 : w'.cell? ⟨q, 3, none⟩ = some (.slice A3 us.length c3) := hSw.2.2.2
    clear hSw
    go_simp
    all_goals with_reducible rfl
  try simp only [Act.put, List.setIfInBounds_toArray, List.set_cons_zero, List.set_cons_succ]
  refine wpAnyH_ready (rs := [1]) (by kernel_rfl) (by simp) ?_
  refine cons_l rfl (fun K0 hK => ?_) AllReadyH.nil
  go_simp
  (go_at_call 46; (refine (CW.out _).mono ?_); rintro e w5 ⟨rfl, hb5⟩)
  have B5 := Lib.hid (show Below w4.heap.size w4 w5 from D4.out.trans (hb5.mono D4.out.size))
  have N5 := Lib.hid (N4.out.below' B5.out)
  have b0 : w5.cell? ⟨q, 0, none⟩ = some (.int .i64 3) := N5.out.cell_ rfl
  have b1 : w5.cell? ⟨q, 1, none⟩ = some (.int .u64 0) := N5.out.cell_ rfl
  have b2 : w5.cell? ⟨q, 2, none⟩ = some (.slice none 0 0) := N5.out.cell_ rfl
  have b3 : w5.cell? ⟨q, 3, none⟩ = some (.slice A3 us.length c3) := N5.out.cell_ rfl
  clear hb5
  refine hK.out _ _ (by show World.cell? _ _ = _ ∧ World.cell? _ _ = _ ∧ World.cell? _ _ = _ ∧ World.cell? _ _ = _; first | exact ⟨a0, a1, a2, a3⟩ | exact ⟨b0, b1, b2, b3⟩ | exact ⟨d0, d1, d2, d3⟩) (fun _ => ?_)
  clear hK K0
  try simp only [Act.put, List.setIfInBounds_toArray, List.set_cons_zero, List.set_cons_succ]
  refine wpAnyH_ready (rs := [2]) (by kernel_rfl) (by simp) ?_
  refine cons_l rfl (fun K0 hK => ?_) AllReadyH.nil
  go_simp
  (go_at_call 12; (refine (CR.out _ B5.out).mono ?_); rintro e w6 ⟨T, rfl, ho6, hb6⟩)
  have B6 := Lib.hid (show Below w4.heap.size w4 w6 from B5.out.trans (hb6.mono B5.out.size))
  have N6 := Lib.hid (N4.out.below' B6.out)
  have T6 := Lib.hid ho6
  have d0 : w6.cell? ⟨q, 0, none⟩ = some (.int .i64 3) := N6.out.cell_ rfl
  have d1 : w6.cell? ⟨q, 1, none⟩ = some (.int .u64 0) := N6.out.cell_ rfl
  have d2 : w6.cell? ⟨q, 2, none⟩ = some (.slice none 0 0) := N6.out.cell_ rfl
  have d3 : w6.cell? ⟨q, 3, none⟩ = some (.slice A3 us.length c3) := N6.out.cell_ rfl
  clear hb6 ho6
  refine hK.out _ _ (by show World.cell? _ _ = _ ∧ World.cell? _ _ = _ ∧ World.cell? _ _ = _ ∧ World.cell? _ _ = _; first | exact ⟨a0, a1, a2, a3⟩ | exact ⟨b0, b1, b2, b3⟩ | exact ⟨d0, d1, d2, d3⟩) (fun _ => ?_)
  clear hK K0
  try simp only [Act.put, List.setIfInBounds_toArray, List.set_cons_zero, List.set_cons_succ]
  refine take_l 3 (v := ?_) rfl (by kernel_rfl) (by kernel_rfl) (by kernel_rfl) (fun _ _ _ h => h) (Or.inl ⟨by rfl, ?_⟩) (by show World.cell? _ _ = _ ∧ World.cell? _ _ = _ ∧ World.cell? _ _ = _ ∧ World.cell? _ _ = _; first | exact ⟨a0, a1, a2, a3⟩ | exact ⟨b0, b1, b2, b3⟩ | exact ⟨d0, d1, d2, d3⟩) ?_; rotate_left
  · intro w' hSw
    have hS0 : w'.cell? ⟨q, 0, none⟩ = some (.int .i64 3) := hSw.1
    have hS1 : w'.cell? ⟨q, 1, none⟩ = some (.int .u64 0) := hSw.2.1
    have hS2 : w'.cell? ⟨q, 2, none⟩ = some (.slice none 0 0) := hSw.2.2.1
    have hS3 : w'.cell? ⟨q, 3, none⟩ = some (.slice A3 us.length c3) := hSw.2.2.2
    clear hSw
    go_simp
    all_goals with_reducible rfl
  try simp only [Act.put, List.setIfInBounds_toArray, List.set_cons_zero, List.set_cons_succ]
  refine take_l 4 (v := ?_) rfl (by kernel_rfl) (by kernel_rfl) (by kernel_rfl) (fun _ _ _ h => h) (Or.inl ⟨by rfl, ?_⟩) (by show World.cell? _ _ = _ ∧ World.cell? _ _ = _ ∧ World.cell? _ _ = _ ∧ World.cell? _ _ = _; first | exact ⟨a0, a1, a2, a3⟩ | exact ⟨b0, b1, b2, b3⟩ | exact ⟨d0, d1, d2, d3⟩) ?_; rotate_left
  · intro w' hSw
    have hS0 : w'.cell? ⟨q, 0, none⟩ = some (.int .i64 3) := hSw.1
    have hS1 : w'.cell? ⟨q, 1, none⟩ = some (.int .u64 0) := hSw.2.1
    have hS2 : w'.cell? ⟨q, 2, none⟩ = some (.slice none 0 0) := hSw.2.2.1
    have hS3 : w'.cell? ⟨q, 3, none⟩ = some (.slice A3 us.length c3) := hSw.2.2.2
    clear hSw
    go_simp
    all_goals with_reducible rfl
  try simp only [Act.put, List.setIfInBounds_toArray, List.set_cons_zero, List.set_cons_succ]
  refine take_l 5 (v := ?_) rfl (by kernel_rfl) (by kernel_rfl) (by kernel_rfl) (fun _ _ _ h => h) (Or.inl ⟨by rfl, ?_⟩) (by show World.cell? _ _ = _ ∧ World.cell? _ _ = _ ∧ World.cell? _ _ = _ ∧ World.cell? _ _ = _; first | exact ⟨a0, a1, a2, a3⟩ | exact ⟨b0, b1, b2, b3⟩ | exact ⟨d0, d1, d2, d3⟩) ?_; rotate_left
  · intro w' hSw
    have hS0 : w'.cell? ⟨q, 0, none⟩ = some (.int .i64 3) := hSw.1
    have hS1 : w'.cell? ⟨q, 1, none⟩ = some (.int .u64 0) := hSw.2.1
    have hS2 : w'.cell? ⟨q, 2, none⟩ = some (.slice none 0 0) := hSw.2.2.1
    have hS3 : w'.cell? ⟨q, 3, none⟩ = some (.slice A3 us.length c3) := hSw.2.2.2
    clear hSw
    go_simp
    all_goals with_reducible rfl
  try simp only [Act.put, List.setIfInBounds_toArray, List.set_cons_zero, List.set_cons_succ]
  refine take_l 6 (v := ?_) rfl (by kernel_rfl) (by kernel_rfl) (by kernel_rfl) (fun _ _ _ h => h) (Or.inl ⟨by rfl, ?_⟩) (by show World.cell? _ _ = _ ∧ World.cell? _ _ = _ ∧ World.cell? _ _ = _ ∧ World.cell? _ _ = _; first | exact ⟨a0, a1, a2, a3⟩ | exact ⟨b0, b1, b2, b3⟩ | exact ⟨d0, d1, d2, d3⟩) ?_; rotate_left
  · intro w' hSw
    have hS0 : w'.cell? ⟨q, 0, none⟩ = some (.int .i64 3) := hSw.1
    have hS1 : w'.cell? ⟨q, 1, none⟩ = some (.int .u64 0) := hSw.2.1
    have hS2 : w'.cell? ⟨q, 2, none⟩ = some (.slice none 0 0) := hSw.2.2.1
    have hS3 : w'.cell? ⟨q, 3, none⟩ = some (.slice A3 us.length c3) := hSw.2.2.2
    clear hSw
    go_simp
    all_goals with_reducible rfl
  try simp only [Act.put, List.setIfInBounds_toArray, List.set_cons_zero, List.set_cons_succ]
  refine take_l 7 (v := ?_) rfl (by kernel_rfl) (by kernel_rfl) (by kernel_rfl) (fun _ _ _ h => h) (Or.inl ⟨by rfl, ?_⟩) (by show World.cell? _ _ = _ ∧ World.cell? _ _ = _ ∧ World.cell? _ _ = _ ∧ World.cell? _ _ = _; first | exact ⟨a0, a1, a2, a3⟩ | exact ⟨b0, b1, b2, b3⟩ | exact ⟨d0, d1, d2, d3⟩) ?_; rotate_left
  · intro w' hSw
    have hS0 : w'.cell? ⟨q, 0, none⟩ = some (.int .i64 3) := hSw.1
    have hS1 : w'.cell? ⟨q, 1, none⟩ = some (.int .u64 0) := hSw.2.1
    have hS2 : w'.cell? ⟨q, 2, none⟩ = some (.slice none 0 0) := hSw.2.2.1
    have hS3 : w'.cell? ⟨q, 3, none⟩ = some (.slice A3 us.length c3) := hSw.2.2.2
    clear hSw
    go_simp
    all_goals with_reducible rfl
  try simp only [Act.put, List.setIfInBounds_toArray, List.set_cons_zero, List.set_cons_succ]
  refine wpAnyH_done (by kernel_rfl) ?_ _
  obtain ⟨E6, p6, rfl, -, -, -, -⟩ := own_form T6.out
  clear CR a0 a1 a2 a3 b0 b1 b2 b3 d0 d1 d2 d3 N4 N5 D4
  have X6 := Lib.hid (below_one w6 (.cells #[.int .u8 3, .int .u8 2, .int .u8 1, .int .u8 5, .int .u8 2, .int .u8 0] 5))
  have PC6 := Lib.hid (show Pc (w6.alloc (.cells #[.int .u8 3, .int .u8 2, .int .u8 1, .int .u8 5, .int .u8 2, .int .u8 0] 5)) (some ⟨w6.heap.size, 0, none⟩, 6, 6, [3, 2, 1, 5, 2, 0]) from ⟨rfl, Sl.new_ w6 5 (bl [3, 2, 1, 5, 2, 0]), by show ∀ x ∈ [3, 2, 1, 5, 2, 0], x < 256; decide, Nat.le_refl _, fun e => by cases e⟩)
  have CR1 := Lib.hid (fun u (hu : Below (w6.alloc (.cells #[.int .u8 3, .int .u8 2, .int .u8 1, .int .u8 5, .int .u8 2, .int .u8 0] 5)).heap.size (w6.alloc (.cells #[.int .u8 3, .int .u8 2, .int .u8 1, .int .u8 5, .int .u8 2, .int .u8 0] 5)) u) => show Calls _ _ #[.slice (some ⟨w6.heap.size, 0, none⟩) 6 6, lim 65536 16 16384 65536] u (fun e w' => Below u.heap.size u w' ∧ ∃ t : Tv, e = .returned (.tuple #[t.val, .int .i64 0, .int .i64 0]) ∧ nd t = ndk ∧ Ok w' t) from (Read_any (PC6.out.below hu) 65536 16 16384 65536 (by decide) (by show 6 ≤ 900000; decide) (fun ad e => by cases e; have := hu.size; simp at this; show w6.heap.size < u.heap.size; omega)).mono fun e w' h => by
    have e1 : rdw (max 65536 0) (max 16 0) (max 16384 0) (max 65536 0) ((some ⟨w6.heap.size, 0, none⟩, 6, 6, [3, 2, 1, 5, 2, 0]) : Rw).2.2.2 = .good ndk 6 3 := k3
    rw [e1] at h
    exact h)
  go_upto_region 4 with (first
    | (go_at_call 46; (refine (CW.out _).mono ?_); rintro e w7 ⟨rfl, hb7⟩; have B7 := Lib.hid hb7; clear hb7)
    | (go_at_call 45; (refine (CR1.out _ B7.out).mono ?_); rintro e w8 ⟨hb8, t, rfl, hnd, hok⟩; obtain ⟨K, N, rr, BB, cc, vs⟩ := t; simp only [Tv.val, Tv.row]; have B8 := Lib.hid hb8; have D8 := Lib.hid hnd; have O8 := Lib.hid hok; clear hb8 hnd hok))
  have X8 := Lib.hid (below_one w8 (.cells #[.int .i64 K, .int .u64 (N : Int), .slice rr.1 rr.2.1 rr.2.2.1, .slice BB vs.length cc] 26))
  have N8 := Lib.hid (Bl.new_ w8 26 #[.int .i64 K, .int .u64 (N : Int), .slice rr.1 rr.2.1 rr.2.2.1, .slice BB vs.length cc])
  have BX9 := Lib.hid (show Below w6.heap.size w6 (w8.alloc (.cells #[.int .i64 K, .int .u64 (N : Int), .slice rr.1 rr.2.1 rr.2.2.1, .slice BB vs.length cc] 26)) from X6.out.trans ((B7.out.trans ((B8.out.trans (X8.out.mono B8.out.size)).mono B7.out.size)).mono X6.out.size))
  have O9 := Lib.hid (O8.out.keep X8.out)
  have lz : w6.heap.size ≤ w8.heap.size := Nat.le_trans X6.out.size (Nat.le_trans B7.out.size B8.out.size)
  obtain ⟨z, hz⟩ : ∃ z, w8.heap.size = z := ⟨_, rfl⟩
  rw [hz] at N8 lz ⊢
  clear X8 X6 B7 B8 O8 PC6 CR1
  generalize w8.alloc (.cells #[.int .i64 K, .int .u64 (N : Int), .slice rr.1 rr.2.1 rr.2.2.1, .slice BB vs.length cc] 26) = w9 at *
  clear hz w8
  have X9 := Lib.hid (below_one w9 (.cells #[.int .u8 3, .int .u8 1, .int .u8 4] 5))
  have PC9 := Lib.hid (show Pc (w9.alloc (.cells #[.int .u8 3, .int .u8 1, .int .u8 4] 5)) (some ⟨w9.heap.size, 0, none⟩, 3, 3, [3, 1, 4]) from ⟨rfl, Sl.new_ w9 5 (bl [3, 1, 4]), by show ∀ x ∈ [3, 1, 4], x < 256; decide, Nat.le_refl _, fun e => by cases e⟩)
  have CR2 := Lib.hid (fun u (hu : Below (w9.alloc (.cells #[.int .u8 3, .int .u8 1, .int .u8 4] 5)).heap.size (w9.alloc (.cells #[.int .u8 3, .int .u8 1, .int .u8 4] 5)) u) => show Calls _ _ #[.slice (some ⟨w9.heap.size, 0, none⟩) 3 3, lim 65536 16 16384 65536] u (fun e w' => Below u.heap.size u w' ∧ e = .returned (.tuple #[.agg #[.int .i64 0, .int .u64 0, .slice none 0 0, .slice none 0 0], .int .i64 2, .int .i64 21])) from (Read_any (PC9.out.below hu) 65536 16 16384 65536 (by decide) (by show 3 ≤ 900000; decide) (fun ad e => by cases e; have := hu.size; simp at this; show w9.heap.size < u.heap.size; omega)).mono fun e w' h => by
    have e1 : rdw (max 65536 0) (max 16 0) (max 16384 0) (max 65536 0) ((some ⟨w9.heap.size, 0, none⟩, 3, 3, [3, 1, 4]) : Rw).2.2.2 = .bad 2 21 := k4
    rw [e1] at h
    exact h)
  have CC := Lib.hid (fun u => show Calls _ _ #[.int .u64 256] u (CtQ [193, 1, 0] u) from k5 ▸ count_any 256 (by decide) u)
  go_upto_region 6 with (first
    | (go_at_call 46; (refine (CW.out _).mono ?_); rintro e w10 ⟨rfl, hb10⟩; have B10 := Lib.hid hb10; clear hb10)
    | (go_at_call 45; (refine (CR2.out _ B10.out).mono ?_); rintro e w11 ⟨hb11, rfl⟩; have B11 := Lib.hid hb11; have X11 := Lib.hid (below_one w11 nod0); clear hb11)
    | (go_at_call 50; (refine (CC.out _).mono ?_); rintro e w12 ⟨gc, cc2, rfl, hp12, hg12, hb12⟩; have P12 := Lib.hid hp12; have B12 := Lib.hid hb12; clear hp12 hg12 hb12))
  have L9 := Lib.hid (show Below w9.heap.size w9 w12 from X9.out.trans ((B10.out.trans ((B11.out.trans ((X11.out.trans (B12.out.mono X11.out.size)).mono B11.out.size)).mono B10.out.size)).mono X9.out.size))
  have L6 := Lib.hid (show Below w6.heap.size w6 w12 from BX9.out.trans (L9.out.mono BX9.out.size))
  have L4 := Lib.hid (show Below w4.heap.size w4 w12 from B6.out.trans (L6.out.mono B6.out.size))
  have LW := Lib.hid (show Below w.heap.size w w12 from B4.out.trans (L4.out.mono B4.out.size))
  have NV := Lib.hid (N6.out.below' L6.out)
  have NZ := Lib.hid (N8.out.below' L9.out)
  have OV := Lib.hid (O4.out.keep L4.out)
  have OZ := Lib.hid (O9.out.keep L9.out)
  have TT := Lib.hid (own_belowg T6.out L6.out)
  clear X9 B10 B11 X11 B12 CR2 PC9 CC N6 N8 O4 O9 T6 BX9 L9 L6 L4 B6 B4 CW B5
  have XA := Lib.hid (below_one w12 (.cells #[.int .u8 3, .int .u8 2, .int .u8 1, .int .u8 5, .int .u8 2, .int .u8 0] 5))
  have SA := Lib.hid (show Sl (w12.alloc (.cells #[.int .u8 3, .int .u8 2, .int .u8 1, .int .u8 5, .int .u8 2, .int .u8 0] 5)) (some ⟨w12.heap.size, 0, none⟩) 6 (bl [3, 2, 1, 5, 2, 0]) from Sl.new_ w12 5 (bl [3, 2, 1, 5, 2, 0]))
  have ST := Lib.hid (show Sl (w12.alloc (.cells #[.int .u8 3, .int .u8 2, .int .u8 1, .int .u8 5, .int .u8 2, .int .u8 0] 5)) E6 6 (bl [3, 2, 1, 5, 2, 0]) from by
    obtain ⟨A9, c9, e9, h9, -, -, -⟩ := own_form TT.out
    cases e9
    exact Sl.below h9 XA.out)
  have CS1 := Lib.hid (samebytes_any E6 (some ⟨w12.heap.size, 0, none⟩) 6 6 p6 6 [3, 2, 1, 5, 2, 0] [3, 2, 1, 5, 2, 0] _ (by decide) (by decide) ST.out SA.out)
  have NVA := Lib.hid (NV.out.below' XA.out)
  have NZA := Lib.hid (NZ.out.below' XA.out)
  have a0 : (w12.alloc (.cells #[.int .u8 3, .int .u8 2, .int .u8 1, .int .u8 5, .int .u8 2, .int .u8 0] 5)).cell? ⟨q, 0, none⟩ = some (.int .i64 3) := NVA.out.cell_ rfl
  have a1 : (w12.alloc (.cells #[.int .u8 3, .int .u8 2, .int .u8 1, .int .u8 5, .int .u8 2, .int .u8 0] 5)).cell? ⟨q, 1, none⟩ = some (.int .u64 0) := NVA.out.cell_ rfl
  have a2 : (w12.alloc (.cells #[.int .u8 3, .int .u8 2, .int .u8 1, .int .u8 5, .int .u8 2, .int .u8 0] 5)).cell? ⟨q, 2, none⟩ = some (.slice none 0 0) := NVA.out.cell_ rfl
  have a3 : (w12.alloc (.cells #[.int .u8 3, .int .u8 2, .int .u8 1, .int .u8 5, .int .u8 2, .int .u8 0] 5)).cell? ⟨q, 3, none⟩ = some (.slice A3 us.length c3) := NVA.out.cell_ rfl
  have z0 : (w12.alloc (.cells #[.int .u8 3, .int .u8 2, .int .u8 1, .int .u8 5, .int .u8 2, .int .u8 0] 5)).cell? ⟨z, 0, none⟩ = some (.int .i64 K) := NZA.out.cell_ rfl
  have z1 : (w12.alloc (.cells #[.int .u8 3, .int .u8 2, .int .u8 1, .int .u8 5, .int .u8 2, .int .u8 0] 5)).cell? ⟨z, 1, none⟩ = some (.int .u64 (N : Int)) := NZA.out.cell_ rfl
  have z2 : (w12.alloc (.cells #[.int .u8 3, .int .u8 2, .int .u8 1, .int .u8 5, .int .u8 2, .int .u8 0] 5)).cell? ⟨z, 2, none⟩ = some (.slice rr.1 rr.2.1 rr.2.2.1) := NZA.out.cell_ rfl
  have z3 : (w12.alloc (.cells #[.int .u8 3, .int .u8 2, .int .u8 1, .int .u8 5, .int .u8 2, .int .u8 0] 5)).cell? ⟨z, 3, none⟩ = some (.slice BB vs.length cc) := NZA.out.cell_ rfl
  have CM := Lib.hid (show Calls _ _ #[.agg #[.int .i64 3, .int .u64 0, .slice none 0 0, .slice A3 us.length c3], .agg #[.int .i64 K, .int .u64 (N : Int), .slice rr.1 rr.2.1 rr.2.2.1, .slice BB vs.length cc]] _ (SmQ true _) from by
    have h := Same_any (OV.out.keep XA.out) (OZ.out.keep XA.out) _ (Below.refl _ _)
    rw [ND.out, D8.out, (sn_eq ndk ndk).2 rfl] at h
    exact h)
  go_wp2_with (first
    | (go_at_call 29; (refine CM.out.mono ?_); rintro e w13 ⟨rfl, hb13⟩; have B13 := Lib.hid hb13; have X13 := Lib.hid (below_one w13 (.cells #[.int .u8 193, .int .u8 1, .int .u8 0] 5)); have CS2 := Lib.hid (samebytes_any (some ⟨gc, 0, none⟩) (some ⟨w13.heap.size, 0, none⟩) 3 3 cc2 3 [193, 1, 0] [193, 1, 0] (w13.alloc (.cells #[.int .u8 193, .int .u8 1, .int .u8 0] 5)) (by decide) (by decide) (((P12.out.row.below XA.out).below hb13).below X13.out) (Sl.new_ w13 5 (bl [193, 1, 0]))); clear hb13)
    | (go_at_call 17; (first | (with_reducible refine CS2.out.mono ?_) | (with_reducible refine CS1.out.mono ?_)); rintro e w14 ⟨rfl, rfl⟩))
  go_ret
  exact ⟨rfl, LW.out.trans ((XA.out.trans ((B13.out.trans (X13.out.mono B13.out.size)).mono XA.out.size)).mono LW.out.size)⟩
end Go.Proofs.Ytkahelhoaihajaa.Wr
