/-
  The walk of the law that bytes of scores go there and back.
-/
import Derived.Test.YtgcolbkgldcfiaaScByteLaws
namespace Go.Proofs.Ytgcolbkgldcfiaa.Sc
open Go.RowKit
set_option linter.unusedVariables false

theorem rd_cons (a : Nat) (l : List Nat) : rd (a :: l) = a * 256 ^ l.length + rd l := by
  have : ∀ (l : List Nat) (n : Nat), l.foldl (fun n x => n * 256 + x) n = n * 256 ^ l.length + rd l := by
    intro l
    induction l with
    | nil => intro n; simp [rd]
    | cons b l ih =>
      intro n
      rw [List.foldl_cons, ih, List.length_cons, Nat.pow_succ]
      have : rd (b :: l) = b * 256 ^ l.length + rd l := by
        unfold rd; rw [List.foldl_cons, Nat.zero_mul, Nat.zero_add, ih]; rfl
      rw [this, Nat.add_mul, Nat.mul_assoc, Nat.mul_comm 256, Nat.add_assoc]
  unfold rd; rw [List.foldl_cons, Nat.zero_mul, Nat.zero_add, this]; rfl
theorem rd_beb (x k : Nat) : rd (beb x k) = x % 256 ^ k := by
  induction k with
  | zero => simp [beb, rd, Nat.mod_one]
  | succ k ih =>
    rw [beb, rd_cons, beb_length, ih, Nat.pow_succ, Nat.mod_mul]
    rw [Nat.mul_comm, Nat.add_comm]
theorem beb_rd (l : List Nat) (h : ∀ x ∈ l, x < 256) (m : Nat) : beb (m * 256 ^ l.length + rd l) l.length = l := by
  induction l generalizing m with
  | nil => rfl
  | cons a l ih =>
    have ha := h a List.mem_cons_self
    have hl : rd l < 256 ^ l.length := rd_lt l fun x hx => h x (List.mem_cons_of_mem _ hx)
    rw [rd_cons, List.length_cons, beb]
    have e : m * 256 ^ (l.length + 1) + (a * 256 ^ l.length + rd l) = (m * 256 + a) * 256 ^ l.length + rd l := by
      rw [Nat.pow_succ, Nat.add_mul, Nat.mul_assoc, Nat.mul_comm 256, Nat.add_assoc]
    rw [e, ih (fun x hx => h x (List.mem_cons_of_mem _ hx))]
    congr 1
    rw [Nat.mul_comm, Nat.mul_add_div (Nat.pow_pos (by decide)), Nat.div_eq_of_lt hl]
    omega
theorem back_there (x : Nat) (hx : x < 18446744073709551616) (hv : valid x = true) : rdX (beb x 8) = x ∧ rdE (beb x 8) = 0 := by
  have h : rd (beb x 8) = x := by
    rw [rd_beb]; exact Nat.mod_eq_of_lt (by have : 256 ^ 8 = 18446744073709551616 := by decide
                                            omega)
  unfold rdX rdE
  rw [if_pos (beb_length x 8), if_pos (beb_length x 8), h, if_pos hv, if_pos hv]; exact ⟨rfl, rfl⟩
theorem rdX_valid (l : List Nat) : valid (rdX l) = true := by
  unfold rdX
  split
  · split
    · assumption
    · exact valid_zero
  · exact valid_zero
theorem rdX_lt (l : List Nat) (h : ∀ x ∈ l, x < 256) : rdX l < 18446744073709551616 := by
  unfold rdX
  split
  · split
    · exact rd_8_lt l h (by assumption)
    · omega
  · omega
theorem there_back (l : List Nat) (h : ∀ x ∈ l, x < 256) (he : rdE l = 0) : beb (rdX l) 8 = l := by
  unfold rdE at he
  unfold rdX
  split at he
  · rename_i h8
    split at he
    · rename_i hv
      rw [if_pos h8, if_pos hv]
      have := beb_rd l h 0
      rw [h8] at this
      simpa using this
    · simp at he
  · simp at he

set_option maxHeartbeats 1000000 in
/-- The second half: any bytes are read, and what was read has those bytes. -/
theorem walk_scoreBack (w : World) (x : Nat) (wx : (Lit.float .f64 x).wf = true) (A : Option Addr) (n c : Nat) (l : List Nat) (hf : BL w A n c l) :
    Calls Try.prog 11 #[.float .f64 x, .slice A n c] w fun e w' => e = .returned (.bool true) ∧ Below w.heap.size w w' := by
  obtain ⟨hs, hn, hl, -⟩ := hf
  have HX := Lib.hid (wf_f64 wx)
  have HS := Lib.hid hs
  have HL := Lib.hid hl
  have HZ := Lib.hid (rdX_lt l hl)
  have HZV := Lib.hid (rdX_valid l)
  clear hs hl wx
  cases hv : valid x
  all_goals cases hg : rdE l != 0
  · have hsb : (l == beb (rdX l) 8) = true := by rw [there_back l HL.out (bne_eq_false_iff_eq.1 hg)]; simp
    go_enter Try.func11, Try.ntmps11
    go_wp2_with fail
    refine (bytes_bad x _ HX.out hv).mono ?_
    rintro e w1 ⟨rfl, rfl⟩
    have HN := Lib.hid (show Sl w1 none 0 (bl []) from ⟨rfl, fun k v h => by simp [bl] at h⟩)
    have HS1 := HS
    have hb1 := Lib.hid (Below.refl w1.heap.size w1)
    go_wp2_with fail
    refine (read_any _ _ _ [] _ (by decide) (by simp) HN.out).mono ?_
    rintro e w2 ⟨rfl, rfl⟩
    go_wp2_with (first | (go_at_call 24; refine (rsame_any _ _ _).mono ?_; rintro e w' ⟨rfl, rfl⟩))
    refine (read_any _ _ _ l _ hn HL.out HS1.out).mono ?_
    rintro e w2 ⟨rfl, rfl⟩
    go_wp2_with fail
    refine (bytes_ok _ _ HZ.out HZV.out).mono ?_
    rintro e w3 ⟨rfl, hw3⟩
    have hb3 := Lib.hid (show Below w1.heap.size w1 w3 by rw [hw3]; exact (Below.refl _ _).alloc (Nat.le_refl _) _)
    have HS3 := Lib.hid (show Sl w3 (some ⟨w1.heap.size, 0, none⟩) 8 (bl (beb (rdX l) 8)) by
      rw [hw3]; have := Sl.new_ w1 5 (bl (beb (rdX l) 8)); rwa [show (bl (beb (rdX l) 8)).length = 8 by simp [bl, beb_length]] at this)
    have HS4 := Lib.hid (HS1.out.below hb3.out)
    clear hw3
    go_wp2_with (first | (go_at_call 31; refine (samebytes_any _ _ _ _ _ _ l (beb (rdX l) 8) _ HL.out (beb_lt _ 8) HS4.out HS3.out).mono ?_; rintro e w' ⟨rfl, rfl⟩) | (go_at_call 21; refine (known_any _).mono ?_; rintro e w' ⟨rfl, hb⟩))
    go_ret
    exact ⟨rfl, (hb1.out.trans (hb3.out.mono hb1.out.size)).trans (hb.mono (Nat.le_trans hb1.out.size hb3.out.size))⟩
  · go_enter Try.func11, Try.ntmps11
    go_wp2_with fail
    refine (bytes_bad x _ HX.out hv).mono ?_
    rintro e w1 ⟨rfl, rfl⟩
    have HN := Lib.hid (show Sl w1 none 0 (bl []) from ⟨rfl, fun k v h => by simp [bl] at h⟩)
    have HS1 := HS
    have hb1 := Lib.hid (Below.refl w1.heap.size w1)
    go_wp2_with fail
    refine (read_any _ _ _ [] _ (by decide) (by simp) HN.out).mono ?_
    rintro e w2 ⟨rfl, rfl⟩
    go_wp2_with (first | (go_at_call 24; refine (rsame_any _ _ _).mono ?_; rintro e w' ⟨rfl, rfl⟩))
    refine (read_any _ _ _ l _ hn HL.out HS1.out).mono ?_
    rintro e w2 ⟨rfl, rfl⟩
    go_wp2_with fail
    refine (bytes_ok _ _ HZ.out HZV.out).mono ?_
    rintro e w3 ⟨rfl, hw3⟩
    have hb3 := Lib.hid (show Below w1.heap.size w1 w3 by rw [hw3]; exact (Below.refl _ _).alloc (Nat.le_refl _) _)
    have HS3 := Lib.hid (show Sl w3 (some ⟨w1.heap.size, 0, none⟩) 8 (bl (beb (rdX l) 8)) by
      rw [hw3]; have := Sl.new_ w1 5 (bl (beb (rdX l) 8)); rwa [show (bl (beb (rdX l) 8)).length = 8 by simp [bl, beb_length]] at this)
    have HS4 := Lib.hid (HS1.out.below hb3.out)
    clear hw3
    go_wp2_with (first | (go_at_call 31; refine (samebytes_any _ _ _ _ _ _ l (beb (rdX l) 8) _ HL.out (beb_lt _ 8) HS4.out HS3.out).mono ?_; rintro e w' ⟨rfl, rfl⟩) | (go_at_call 21; refine (known_any _).mono ?_; rintro e w' ⟨rfl, hb⟩))
    go_ret
    exact ⟨rfl, (hb1.out.trans (hb3.out.mono hb1.out.size)).trans (hb.mono (Nat.le_trans hb1.out.size hb3.out.size))⟩
  · have hsb : (l == beb (rdX l) 8) = true := by rw [there_back l HL.out (bne_eq_false_iff_eq.1 hg)]; simp
    go_enter Try.func11, Try.ntmps11
    go_wp2_with fail
    refine (bytes_ok x _ HX.out hv).mono ?_
    rintro e w1 ⟨rfl, hw1⟩
    have hb1 := Lib.hid (show Below w.heap.size w w1 by rw [hw1]; exact (Below.refl _ _).alloc (Nat.le_refl _) _)
    have HS0 := Lib.hid (show Sl w1 (some ⟨w.heap.size, 0, none⟩) 8 (bl (beb x 8)) by
      rw [hw1]; have := Sl.new_ w 5 (bl (beb x 8)); rwa [show (bl (beb x 8)).length = 8 by simp [bl, beb_length]] at this)
    have HS1 := Lib.hid (HS.out.below hb1.out)
    have HBT := Lib.hid (back_there x HX.out hv)
    clear hw1
    go_wp2_with fail
    refine (read_any _ _ _ (beb x 8) _ (by decide) (beb_lt x 8) HS0.out).mono ?_
    rintro e w2 ⟨rfl, rfl⟩
    rw [HBT.out.1, HBT.out.2]
    go_wp2_with (first | (go_at_call 24; refine (rsame_any _ _ _).mono ?_; rintro e w' ⟨rfl, rfl⟩))
    refine (read_any _ _ _ l _ hn HL.out HS1.out).mono ?_
    rintro e w2 ⟨rfl, rfl⟩
    go_wp2_with fail
    refine (bytes_ok _ _ HZ.out HZV.out).mono ?_
    rintro e w3 ⟨rfl, hw3⟩
    have hb3 := Lib.hid (show Below w1.heap.size w1 w3 by rw [hw3]; exact (Below.refl _ _).alloc (Nat.le_refl _) _)
    have HS3 := Lib.hid (show Sl w3 (some ⟨w1.heap.size, 0, none⟩) 8 (bl (beb (rdX l) 8)) by
      rw [hw3]; have := Sl.new_ w1 5 (bl (beb (rdX l) 8)); rwa [show (bl (beb (rdX l) 8)).length = 8 by simp [bl, beb_length]] at this)
    have HS4 := Lib.hid (HS1.out.below hb3.out)
    clear hw3
    go_wp2_with (first | (go_at_call 31; refine (samebytes_any _ _ _ _ _ _ l (beb (rdX l) 8) _ HL.out (beb_lt _ 8) HS4.out HS3.out).mono ?_; rintro e w' ⟨rfl, rfl⟩) | (go_at_call 21; refine (known_any _).mono ?_; rintro e w' ⟨rfl, hb⟩))
    go_ret
    exact ⟨rfl, (hb1.out.trans (hb3.out.mono hb1.out.size)).trans (hb.mono (Nat.le_trans hb1.out.size hb3.out.size))⟩
  · go_enter Try.func11, Try.ntmps11
    go_wp2_with fail
    refine (bytes_ok x _ HX.out hv).mono ?_
    rintro e w1 ⟨rfl, hw1⟩
    have hb1 := Lib.hid (show Below w.heap.size w w1 by rw [hw1]; exact (Below.refl _ _).alloc (Nat.le_refl _) _)
    have HS0 := Lib.hid (show Sl w1 (some ⟨w.heap.size, 0, none⟩) 8 (bl (beb x 8)) by
      rw [hw1]; have := Sl.new_ w 5 (bl (beb x 8)); rwa [show (bl (beb x 8)).length = 8 by simp [bl, beb_length]] at this)
    have HS1 := Lib.hid (HS.out.below hb1.out)
    have HBT := Lib.hid (back_there x HX.out hv)
    clear hw1
    go_wp2_with fail
    refine (read_any _ _ _ (beb x 8) _ (by decide) (beb_lt x 8) HS0.out).mono ?_
    rintro e w2 ⟨rfl, rfl⟩
    rw [HBT.out.1, HBT.out.2]
    go_wp2_with (first | (go_at_call 24; refine (rsame_any _ _ _).mono ?_; rintro e w' ⟨rfl, rfl⟩))
    refine (read_any _ _ _ l _ hn HL.out HS1.out).mono ?_
    rintro e w2 ⟨rfl, rfl⟩
    go_wp2_with fail
    refine (bytes_ok _ _ HZ.out HZV.out).mono ?_
    rintro e w3 ⟨rfl, hw3⟩
    have hb3 := Lib.hid (show Below w1.heap.size w1 w3 by rw [hw3]; exact (Below.refl _ _).alloc (Nat.le_refl _) _)
    have HS3 := Lib.hid (show Sl w3 (some ⟨w1.heap.size, 0, none⟩) 8 (bl (beb (rdX l) 8)) by
      rw [hw3]; have := Sl.new_ w1 5 (bl (beb (rdX l) 8)); rwa [show (bl (beb (rdX l) 8)).length = 8 by simp [bl, beb_length]] at this)
    have HS4 := Lib.hid (HS1.out.below hb3.out)
    clear hw3
    go_wp2_with (first | (go_at_call 31; refine (samebytes_any _ _ _ _ _ _ l (beb (rdX l) 8) _ HL.out (beb_lt _ 8) HS4.out HS3.out).mono ?_; rintro e w' ⟨rfl, rfl⟩) | (go_at_call 21; refine (known_any _).mono ?_; rintro e w' ⟨rfl, hb⟩))
    go_ret
    exact ⟨rfl, (hb1.out.trans (hb3.out.mono hb1.out.size)).trans (hb.mono (Nat.le_trans hb1.out.size hb3.out.size))⟩
end Go.Proofs.Ytgcolbkgldcfiaa.Sc
