/- Joined texts. -/
import Derived.Test.YtjimhjfjfpeojaaGreatDoorQaAvHe
set_option linter.unusedVariables false
namespace Go.Proofs.YtjimhjfjfpeojaaGreatDoor.Av
open Go.RowKit Go.Proofs.YtjimhjfjfpeojaaGreatDoor.Gn Go.Proofs.YtjimhjfjfpeojaaGreatDoor.Fd Go.Proofs.YtjimhjfjfpeojaaGreatDoor.Ed Go.Deep
set_option maxRecDepth 100000 in
theorem c_decode {l : List Nat} (hl : ∀ x ∈ l, x < 256) (w : World) : FnAt Tryz.prog [.u64] w 13 [byt true l] (ofT (decO l)) := by
 refine FnAt.of Tryz.f13 _ _ Tryz.func13 Tryz.ntmps13 rfl (by kernel_rfl) (fun _ _ => by kernel_rfl) fun O => ?_
 show PW _ _ _ ⟨[(0, .c (.dv _))], []⟩
 refine (PW.seq ?_ : PW _ _ _ _)
 refine (PW.region ?_ : PW _ _ _ _)
 refine PL.full rfl (Fa.alloc 1 (z := (.agg #[.slice none 0 0, .slice none 0 0, .slice none 0 0])) rfl (by kernel_rfl) (by kernel_rfl) rfl rfl ?_)
 refine PL.mu rfl rfl rfl rfl rfl ?_
 refine PL.nil ?_
 refine (PW.seq ?_ : PW _ _ _ _)
 refine (PW.seq ?_ : PW _ _ _ _)
 refine (PW.region ?_ : PW _ _ _ _)
 refine PL.mv rfl rfl rfl rfl rfl ?_
 refine PL.step rfl rfl rfl (PS.len (n := l.length) rfl rfl Tryz.underlying22 (by decide) (by simp [bl])) ?_
 refine PL.step rfl rfl rfl (PS.neq rfl rfl rfl) ?_
 refine PL.nil ?_
 show PW _ _ _ _
 refine PW.cond (by rfl) (fun hc13 => ?_) (fun hc13 => ?_)
 ·have h32 : ¬ l.length = 32 := by have h := hc13; simp at h; omega
  refine (PW.seq ?_ : PW _ _ _ _)
  refine (PW.region ?_ : PW _ _ _ _)
  refine PL.step rfl rfl rfl (PS.build (xs := []) (zs := [.slice none 0 0, .slice none 0 0, .slice none 0 0]) [] _ rfl rfl Tryz.underlying34 (by kernel_rfl) (by kernel_rfl) (by kernel_rfl) rfl (by kernel_rfl) rfl) ?_
  refine PL.full rfl (Fa.storeR rfl rfl rfl rfl rfl rfl (by kernel_rfl) rfl ?_)
  refine PL.mu rfl rfl rfl rfl rfl ?_
  refine PL.nil ?_
  refine (PW.ret ?_ : PW _ _ _ _)
  exact Rt.as (Rt.cellTwo Tryz.results13 rfl rfl rfl Tryz.underlying34 rfl (by kernel_rfl)) (by unfold decO; rw [if_neg h32]; exact le_tup2 (le_pt le_zero le_zero le_zero) (le_refl _))
 have h32 : l.length = 32 := by have h := hc13; simp at h; omega
 refine (PW.skip ?_ : PW _ _ _ _)
 refine (PW.seq ?_ : PW _ _ _ _)
 refine (PW.region ?_ : PW _ _ _ _)
 refine PL.mu rfl rfl rfl rfl rfl ?_
 refine PL.nil ?_
 refine (PW.seq ?_ : PW _ _ _ _)
 refine (PW.region ?_ : PW _ _ _ _)
 refine PL.mv rfl rfl rfl rfl rfl ?_
 refine PL.mv rfl rfl rfl rfl rfl ?_
 refine PL.step rfl rfl rfl (PS.slice (lo := 0) (hi := 31) (kl := .i64) (kh := .i64) ((bl (l.take 31)).map .lit) rfl rfl (.inl ⟨rfl, rfl⟩) (.inr ⟨_, rfl, rfl⟩) Tryz.underlying22 (by kernel_rfl) (by decide) (by decide) (by simp [bl]; omega) (by simp [bl, List.map_take])) ?_
 refine PL.full rfl (Fa.app0 12 false (z := .int .u8 0) (e := 5) (bytes := 1) (k := 1) rfl rfl rfl Tryz.underlying22 (by kernel_rfl) rfl (by decide) (fun h => by cases h) (byt_one _) (fun h => by cases h) (by decide) (by simp [bl]; omega) (by kernel_rfl) rfl rfl ?_)
 refine PL.mu rfl rfl rfl rfl rfl ?_
 refine PL.nil ?_
 refine (PW.seq ?_ : PW _ _ _ _)
 refine (PW.region ?_ : PW _ _ _ _)
 refine PL.mv rfl rfl rfl rfl rfl ?_
 refine PL.mv rfl rfl rfl rfl rfl ?_
 refine PL.step rfl rfl rfl (PS.index1 (i := 31) (.lit (.int .u8 ((l.getD 31 0 : Nat) : Int))) rfl rfl rfl Tryz.underlying22 (by kernel_rfl) (byt_get (by omega))) ?_
 refine PL.step rfl rfl rfl (PS.loadA rfl rfl Tryz.underlying5 rfl) ?_
 refine PL.step rfl rfl rfl (PS.remN (a := l.getD 31 0) (b := 128) rfl rfl rfl (by decide)) ?_
 refine PL.step rfl rfl rfl (PS.buildSlice (parts := [(0, _)]) (xs := [_]) (z := (.int .u8 0)) (bytes := 1) rfl rfl rfl Tryz.underlying22 (by kernel_rfl) rfl (by kernel_rfl) (by kernel_rfl)) ?_
 refine PL.full rfl (Fa.app 13 (z := .int .u8 0) (e := 5) (bytes := 1) (k := 1) rfl rfl rfl rfl Tryz.underlying22 (by kernel_rfl) rfl (by decide) (fun h => by cases h) (by intro y hy; simp at hy; subst hy; rfl) (fun h => by cases h) (by decide) (by simp [bl]; omega) (by kernel_rfl) rfl rfl ?_)
 refine PL.mu rfl rfl rfl rfl rfl ?_
 refine PL.nil ?_
 refine (PW.seq ?_ : PW _ _ _ _)
 refine PW.give 13 rfl ?_
 have hL : ((bl (l.take 31)).map DV.lit ++ [DV.lit (.int .u8 ((l.getD 31 0 % 128 : Nat) : Int))]) = (bl (low l)).map DV.lit := by rw [low_split h32]; simp [bl]
 have h32l : (low l).length = 32 := by rw [low_len]; exact h32
 by_cases hm : le (low l) < pp
 ·skip
  refine (PW.region ?_ : PW _ _ _ _)
  refine PL.mv rfl rfl rfl rfl rfl ?_
  refine PL.call (xs := [_]) rfl rfl rfl rfl rfl rfl rfl (fun w hw => FnAt.les (c_rdec1 (l := low l) h32l (low_byte hl) hm w) ⟨le_eq (by unfold byt; rw [← hL]), trivial⟩) ?_
  refine PL.mv rfl rfl rfl rfl rfl ?_
  refine PL.step rfl rfl rfl (PS.ext rfl rfl rfl) ?_
  refine PL.step rfl rfl rfl (PS.ext rfl rfl rfl) ?_
  refine PL.full rfl (Fa.alloc 2 (z := (.agg #[.int .u64 0, .int .u64 0, .int .u64 0, .int .u64 0, .int .u64 0])) rfl (by kernel_rfl) (by kernel_rfl) rfl rfl ?_)
  refine PL.full rfl (Fa.storeH 5 rfl rfl rfl rfl rfl (el_row _) (by kernel_rfl) rfl ?_)
  refine PL.mu rfl rfl rfl rfl rfl ?_
  refine PL.nil ?_
  refine (PW.seq ?_ : PW _ _ _ _)
  refine (PW.seq ?_ : PW _ _ _ _)
  refine (PW.region ?_ : PW _ _ _ _)
  refine PL.mv rfl rfl rfl rfl rfl ?_
  refine PL.step rfl rfl rfl (PS.neq rfl rfl rfl) ?_
  refine PL.nil ?_
  show PW _ _ _ _
  refine PW.cond (b := false) (by rfl) (fun h => nomatch h) (fun _ => ?_)
  refine (PW.skip ?_ : PW _ _ _ _)
  refine (PW.seq ?_ : PW _ _ _ _)
  refine (PW.drawn 9 (by kernel_rfl) (by kernel_rfl) (by kernel_rfl) (by kernel_rfl) (by kernel_rfl) ?_ : PW _ _ _ _)
  refine PD.mv rfl rfl rfl rfl rfl ?_
  refine PD.call (xs := [_]) rfl rfl rfl rfl rfl rfl rfl (fun w hw => FnAt.les (c_number (r := true) (l := low l) (by omega) (low_byte hl) w) ⟨le_eq (by unfold byt; rw [← hL]), trivial⟩) ?_
  refine PD.mv rfl rfl rfl rfl rfl ?_
  refine PD.step rfl rfl rfl (PS.index1 (i := 31) (.lit (.int .u8 ((l.getD 31 0 : Nat) : Int))) rfl rfl rfl Tryz.underlying22 (by kernel_rfl) (byt_get (by omega))) ?_
  refine PD.step rfl rfl rfl (PS.loadA rfl rfl Tryz.underlying5 rfl) ?_
  refine PD.step rfl rfl rfl (PS.eq (y := Bo (decide (127 < l.getD 31 0))) (PS.gtr rfl rfl rfl) (by rw [show (127 : Int) = ((127 : Nat) : Int) from rfl, dec_i])) ?_
  refine PD.call (xs := [_, _]) rfl rfl rfl rfl rfl rfl rfl (fun w hw => c_Of (y := le (low l)) (decide (127 < l.getD 31 0)) hm w) ?_
  refine PD.step rfl rfl rfl (PS.ext rfl rfl rfl) ?_
  refine PD.step rfl rfl rfl (PS.ext rfl rfl rfl) ?_
  refine PD.full rfl (Fa.storeR rfl rfl rfl rfl rfl rfl (by kernel_rfl) rfl ?_)
  refine PD.step0 rfl rfl rfl (PS.assigned (r := .c _) rfl rfl) ?_
  refine PD.nil ?_
  refine (PW.ret ?_ : PW _ _ _ _)
  exact Rt.as (Rt.cellTwo Tryz.results13 rfl rfl rfl Tryz.underlying34 rfl (by kernel_rfl)) (by unfold decO decT; rw [if_pos h32, if_pos hm]; cases rof (le (low l)) (decide (127 < l.getD 31 0)) <;> exact le_refl _)
 ·skip
  refine (PW.region ?_ : PW _ _ _ _)
  refine PL.mv rfl rfl rfl rfl rfl ?_
  refine PL.call (xs := [_]) rfl rfl rfl rfl rfl rfl rfl (fun w hw => FnAt.les (c_rdec2 (l := low l) h32l (low_byte hl) hm w) ⟨le_eq (by unfold byt; rw [← hL]), trivial⟩) ?_
  refine PL.mv rfl rfl rfl rfl rfl ?_
  refine PL.step rfl rfl rfl (PS.ext rfl rfl rfl) ?_
  refine PL.step rfl rfl rfl (PS.ext rfl rfl rfl) ?_
  refine PL.full rfl (Fa.alloc 3 (z := (.agg #[.int .u64 0, .int .u64 0, .int .u64 0, .int .u64 0, .int .u64 0])) rfl (by kernel_rfl) (by kernel_rfl) rfl rfl ?_)
  refine PL.full rfl (Fa.storeH 5 rfl rfl rfl rfl rfl z5_row (by kernel_rfl) rfl ?_)
  refine PL.mu rfl rfl rfl rfl rfl ?_
  refine PL.nil ?_
  refine (PW.seq ?_ : PW _ _ _ _)
  refine (PW.seq ?_ : PW _ _ _ _)
  refine (PW.region ?_ : PW _ _ _ _)
  refine PL.mv rfl rfl rfl rfl rfl ?_
  refine PL.step rfl rfl rfl (PS.neq rfl rfl rfl) ?_
  refine PL.nil ?_
  show PW _ _ _ _
  refine PW.cond (b := true) (by rfl) (fun _ => ?_) (fun h => nomatch h)
  refine (PW.seq ?_ : PW _ _ _ _)
  refine (PW.region ?_ : PW _ _ _ _)
  refine PL.step rfl rfl rfl (PS.build (xs := []) (zs := [.slice none 0 0, .slice none 0 0, .slice none 0 0]) [] _ rfl rfl Tryz.underlying34 (by kernel_rfl) (by kernel_rfl) (by kernel_rfl) rfl (by kernel_rfl) rfl) ?_
  refine PL.full rfl (Fa.storeR rfl rfl rfl rfl rfl rfl (by kernel_rfl) rfl ?_)
  refine PL.mu rfl rfl rfl rfl rfl ?_
  refine PL.nil ?_
  refine (PW.ret ?_ : PW _ _ _ _)
  exact Rt.as (Rt.cellTwo Tryz.results13 rfl rfl rfl Tryz.underlying34 rfl (by kernel_rfl)) (by unfold decO decT; rw [if_pos h32, if_neg hm]; exact le_tup2 (le_pt le_zero le_zero le_zero) (le_refl _))
set_option maxRecDepth 100000 in
theorem c_samebytes {r s : Bool} {l k : List Nat} (hl : ∀ x ∈ l, x < 256) (hk : ∀ x ∈ k, x < 256) (w : World) : FnAt Tryz.prog [] w 15 [byt r l, byt s k] (.lit (.bool (decide (l = k)))) := by
 refine FnAt.of Tryz.f15 _ _ Tryz.func15 Tryz.ntmps15 rfl (by kernel_rfl) (fun _ _ => by kernel_rfl) fun O => ?_
 show PW _ _ _ ⟨[(0, .c (.dv _)), (1, .c (.dv _))], []⟩
 refine (PW.seq ?_ : PW _ _ _ _)
 refine (PW.region ?_ : PW _ _ _ _)
 refine PL.mu rfl rfl rfl rfl rfl ?_
 refine PL.nil ?_
 refine (PW.seq ?_ : PW _ _ _ _)
 refine (PW.region ?_ : PW _ _ _ _)
 refine PL.mv rfl rfl rfl rfl rfl ?_
 refine PL.step rfl rfl rfl (PS.str (l := l) rfl rfl Tryz.underlying22 Tryz.underlying5 Tryz.underlying9) ?_
 refine PL.mv rfl rfl rfl rfl rfl ?_
 refine PL.step rfl rfl rfl (PS.str (l := k) rfl rfl Tryz.underlying22 Tryz.underlying5 Tryz.underlying9) ?_
 refine PL.step rfl rfl rfl (PS.seq rfl rfl rfl) ?_
 refine PL.mu rfl rfl rfl rfl rfl ?_
 refine PL.nil ?_
 refine (PW.ret ?_ : PW _ _ _ _)
 exact Rt.as (Rt.one Tryz.results15 rfl) (bool_le (txt_dec hl hk))
end Go.Proofs.YtjimhjfjfpeojaaGreatDoor.Av
