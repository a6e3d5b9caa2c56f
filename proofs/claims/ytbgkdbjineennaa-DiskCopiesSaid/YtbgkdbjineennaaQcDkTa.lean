/- Joined texts. -/
import Derived.Test.YtbgkdbjineennaaQcDkRj
set_option linter.unusedVariables false
namespace Go.Proofs.Ytbgkdbjineennaa.Dk
open Go.IntWalk Go.RowKit Go.Proofs.Ytbgkdbjineennaa.Gn Go.Proofs.Ytbgkdbjineennaa.Fd Go.Deep
theorem chunks:∀(s:Nat) (L:List Nat),L.length=64*s→∃ss:List (List Nat),ss.flatten=L∧(∀x∈ss,x.length=64)∧ss.length=s
 |0,L,h=>⟨[],by simp at h;simp[h],(fun x hx=>by cases hx),rfl⟩
 |s+1,L,h=>by
  obtain⟨ss,h1,h2,h3⟩:=chunks s (L.drop 64) (by rw[List.length_drop];omega)
  refine⟨L.take 64 :: ss,by rw[List.flatten_cons,h1,List.take_append_drop],fun x hx=>?_,by rw[List.length_cons,h3]⟩
  rcases List.mem_cons.1 hx with rfl|hx
  ·rw[List.length_take];omega
  ·exact h2 x hx
def NewQ(w:World)(s:Nat)(e:Ending)(w':World):Prop:=∃g gb M0,e=.returned (.tuple #[.pointer (some ⟨g,0,none⟩),.int .i64 0])∧Dd w' w.heap.size g gb (.slice none 0 0) false 0 (.slice none 0 0) M0∧M0.hd=[]∧M0.st=0∧M0.ss.length=s∧gb < w'.heap.size∧Below w.heap.size w w'
theorem new_made(w w':World)(s:Nat)(hs1:1≤s)(hs9:s≤100)(L:List Nat)(hL:L.length=64*s)(hb:Bl w' w.heap.size 5 (bl L).toArray)(hd:DB w' (w.heap.size+1) w.heap.size (64*s) (64*s) (.slice none 0 0) true 0 false 0 (.slice none 0 0))(hB:Below w.heap.size w w'):NewQ w s (.returned (.tuple #[.pointer (some ⟨w.heap.size+1,0,none⟩),.int .i64 0])) w':=by
 obtain⟨ss,h1,h2,h3⟩:=chunks s L hL
 refine⟨_,w.heap.size,⟨ss,[],true,0,none,64*s,[]⟩,rfl,⟨?_,?_,⟨rfl,.inl ⟨rfl,rfl⟩⟩,⟨rfl,rfl,rfl⟩,⟨h2,(fun x hx=>by cases hx),(fun x hx=>by cases hx),by show 64*ss.length≤64*s;omega⟩,?_,?_,Nat.le_succ _,Nat.le_refl _,by omega,(fun e=>by cases e),(fun e=>by cases e),(fun e=>by cases e),(fun e=>by cases e),(fun b e=>by cases e)⟩,rfl,rfl,h3,Bl.lt hb,hB⟩
 ·show DB w' (w.heap.size+1) w.heap.size (64*ss.length) (64*s) _ true ((0:Nat):Int) false 0 _
  rw[h3];exact hd
 ·show Bl w' w.heap.size 5 (bl ss.flatten ++ []).toArray
  rw[h1,List.append_nil];exact hb
 ·show 0 < ss.length
  omega
 ·show ss.length≤100000
  omega
set_option maxRecDepth 100000 in
theorem New_no(B:Option Addr)(m cap:Nat)(s:Int)(w:World)(hs9:s≤100)(hm:m≤1500)(hb:s < 1∨64*s < m):Calls Try.prog 29 #[.slice B m cap,.int .i64 s] w fun e w'=>e=.returned (.tuple #[.pointer none,.int .i64 1])∧w=w':=by
 by_cases h1:s < 1
 ·clear hb
  go_enter Try.func29,Try.ntmps29
  go_wp2_with fail
  go_ret2
  exact⟨rfl,rfl⟩
 ·have h2:¬(16384:Int) < s:=by omega
  have h3:s*64 < (m:Int):=by omega
  clear hb
  go_enter Try.func29,Try.ntmps29
  go_wp2_with fail
  go_ret2
  exact⟨rfl,rfl⟩
set_option maxRecDepth 100000 in
set_option maxHeartbeats 4000000 in
theorem New_dd (w : World) (B : Option Addr) (m cap : Nat) (l : List Nat) (hB : Sl w B m (bl l)) (s : Nat) (hs1 : 1 ≤ s) (hs9 : s ≤ 100) (hm : m ≤ 64 * s) : Calls Try.prog 29 #[.slice B m cap, .int .i64 (s : Int)] w (NewQ w s) := by
  have hmk : ∀ w, (Instr.makeSlice 22 (.int .i64 ((s : Int) * 64)) (.int .i64 ((s : Int) * 64))).run Try.prog w = .ok (.slice (some ⟨w.heap.size, 0, none⟩) (64 * s) (64 * s)) (w.alloc (.cells (madeCells #[.int .u8 0] (64 * s)) 5)) := by
    intro w
    rw [show (s : Int) * 64 = ((64 * s : Nat) : Int) by omega]
    exact run_make_row' (P := Try.prog) 22 5 (.int .u8 0) 1 Try.underlying22 infob rfl .i64 .i64 (64 * s) (by omega) (by omega) w
  obtain ⟨Z, hZ0⟩ : ∃ Z, Z = List.replicate (64 * s) 0 := ⟨_, rfl⟩
  have hZl : Z.length = 64 * s := by rw [hZ0, List.length_replicate]
  have hz : madeCells #[Value.int .u8 0] (64 * s) = (bl Z).toArray := by
    apply Array.toList_inj.1
    rw [toList_madeCells_one, hZ0]; unfold bl; simp
  rw [hz] at hmk
  have hll : l.length = m := by have := hB.1; rwa [bl_length] at this
  have RR : RB ((w.alloc (.cells (bl Z).toArray 5)).alloc (.cells (dsk w.heap.size (64 * s) (64 * s) (.slice none 0 0) true 0 false 0 (.slice none 0 0)) 60)) w.heap.size Z := Bl.alloc (Bl.new_ w _ _) _
  have RD : DB ((w.alloc (.cells (bl Z).toArray 5)).alloc (.cells (dsk w.heap.size (64 * s) (64 * s) (.slice none 0 0) true 0 false 0 (.slice none 0 0)) 60)) (w.heap.size + 1) w.heap.size (64 * s) (64 * s) (.slice none 0 0) true 0 false 0 (.slice none 0 0) := by have := Bl.new_ (w.alloc (.cells (bl Z).toArray 5)) 60 (dsk w.heap.size (64 * s) (64 * s) (.slice none 0 0) true 0 false 0 (.slice none 0 0)); rwa [World.size_alloc] at this
  have RW : Below w.heap.size w ((w.alloc (.cells (bl Z).toArray 5)).alloc (.cells (dsk w.heap.size (64 * s) (64 * s) (.slice none 0 0) true 0 false 0 (.slice none 0 0)) 60)) := ((Below.refl _ w).alloc (Nat.le_refl _) _).alloc (by simp) _
  have SB := Lib.hid (hB.below RW)
  have q1 : ¬ ((s : Int) < 1) := by omega
  have q2 : ¬ (16384 : Int) < (s : Int) := by omega
  have q3 : ¬ (s : Int) * 64 < (m : Int) := by omega
  have RD0 := Lib.hid RD
  have RR0 := Lib.hid RR
  have RW0 := Lib.hid RW
  by_cases hm0 : m = 0
  · have hcp : ∀ (w : World) (g : Nat), (Builtin.copy_ #[22, 22] 3 #[.slice (some ⟨g, 0, none⟩) (64 * s) (64 * s), .slice B m cap]).run Try.prog w = .ok (goInt 0) w := fun w g =>
      run_copy_none (P := Try.prog) w 22 22 3 5 _ _ (64 * s) (64 * s) m cap Try.underlying22 (by kernel_rfl) (by rw [hm0]; exact Nat.zero_min _)
    have FIN := Lib.hid (new_made w _ s hs1 hs9 Z hZl RR RD RW)
    obtain ⟨ZC, hZC⟩ : ∃ ZC, (bl Z).toArray = ZC := ⟨_, rfl⟩
    rw [hZC] at hmk FIN
    clear hz hZ0 hZC RR RD RW hB SB RD0 RR0 RW0 hZl hll hm hm0
    go_enter Try.func29, Try.ntmps29
    go_wp2_with fail
    go_ret2
    exact FIN.out
  · obtain ⟨ad, rfl, -⟩ := hB.at_ (by omega : 0 < m)
    have FIN := Lib.hid (fun (w' : World) (h1 : Bl w' w.heap.size 5 (spl (bl Z).toArray 0 ((bl l).take m))) (h2 : World.grownBy _ w' (some w.heap.size)) => new_made w w' s hs1 hs9 (l ++ Z.drop m) (by rw [List.length_append, List.length_drop, hll, hZl]; omega)
      (by rw [List.take_of_length_le (by rw [bl_length]; omega), spl_eq _ _ _ (by rw [List.size_toArray, bl_length, bl_length]; omega)] at h1
          rw [bl_append, ← bl_drop]
          simpa [bl_length, hll] using h1)
      (RD.grown h2 (by simp)) (RW.grown h2 RW.size (fun k e => by cases e; exact Nat.le_refl _)))
    have HF := Lib.hid (show 0 + m ≤ (bl Z).toArray.size by rw [List.size_toArray, bl_length]; omega)
    have HM := Lib.hid (show m = Nat.min m (64 * s) from (Nat.min_eq_left hm).symm)
    obtain ⟨ZC, hZC⟩ : ∃ ZC, (bl Z).toArray = ZC := ⟨_, rfl⟩
    have RR1 := Lib.hid (show Bl ((w.alloc (.cells (bl Z).toArray 5)).alloc (.cells (dsk w.heap.size (64 * s) (64 * s) (.slice none 0 0) true 0 false 0 (.slice none 0 0)) 60)) w.heap.size 5 (bl Z).toArray from RR)
    rw [hZC] at hmk FIN RR1 SB HF
    clear hz hZ0 hZC RR RD RW hB RD0 RR0 RW0 hZl hll hm hm0
    go_enter Try.func29, Try.ntmps29
    go_wp2_with (refine wpList_copy_bl rfl (.tmp 28) (.tmp 29) 22 22 rfl 5 Try.underlying22 (by kernel_rfl) w.heap.size 0 (64 * s) (64 * s) ad m cap rfl rfl 5 ZC RR1.out (bl l) SB.out m HM.out HF.out (bl_one l) ?_; intro w2 h2 h3; have K := Lib.hid (FIN.out w2 h2 h3); clear h2 h3)
    go_ret2
    exact K.out
end Go.Proofs.Ytbgkdbjineennaa.Dk
