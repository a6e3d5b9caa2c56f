/- Joined texts. -/
import Derived.Deep.RegionWith
import Derived.Deep.RegionHeld3
import Derived.Test.YteblmphohhbgcaaQaWrValue
set_option linter.unusedVariables false
namespace Go.Proofs.Yteblmphohhbgcaa.Wr
open Go.RowKit Go.Proofs.Yteblmphohhbgcaa.Gn Go.Proofs.Yteblmphohhbgcaa.Fd Go.Deep
def WvQ(r:Int × Int)(w:World)(g:Nat)(a b c d:Int)(l:List Nat)(T:Value)(bs:List Nat)(e:Ending)(w':World):Prop :=
 ∃T',Fr w w' g T T'∧Below g w w'∧((r.1=0∧e=.returned (.tuple #[])∧Wt w' g a b c d r.2 (l ++ bs) T')∨(r.1≠0∧∃at_,e=pan at_ r.1))
set_option maxHeartbeats 4000000 in
set_option maxRecDepth 100000 in
theorem wvalue_head{w:World}{g:Nat}{a b c d k:Int}{l:List Nat}{T:Value}(h:Wt w g a b c d k l T)(K:Nat)(n:Nat)(r:Rw)(A:Option Addr)(m cc:Nat)(deep:Int)(hd:¬b < deep)(hk:¬k=c)(k0:0≤k)(k1:k≤1000000)(kk:Hid ((K:Int)=1))(hl:l.length≤800000)(hn:n < 18446744073709551616) :
  Calls Try.prog 80 #[.pointer (some ⟨g,0,none⟩),.agg #[.int .i64 (K:Int),.int .u64 (n:Int),.slice r.1 r.2.1 r.2.2.1,.slice A m cc],.int .i64 deep] w (WvQ (0,k+1) w g a b c d l T (K :: cb n)):=by
 obtain⟨E,cap,rfl,-, -, -, -, -⟩:=Sl.own h.own
 obtain⟨i0,hi,hz0,hz1,hz2⟩:=info_parts infob8
 have B0:=Lib.hid (below_one w (.cells #[.int .i64 (K:Int),.int .u64 (n:Int),.slice r.1 r.2.1 r.2.2.1,.slice A m cc] 80))
 have B0d:=Lib.hid (below_drewN B0.out 1)
 have CB:=Lib.hid (fun(u:World) (hu:Below w.heap.size w u) (x:Int)=>wbegin_ok (h.below hu) x deep hd hk k0 k1)
 have c5:(w.alloc (.cells #[.int .i64 (K:Int),.int .u64 (n:Int),.slice r.1 r.2.1 r.2.2.1,.slice A m cc] 80)).cell? ⟨g,5,none⟩=some (.slice E l.length cap):=(h.row.alloc _).cell_ rfl
 have glt:g < w.heap.size:=Bl.lt (t:=121) h.row
 have N0:=Lib.hid (Bl.new_ w 80 #[.int .i64 (K:Int),.int .u64 (n:Int),.slice r.1 r.2.1 r.2.2.1,.slice A m cc])
 have HW:=Lib.hid h
 have wk:IntKind.u8.wrap (K:Int)=(K:Int):=by rw[kk.out];rfl
 clear h hd hk k1
 go_enter Try.func80,Try.ntmps80
 go_wp2_with fail
 refine wp_region_held_drew (S:=fun _=>True) (by kernel_rfl) trivial (fun _=>?_)
 refine take_l 0 (v:=?_) rfl (by kernel_rfl) (by kernel_rfl) (by kernel_rfl) (fun _ _ _ h=>h) (Or.inl ⟨by rfl,?_⟩) trivial ?_;rotate_left
 ·intro w' hSw
  go_simp
  all_goals with_reducible rfl
 try simp only[Act.put,List.setIfInBounds_toArray,List.set_cons_zero,List.set_cons_succ]
 refine take_l 1 (v:=?_) rfl (by kernel_rfl) (by kernel_rfl) (by kernel_rfl) (fun _ _ _ h=>h) (Or.inl ⟨by rfl,?_⟩) trivial ?_;rotate_left
 ·intro w' hSw
  go_simp
  all_goals with_reducible rfl
 try simp only[Act.put,List.setIfInBounds_toArray,List.set_cons_zero,List.set_cons_succ]
 refine take_l 2 (v:=?_) rfl (by kernel_rfl) (by kernel_rfl) (by kernel_rfl) (fun _ _ _ h=>h) (Or.inl ⟨by rfl,?_⟩) trivial ?_;rotate_left
 ·intro w' hSw
  go_simp
  all_goals with_reducible rfl
 try simp only[Act.put,List.setIfInBounds_toArray,List.set_cons_zero,List.set_cons_succ]
 refine take_l 3 (v:=?_) rfl (by kernel_rfl) (by kernel_rfl) (by kernel_rfl) (fun _ _ _ h=>h) (Or.inl ⟨by rfl,?_⟩) trivial ?_;rotate_left
 ·intro w' hSw
  go_simp
  all_goals with_reducible rfl
 try simp only[Act.put,List.setIfInBounds_toArray,List.set_cons_zero,List.set_cons_succ]
 refine take_l 4 (v:=?_) rfl (by kernel_rfl) (by kernel_rfl) (by kernel_rfl) (fun _ _ _ h=>h) (Or.inl ⟨by rfl,?_⟩) trivial ?_;rotate_left
 ·intro w' hSw
  go_simp
  all_goals with_reducible rfl
 try simp only[Act.put,List.setIfInBounds_toArray,List.set_cons_zero,List.set_cons_succ]
 refine take_l 5 (v:=?_) rfl (by kernel_rfl) (by kernel_rfl) (by kernel_rfl) (fun _ _ _ h=>h) (Or.inl ⟨by rfl,?_⟩) trivial ?_;rotate_left
 ·intro w' hSw
  go_simp
  all_goals with_reducible rfl
 try simp only[Act.put,List.setIfInBounds_toArray,List.set_cons_zero,List.set_cons_succ]
 refine take_l 8 (v:=?_) rfl (by kernel_rfl) (by kernel_rfl) (by kernel_rfl) (fun _ _ _ h=>h) (Or.inl ⟨by rfl,?_⟩) trivial ?_;rotate_left
 ·intro w' hSw
  go_simp
  all_goals with_reducible rfl
 try simp only[Act.put,List.setIfInBounds_toArray,List.set_cons_zero,List.set_cons_succ]
 refine wpAnyH_ready (rs:=[6]) (by kernel_rfl) (by simp) ?_
 refine cons_l rfl (fun K0 hK=>?_) AllReadyH.nil
 go_simp
 refine hK.out _ _ trivial (fun _=>?_)
 clear hK K0
 try simp only[Act.put,List.setIfInBounds_toArray,List.set_cons_zero,List.set_cons_succ]
 refine take_l 7 (v:=?_) rfl (by kernel_rfl) (by kernel_rfl) (by kernel_rfl) (fun _ _ _ h=>h) (Or.inl ⟨by rfl,?_⟩) trivial ?_;rotate_left
 ·intro w' hSw
  go_simp
  all_goals with_reducible rfl
 try simp only[Act.put,List.setIfInBounds_toArray,List.set_cons_zero,List.set_cons_succ]
 refine wpAnyH_ready (rs:=[9]) (by kernel_rfl) (by simp) ?_
 refine cons_l rfl (fun K0 hK=>?_) AllReadyH.nil
 go_simp
 (go_at_call 91;(refine(CB.out _ B0d.out _).mono ?_);rintro e w1 ⟨rfl,h1,h2,h3⟩)
 have W1:=Lib.hid h1
 have F1:=Lib.hid h2
 have B1:=Lib.hid h3
 clear h1 h2 h3
 refine hK.out _ _ trivial (fun _=>?_)
 clear hK K0
 try simp only[Act.put,List.setIfInBounds_toArray,List.set_cons_zero,List.set_cons_succ]
 refine wpAnyH_done (by kernel_rfl) ?_ _
 have F2:=Lib.hid ((Fr.of g (.slice E l.length cap) B0d.out).trans F1.out)
 have B2:=Lib.hid ((B0d.out.mono (Nat.le_of_lt glt)).trans B1.out)
 have O1:=Lib.hid HW.out.own
 have N1:=Lib.hid (show Bl w1 w.heap.size 80 _ from F1.out.bl (q:=w.heap.size) (t:=80) (cs:=#[.int .i64 (K:Int),.int .u64 (n:Int),.slice r.1 r.2.1 r.2.2.1,.slice A m cc]) N0.out (by omega) (own_lt HW.out.own (Nat.le_refl _)))
 have N1c:w1.cell? ⟨w.heap.size,0,none⟩=some (.int .i64 (K:Int)):=N1.out.cell_ rfl
 have c51:w1.cell? ⟨g,5,none⟩=some (.slice E l.length cap):=W1.out.row.cell_ rfl
 have BA:=Lib.hid (show Below w1.heap.size w1 (w1.alloc (.cells #[.int .u8 (K:Int)] 5)).drew from((Below.refl _ w1).alloc (Nat.le_refl _) _).drew)
 have NA:=Lib.hid (show Bl (w1.alloc (.cells #[.int .u8 (K:Int)] 5)).drew w.heap.size 80 _ from N1.out.below' BA.out)
 have NAc:(w1.alloc (.cells #[.int .u8 (K:Int)] 5)).cell? ⟨w.heap.size,0,none⟩=some (.int .i64 (K:Int)):=NA.out.cell_ rfl
 have RA:=Lib.hid (W1.out.row.below' BA.out)
 have OA:=Lib.hid (own_below W1.out.own BA.out)
 have c5A:(w1.alloc (.cells #[.int .u8 (K:Int)] 5)).cell? ⟨g,5,none⟩=some (.slice E l.length cap):=RA.out.cell_ rfl
 have SA:=Lib.hid (show Sl (w1.alloc (.cells #[.int .u8 (K:Int)] 5)).drew (some ⟨w1.heap.size,0,none⟩) 1 (bl [K]) from Sl.new_ w1 5 (bl [K]))
 have WAs:=Lib.hid (show w.heap.size < w1.heap.size∧w1.heap.size < (w1.alloc (.cells #[.int .u8 (K:Int)] 5)).drew.heap.size from⟨N1.out.lt,by show _ < (w1.alloc _).heap.size;simp⟩)
 go_upto_region 2 with fail
 apply region_cut (I:=fun(E4:Option Addr) (cap4:Nat) w'=>Wt w' g a b c d (k+1) (l ++ [K]) (.slice E4 (l.length+1) cap4)∧Fr w w' g (.slice E l.length cap) (.slice E4 (l.length+1) cap4)∧Below g w w'∧Bl w' w.heap.size 80 #[.int .i64 (K:Int),.int .u64 (n:Int),.slice r.1 r.2.1 r.2.2.1,.slice A m cc])
 ·refine wp_region_held_drew (S:=fun w'=>w'.cell? ⟨w.heap.size,0,none⟩=some (.int .i64 (K:Int))) (by kernel_rfl) (by exact N1c) (fun _=>?_)
  refine take_l 0 (v:=?_) rfl (by kernel_rfl) (by kernel_rfl) (by kernel_rfl) (fun _ _ _ h=>h) (Or.inl ⟨by rfl,?_⟩) (by show World.cell? _ _=_;first|exact N1c|exact NAc|exact N4c|exact N5c) ?_;rotate_left
  ·intro w' hSw
   replace hSw:w'.cell? ⟨w.heap.size,0,none⟩=some (.int .i64 (K:Int)):=hSw
   go_simp
   all_goals with_reducible rfl
  try simp only[Act.put,List.setIfInBounds_toArray,List.set_cons_zero,List.set_cons_succ]
  refine take_l 1 (v:=?_) rfl (by kernel_rfl) (by kernel_rfl) (by kernel_rfl) (fun _ _ _ h=>h) (Or.inl ⟨by rfl,?_⟩) (by show World.cell? _ _=_;first|exact N1c|exact NAc|exact N4c|exact N5c) ?_;rotate_left
  ·intro w' hSw
   replace hSw:w'.cell? ⟨w.heap.size,0,none⟩=some (.int .i64 (K:Int)):=hSw
   go_simp
   all_goals with_reducible rfl
  try simp only[Act.put,List.setIfInBounds_toArray,List.set_cons_zero,List.set_cons_succ]
  refine take_l 2 (v:=?_) rfl (by kernel_rfl) (by kernel_rfl) (by kernel_rfl) (fun _ _ _ h=>h) (Or.inl ⟨by rfl,?_⟩) (by show World.cell? _ _=_;first|exact N1c|exact NAc|exact N4c|exact N5c) ?_;rotate_left
  ·intro w' hSw
   replace hSw:w'.cell? ⟨w.heap.size,0,none⟩=some (.int .i64 (K:Int)):=hSw
   go_simp
   all_goals with_reducible rfl
  try simp only[Act.put,List.setIfInBounds_toArray,List.set_cons_zero,List.set_cons_succ]
  refine take_l 3 (v:=?_) rfl (by kernel_rfl) (by kernel_rfl) (by kernel_rfl) (fun _ _ _ h=>h) (Or.inl ⟨by rfl,?_⟩) (by show World.cell? _ _=_;first|exact N1c|exact NAc|exact N4c|exact N5c) ?_;rotate_left
  ·intro w' hSw
   replace hSw:w'.cell? ⟨w.heap.size,0,none⟩=some (.int .i64 (K:Int)):=hSw
   go_simp
   all_goals with_reducible rfl
  try simp only[Act.put,List.setIfInBounds_toArray,List.set_cons_zero,List.set_cons_succ]
  refine take_l 5 (v:=?_) rfl (by kernel_rfl) (by kernel_rfl) (by kernel_rfl) (fun _ _ _ h=>h) (Or.inl ⟨by rfl,?_⟩) (by show World.cell? _ _=_;first|exact N1c|exact NAc|exact N4c|exact N5c) ?_;rotate_left
  ·intro w' hSw
   replace hSw:w'.cell? ⟨w.heap.size,0,none⟩=some (.int .i64 (K:Int)):=hSw
   go_simp
   all_goals with_reducible rfl
  try simp only[Act.put,List.setIfInBounds_toArray,List.set_cons_zero,List.set_cons_succ]
  refine take_l 6 (v:=?_) rfl (by kernel_rfl) (by kernel_rfl) (by kernel_rfl) (fun _ _ _ h=>h) (Or.inl ⟨by rfl,?_⟩) (by show World.cell? _ _=_;first|exact N1c|exact NAc|exact N4c|exact N5c) ?_;rotate_left
  ·intro w' hSw
   replace hSw:w'.cell? ⟨w.heap.size,0,none⟩=some (.int .i64 (K:Int)):=hSw
   go_simp
   all_goals with_reducible rfl
  try simp only[Act.put,List.setIfInBounds_toArray,List.set_cons_zero,List.set_cons_succ]
  refine take_l 7 (v:=?_) rfl (by kernel_rfl) (by kernel_rfl) (by kernel_rfl) (fun _ _ _ h=>h) (Or.inl ⟨by rfl,?_⟩) (by show World.cell? _ _=_;first|exact N1c|exact NAc|exact N4c|exact N5c) ?_;rotate_left
  ·intro w' hSw
   replace hSw:w'.cell? ⟨w.heap.size,0,none⟩=some (.int .i64 (K:Int)):=hSw
   go_simp
   all_goals with_reducible rfl
  try simp only[Act.put,List.setIfInBounds_toArray,List.set_cons_zero,List.set_cons_succ]
  refine wpAnyH_ready (rs:=[4,8]) (by kernel_rfl) (by simp) ?_
  refine cons_l rfl (fun K0 hK=>?_) (cons_l rfl (fun K0 hK=>?_) AllReadyH.nil)
  ·go_simp
   refine hK.out _ _ (by show World.cell? _ _=_;first|exact N1c|exact NAc|exact N4c|exact N5c) (fun _=>?_)
   clear hK K0
   try simp only[Act.put,List.setIfInBounds_toArray,List.set_cons_zero,List.set_cons_succ]
   refine wpAnyH_ready (rs:=[8]) (by kernel_rfl) (by simp) ?_
   refine cons_l rfl (fun K0 hK=>?_) AllReadyH.nil
   go_simp
   refine hK.out _ _ (by show World.cell? _ _=_;first|exact N1c|exact NAc|exact N4c|exact N5c) (fun _=>?_)
   clear hK K0
   try simp only[Act.put,List.setIfInBounds_toArray,List.set_cons_zero,List.set_cons_succ]
   refine wpAnyH_ready (rs:=[9]) (by kernel_rfl) (by simp) ?_
   refine cons_l rfl (fun K0 hK=>?_) AllReadyH.nil
   refine step_append_at (w1.alloc (.cells #[.int .u8 (K:Int)] 5)).drew rfl _ _ 25 rfl (g+1) 5 i0 _ 1 1 Try.underlying25 hi hz0 hz1 hz2 rfl (by decide) (.slice E l.length cap) l.length (bl l) rfl OA.out (some ⟨w1.heap.size,0,none⟩) 1 1 (bl [K]) rfl (fun e=>by cases e) SA.out (bl_one _) (by unfold maxLen;omega) (by omega) (by have:=WAs.out;omega) ?_
   intro v4 w4 hown4 hgrow4 hat4
   have GR:=Lib.hid hgrow4
   have AT:=Lib.hid hat4
   have OW:=Lib.hid hown4
   obtain⟨E4,cap4,rfl,-, -, -, -, -⟩:=Sl.own hown4
   have R4:=Lib.hid (show Bl w4 g 121 _ from(hgrow4.block g (by have:=WAs.out;omega) (fun e=>by have:=own_rows OA.out g e.symm;omega)).trans RA.out)
   have N4:=Lib.hid (show Bl w4 w.heap.size 80 _ from(hgrow4.block w.heap.size (by have:=WAs.out;omega) (fun e=>(own_lt O1.out (q:=w.heap.size) (Nat.le_refl _)) e.symm)).trans NA.out)
   have N4c:w4.cell? ⟨w.heap.size,0,none⟩=some (.int .i64 (K:Int)):=N4.out.cell_ rfl
   have N5c:(w4.setCell ⟨g,5,none⟩ (.slice E4 (l.length+1) cap4)).cell? ⟨w.heap.size,0,none⟩=some (.int .i64 (K:Int)):=(N4.out.other (p:=⟨g,5,none⟩) (by show w.heap.size≠g;omega) _).cell_ rfl
   have c54:w4.cell? ⟨g,5,none⟩=some (.slice E l.length cap):=R4.out.cell_ rfl
   have f54:=R4.out.frozen 5
   clear hown4 hgrow4 hat4
   refine hK.out _ _ (by show World.cell? _ _=_;first|exact N1c|exact NAc|exact N4c|exact N5c) (fun _=>?_)
   clear hK K0
   try simp only[Act.put,List.setIfInBounds_toArray,List.set_cons_zero,List.set_cons_succ]
   refine wpAnyH_ready (rs:=[10]) (by kernel_rfl) (by simp) ?_
   refine cons_l rfl (fun K0 hK=>?_) AllReadyH.nil
   go_simp
   refine hK.out _ _ (by show World.cell? _ _=_;first|exact N1c|exact NAc|exact N4c|exact N5c) (fun _=>?_)
   clear hK K0
   try simp only[Act.put,List.setIfInBounds_toArray,List.set_cons_zero,List.set_cons_succ]
   refine wpAnyH_ready (rs:=[11]) (by kernel_rfl) (by simp) ?_
   refine cons_l rfl (fun K0 hK=>?_) AllReadyH.nil
   go_simp
   refine hK.out _ _ (by show World.cell? _ _=_;first|exact N1c|exact NAc|exact N4c|exact N5c) (fun _=>?_)
   clear hK K0
   try simp only[Act.put,List.setIfInBounds_toArray,List.set_cons_zero,List.set_cons_succ]
   refine wpAnyH_ready (rs:=[12]) (by kernel_rfl) (by simp) ?_
   refine cons_l rfl (fun K0 hK=>?_) AllReadyH.nil
   go_simp
   refine hK.out _ _ (by show World.cell? _ _=_;first|exact N1c|exact NAc|exact N4c|exact N5c) (fun _=>?_)
   clear hK K0
   try simp only[Act.put,List.setIfInBounds_toArray,List.set_cons_zero,List.set_cons_succ]
   refine wpAnyH_done (by kernel_rfl) ?_ _
   refine⟨E4,cap4,rfl,⟨R4.out.set_ 5 _,?_⟩,⟨?_,?_,?_⟩,?_,N4.out.other (p:=⟨g,5,none⟩) (by show w.heap.size≠g;omega) _⟩
   ·have h:=ownsRow_setCell_below OW.out (a:=⟨g,5,none⟩) (Nat.lt_succ_self g) (.slice E4 (l.length+1) cap4)
    rw[List.length_append]
    simpa[bl] using h
   ·rw[setc_size];exact Nat.le_trans F2.out.size (Nat.le_trans BA.out.size GR.out.size)
   ·intro j hj hg hT
    exact(Below.heap_setCell w4 ⟨g,5,none⟩ _ j (by show j≠g;exact hg)).trans ((GR.out.block j (Nat.lt_of_lt_of_le hj (Nat.le_trans F2.out.size BA.out.size)) (fun e=>hT e.symm)).trans ((BA.out.block j (Nat.lt_of_lt_of_le hj F2.out.size)).trans (F2.out.keep j hj hg hT)))
   ·intro j hj
    rcases AT.out j hj with h|h
    ·exact .inl h
    ·exact .inr (Nat.le_trans (Nat.le_trans F2.out.size BA.out.size) h)
   ·refine(((B2.out.trans (BA.out.mono ?_)).grown GR.out ?_ ?_).setCell (p:=⟨g,5,none⟩) (Nat.le_refl _) _)
    ·exact Nat.le_of_lt (Nat.lt_of_lt_of_le glt F2.out.size)
    ·have:=WAs.out;omega
    ·intro j hj;have:=own_rows OA.out j hj;omega
  ·go_simp
   refine hK.out _ _ (by show World.cell? _ _=_;first|exact N1c|exact NAc|exact N4c|exact N5c) (fun _=>?_)
   clear hK K0
   try simp only[Act.put,List.setIfInBounds_toArray,List.set_cons_zero,List.set_cons_succ]
   refine wpAnyH_ready (rs:=[4]) (by kernel_rfl) (by simp) ?_
   refine cons_l rfl (fun K0 hK=>?_) AllReadyH.nil
   go_simp
   refine hK.out _ _ (by show World.cell? _ _=_;first|exact N1c|exact NAc|exact N4c|exact N5c) (fun _=>?_)
   clear hK K0
   try simp only[Act.put,List.setIfInBounds_toArray,List.set_cons_zero,List.set_cons_succ]
   refine wpAnyH_ready (rs:=[9]) (by kernel_rfl) (by simp) ?_
   refine cons_l rfl (fun K0 hK=>?_) AllReadyH.nil
   refine step_append_at (w1.alloc (.cells #[.int .u8 (K:Int)] 5)).drew rfl _ _ 25 rfl (g+1) 5 i0 _ 1 1 Try.underlying25 hi hz0 hz1 hz2 rfl (by decide) (.slice E l.length cap) l.length (bl l) rfl OA.out (some ⟨w1.heap.size,0,none⟩) 1 1 (bl [K]) rfl (fun e=>by cases e) SA.out (bl_one _) (by unfold maxLen;omega) (by omega) (by have:=WAs.out;omega) ?_
   intro v4 w4 hown4 hgrow4 hat4
   have GR:=Lib.hid hgrow4
   have AT:=Lib.hid hat4
   have OW:=Lib.hid hown4
   obtain⟨E4,cap4,rfl,-, -, -, -, -⟩:=Sl.own hown4
   have R4:=Lib.hid (show Bl w4 g 121 _ from(hgrow4.block g (by have:=WAs.out;omega) (fun e=>by have:=own_rows OA.out g e.symm;omega)).trans RA.out)
   have N4:=Lib.hid (show Bl w4 w.heap.size 80 _ from(hgrow4.block w.heap.size (by have:=WAs.out;omega) (fun e=>(own_lt O1.out (q:=w.heap.size) (Nat.le_refl _)) e.symm)).trans NA.out)
   have N4c:w4.cell? ⟨w.heap.size,0,none⟩=some (.int .i64 (K:Int)):=N4.out.cell_ rfl
   have N5c:(w4.setCell ⟨g,5,none⟩ (.slice E4 (l.length+1) cap4)).cell? ⟨w.heap.size,0,none⟩=some (.int .i64 (K:Int)):=(N4.out.other (p:=⟨g,5,none⟩) (by show w.heap.size≠g;omega) _).cell_ rfl
   have c54:w4.cell? ⟨g,5,none⟩=some (.slice E l.length cap):=R4.out.cell_ rfl
   have f54:=R4.out.frozen 5
   clear hown4 hgrow4 hat4
   refine hK.out _ _ (by show World.cell? _ _=_;first|exact N1c|exact NAc|exact N4c|exact N5c) (fun _=>?_)
   clear hK K0
   try simp only[Act.put,List.setIfInBounds_toArray,List.set_cons_zero,List.set_cons_succ]
   refine wpAnyH_ready (rs:=[10]) (by kernel_rfl) (by simp) ?_
   refine cons_l rfl (fun K0 hK=>?_) AllReadyH.nil
   go_simp
   refine hK.out _ _ (by show World.cell? _ _=_;first|exact N1c|exact NAc|exact N4c|exact N5c) (fun _=>?_)
   clear hK K0
   try simp only[Act.put,List.setIfInBounds_toArray,List.set_cons_zero,List.set_cons_succ]
   refine wpAnyH_ready (rs:=[11]) (by kernel_rfl) (by simp) ?_
   refine cons_l rfl (fun K0 hK=>?_) AllReadyH.nil
   go_simp
   refine hK.out _ _ (by show World.cell? _ _=_;first|exact N1c|exact NAc|exact N4c|exact N5c) (fun _=>?_)
   clear hK K0
   try simp only[Act.put,List.setIfInBounds_toArray,List.set_cons_zero,List.set_cons_succ]
   refine wpAnyH_ready (rs:=[12]) (by kernel_rfl) (by simp) ?_
   refine cons_l rfl (fun K0 hK=>?_) AllReadyH.nil
   go_simp
   refine hK.out _ _ (by show World.cell? _ _=_;first|exact N1c|exact NAc|exact N4c|exact N5c) (fun _=>?_)
   clear hK K0
   try simp only[Act.put,List.setIfInBounds_toArray,List.set_cons_zero,List.set_cons_succ]
   refine wpAnyH_done (by kernel_rfl) ?_ _
   refine⟨E4,cap4,rfl,⟨R4.out.set_ 5 _,?_⟩,⟨?_,?_,?_⟩,?_,N4.out.other (p:=⟨g,5,none⟩) (by show w.heap.size≠g;omega) _⟩
   ·have h:=ownsRow_setCell_below OW.out (a:=⟨g,5,none⟩) (Nat.lt_succ_self g) (.slice E4 (l.length+1) cap4)
    rw[List.length_append]
    simpa[bl] using h
   ·rw[setc_size];exact Nat.le_trans F2.out.size (Nat.le_trans BA.out.size GR.out.size)
   ·intro j hj hg hT
    exact(Below.heap_setCell w4 ⟨g,5,none⟩ _ j (by show j≠g;exact hg)).trans ((GR.out.block j (Nat.lt_of_lt_of_le hj (Nat.le_trans F2.out.size BA.out.size)) (fun e=>hT e.symm)).trans ((BA.out.block j (Nat.lt_of_lt_of_le hj F2.out.size)).trans (F2.out.keep j hj hg hT)))
   ·intro j hj
    rcases AT.out j hj with h|h
    ·exact .inl h
    ·exact .inr (Nat.le_trans (Nat.le_trans F2.out.size BA.out.size) h)
   ·refine(((B2.out.trans (BA.out.mono ?_)).grown GR.out ?_ ?_).setCell (p:=⟨g,5,none⟩) (Nat.le_refl _) _)
    ·exact Nat.le_of_lt (Nat.lt_of_lt_of_le glt F2.out.size)
    ·have:=WAs.out;omega
    ·intro j hj;have:=own_rows OA.out j hj;omega
 intro E4 cap4 w5 ⟨h1,h2,h3,h4⟩
 have W5:=Lib.hid h1
 have F5:=Lib.hid h2
 have B5:=Lib.hid h3
 have N5:=Lib.hid h4
 clear h1 h2 h3 h4 W1 F1 B1 F2 B2 N1 N1c c51 BA NA NAc RA OA c5A SA WAs O1 c5 N0
 have z0:w5.cell? ⟨w.heap.size,0,none⟩=some (.int .i64 (K:Int)):=N5.out.cell_ rfl
 have z1:w5.cell? ⟨w.heap.size,1,none⟩=some (.int .u64 (n:Int)):=N5.out.cell_ rfl
 have z2:w5.cell? ⟨w.heap.size,2,none⟩=some (.slice r.1 r.2.1 r.2.2.1):=N5.out.cell_ rfl
 have z3:w5.cell? ⟨w.heap.size,3,none⟩=some (.slice A m cc):=N5.out.cell_ rfl
 have kk:=kk.out
 have CC:=Lib.hid (wcount_any W5.out (by simp;omega) n hn)
 clear hn
 go_wp2_with (go_at_call 92;(refine CC.out.mono ?_);rintro e w6 ⟨rfl,T6,h1,h2,h3⟩;have W6:=Lib.hid h1;have F6:=Lib.hid h2;have B6:=Lib.hid h3;clear h1 h2 h3)
 first|go_end0|refine bodyPost_ret (results_none rfl _ _ _) rfl ?_
 refine⟨_,F5.out.trans F6.out,B5.out.trans B6.out,.inl ⟨rfl,rfl,?_⟩⟩
 have h:=W6.out
 rwa [List.append_assoc] at h
end Go.Proofs.Yteblmphohhbgcaa.Wr
