/- Joined texts. -/
import Derived.Deep.RegionWith
import Derived.Deep.RegionHeld3
import Derived.Test.YteblmphohhbgcaaQaWrValueB
set_option linter.unusedVariables false
namespace Go.Proofs.Yteblmphohhbgcaa.Wr
open Go.RowKit Go.Proofs.Yteblmphohhbgcaa.Gn Go.Proofs.Yteblmphohhbgcaa.Fd Go.Deep
theorem own_ne{w:World}{base:Nat}{e:TypeId}{size:Nat}{v:Value}{n:Nat}{xs:List Value}(h:w.ownsRow base e size v n xs){q:Nat}{t:TypeId}{cs:Array Value}(hb:Bl w q t cs)(hne:t≠e):v.ownBlock≠some q:=by
 intro hv
 obtain⟨-, ⟨rfl,-⟩|⟨g,cap,cur,rfl,-, hh,-⟩⟩:=h
 ·cases hv
 ·simp[Value.ownBlock] at hv
  subst hv
  unfold Bl at hb
  rw[hb] at hh
  injection hh with hh
  injection hh with _ h2
  exact hne h2
set_option maxHeartbeats 4000000 in
set_option maxRecDepth 100000 in
theorem wvalue_long{w:World}{g:Nat}{a b c d k:Int}{l:List Nat}{T:Value}(h:Wt w g a b c d k l T)(K:Nat)(n:Nat)(r:Rw)(A:Option Addr)(m cc:Nat)(deep:Int)(hd:¬b < deep)(hk:¬k=c)(k0:0≤k)(k1:k≤1000000)(kk:Hid ((K:Int)=2))(hl:l.length+r.2.1≤800000)(hr:∀u,Below g w u→Pc u r)(d0:0≤d)(d1:d≤9223372036854775807)(hd2:d < (r.2.1:Int)) :
  Calls Try.prog 80 #[.pointer (some ⟨g,0,none⟩),.agg #[.int .i64 (K:Int),.int .u64 (n:Int),.slice r.1 r.2.1 r.2.2.1,.slice A m cc],.int .i64 deep] w (WvQ (2,k+1) w g a b c d l T []):=by
 obtain⟨E,cap,rfl,-, -, -, -, -⟩:=Sl.own h.own
 obtain⟨i0,hi,hz0,hz1,hz2⟩:=info_parts infob8
 have B0:=Lib.hid (below_one w (.cells #[.int .i64 (K:Int),.int .u64 (n:Int),.slice r.1 r.2.1 r.2.2.1,.slice A m cc] 80))
 have B0d:=Lib.hid (below_drewN B0.out 1)
 have CB:=Lib.hid (fun(u:World) (hu:Below w.heap.size w u) (x:Int)=>wbegin_ok (h.below hu) x deep hd hk k0 k1)
 have c5:(w.alloc (.cells #[.int .i64 (K:Int),.int .u64 (n:Int),.slice r.1 r.2.1 r.2.2.1,.slice A m cc] 80)).cell? ⟨g,5,none⟩=some (.slice E l.length cap):=(h.row.alloc _).cell_ rfl
 have glt:g < w.heap.size:=Bl.lt (t:=121) h.row
 have N0:=Lib.hid (Bl.new_ w 80 #[.int .i64 (K:Int),.int .u64 (n:Int),.slice r.1 r.2.1 r.2.2.1,.slice A m cc])
 have HW:=Lib.hid h
 have wk:IntKind.u8.wrap (K:Int)=(K:Int):=by rw[kk.out];rfl
 clear h hd hk k1
 go_enter Try.func80,Try.ntmps80
 go_wp2_with fail
 refine wp_region_held_drew (S:=fun _=>True) (by kernel_rfl) trivial (fun _=>?_)
 refine take_l 0 (v:=?_) rfl (by kernel_rfl) (by kernel_rfl) (by kernel_rfl) (fun _ _ _ h=>h) (Or.inl ⟨by rfl,?_⟩) trivial ?_;rotate_left
 ·intro w' hSw
  go_simp
  all_goals with_reducible rfl
 try simp only[Act.put,List.setIfInBounds_toArray,List.set_cons_zero,List.set_cons_succ]
 refine take_l 1 (v:=?_) rfl (by kernel_rfl) (by kernel_rfl) (by kernel_rfl) (fun _ _ _ h=>h) (Or.inl ⟨by rfl,?_⟩) trivial ?_;rotate_left
 ·intro w' hSw
  go_simp
  all_goals with_reducible rfl
 try simp only[Act.put,List.setIfInBounds_toArray,List.set_cons_zero,List.set_cons_succ]
 refine take_l 2 (v:=?_) rfl (by kernel_rfl) (by kernel_rfl) (by kernel_rfl) (fun _ _ _ h=>h) (Or.inl ⟨by rfl,?_⟩) trivial ?_;rotate_left
 ·intro w' hSw
  go_simp
  all_goals with_reducible rfl
 try simp only[Act.put,List.setIfInBounds_toArray,List.set_cons_zero,List.set_cons_succ]
 refine take_l 3 (v:=?_) rfl (by kernel_rfl) (by kernel_rfl) (by kernel_rfl) (fun _ _ _ h=>h) (Or.inl ⟨by rfl,?_⟩) trivial ?_;rotate_left
 ·intro w' hSw
  go_simp
  all_goals with_reducible rfl
 try simp only[Act.put,List.setIfInBounds_toArray,List.set_cons_zero,List.set_cons_succ]
 refine take_l 4 (v:=?_) rfl (by kernel_rfl) (by kernel_rfl) (by kernel_rfl) (fun _ _ _ h=>h) (Or.inl ⟨by rfl,?_⟩) trivial ?_;rotate_left
 ·intro w' hSw
  go_simp
  all_goals with_reducible rfl
 try simp only[Act.put,List.setIfInBounds_toArray,List.set_cons_zero,List.set_cons_succ]
 refine take_l 5 (v:=?_) rfl (by kernel_rfl) (by kernel_rfl) (by kernel_rfl) (fun _ _ _ h=>h) (Or.inl ⟨by rfl,?_⟩) trivial ?_;rotate_left
 ·intro w' hSw
  go_simp
  all_goals with_reducible rfl
 try simp only[Act.put,List.setIfInBounds_toArray,List.set_cons_zero,List.set_cons_succ]
 refine take_l 8 (v:=?_) rfl (by kernel_rfl) (by kernel_rfl) (by kernel_rfl) (fun _ _ _ h=>h) (Or.inl ⟨by rfl,?_⟩) trivial ?_;rotate_left
 ·intro w' hSw
  go_simp
  all_goals with_reducible rfl
 try simp only[Act.put,List.setIfInBounds_toArray,List.set_cons_zero,List.set_cons_succ]
 refine wpAnyH_ready (rs:=[6]) (by kernel_rfl) (by simp) ?_
 refine cons_l rfl (fun K0 hK=>?_) AllReadyH.nil
 go_simp
 refine hK.out _ _ trivial (fun _=>?_)
 clear hK K0
 try simp only[Act.put,List.setIfInBounds_toArray,List.set_cons_zero,List.set_cons_succ]
 refine take_l 7 (v:=?_) rfl (by kernel_rfl) (by kernel_rfl) (by kernel_rfl) (fun _ _ _ h=>h) (Or.inl ⟨by rfl,?_⟩) trivial ?_;rotate_left
 ·intro w' hSw
  go_simp
  all_goals with_reducible rfl
 try simp only[Act.put,List.setIfInBounds_toArray,List.set_cons_zero,List.set_cons_succ]
 refine wpAnyH_ready (rs:=[9]) (by kernel_rfl) (by simp) ?_
 refine cons_l rfl (fun K0 hK=>?_) AllReadyH.nil
 go_simp
 (go_at_call 91;(refine(CB.out _ B0d.out _).mono ?_);rintro e w1 ⟨rfl,h1,h2,h3⟩)
 have W1:=Lib.hid h1
 have F1:=Lib.hid h2
 have B1:=Lib.hid h3
 clear h1 h2 h3
 refine hK.out _ _ trivial (fun _=>?_)
 clear hK K0
 try simp only[Act.put,List.setIfInBounds_toArray,List.set_cons_zero,List.set_cons_succ]
 refine wpAnyH_done (by kernel_rfl) ?_ _
 have F2:=Lib.hid ((Fr.of g (.slice E l.length cap) B0d.out).trans F1.out)
 have B2:=Lib.hid ((B0d.out.mono (Nat.le_of_lt glt)).trans B1.out)
 have O1:=Lib.hid HW.out.own
 have N1:=Lib.hid (show Bl w1 w.heap.size 80 _ from F1.out.bl (q:=w.heap.size) (t:=80) (cs:=#[.int .i64 (K:Int),.int .u64 (n:Int),.slice r.1 r.2.1 r.2.2.1,.slice A m cc]) N0.out (by omega) (own_lt HW.out.own (Nat.le_refl _)))
 have N1c:w1.cell? ⟨w.heap.size,0,none⟩=some (.int .i64 (K:Int)):=N1.out.cell_ rfl
 have c51:w1.cell? ⟨g,5,none⟩=some (.slice E l.length cap):=W1.out.row.cell_ rfl
 have BA:=Lib.hid (show Below w1.heap.size w1 (w1.alloc (.cells #[.int .u8 (K:Int)] 5)).drew from((Below.refl _ w1).alloc (Nat.le_refl _) _).drew)
 have NA:=Lib.hid (show Bl (w1.alloc (.cells #[.int .u8 (K:Int)] 5)).drew w.heap.size 80 _ from N1.out.below' BA.out)
 have NAc:(w1.alloc (.cells #[.int .u8 (K:Int)] 5)).cell? ⟨w.heap.size,0,none⟩=some (.int .i64 (K:Int)):=NA.out.cell_ rfl
 have RA:=Lib.hid (W1.out.row.below' BA.out)
 have OA:=Lib.hid (own_below W1.out.own BA.out)
 have c5A:(w1.alloc (.cells #[.int .u8 (K:Int)] 5)).cell? ⟨g,5,none⟩=some (.slice E l.length cap):=RA.out.cell_ rfl
 have SA:=Lib.hid (show Sl (w1.alloc (.cells #[.int .u8 (K:Int)] 5)).drew (some ⟨w1.heap.size,0,none⟩) 1 (bl [K]) from Sl.new_ w1 5 (bl [K]))
 have WAs:=Lib.hid (show w.heap.size < w1.heap.size∧w1.heap.size < (w1.alloc (.cells #[.int .u8 (K:Int)] 5)).drew.heap.size from⟨N1.out.lt,by show _ < (w1.alloc _).heap.size;simp⟩)
 go_upto_region 2 with fail
 apply region_cut (I:=fun(E4:Option Addr) (cap4:Nat) w'=>Wt w' g a b c d (k+1) (l ++ [K]) (.slice E4 (l.length+1) cap4)∧Fr w w' g (.slice E l.length cap) (.slice E4 (l.length+1) cap4)∧Below g w w'∧Bl w' w.heap.size 80 #[.int .i64 (K:Int),.int .u64 (n:Int),.slice r.1 r.2.1 r.2.2.1,.slice A m cc])
 ·refine wp_region_held_drew (S:=fun w'=>w'.cell? ⟨w.heap.size,0,none⟩=some (.int .i64 (K:Int))) (by kernel_rfl) (by exact N1c) (fun _=>?_)
  refine take_l 0 (v:=?_) rfl (by kernel_rfl) (by kernel_rfl) (by kernel_rfl) (fun _ _ _ h=>h) (Or.inl ⟨by rfl,?_⟩) (by show World.cell? _ _=_;first|exact N1c|exact NAc|exact N4c|exact N5c) ?_;rotate_left
  ·intro w' hSw
   replace hSw:w'.cell? ⟨w.heap.size,0,none⟩=some (.int .i64 (K:Int)):=hSw
   go_simp
   all_goals with_reducible rfl
  try simp only[Act.put,List.setIfInBounds_toArray,List.set_cons_zero,List.set_cons_succ]
  refine take_l 1 (v:=?_) rfl (by kernel_rfl) (by kernel_rfl) (by kernel_rfl) (fun _ _ _ h=>h) (Or.inl ⟨by rfl,?_⟩) (by show World.cell? _ _=_;first|exact N1c|exact NAc|exact N4c|exact N5c) ?_;rotate_left
  ·intro w' hSw
   replace hSw:w'.cell? ⟨w.heap.size,0,none⟩=some (.int .i64 (K:Int)):=hSw
   go_simp
   all_goals with_reducible rfl
  try simp only[Act.put,List.setIfInBounds_toArray,List.set_cons_zero,List.set_cons_succ]
  refine take_l 2 (v:=?_) rfl (by kernel_rfl) (by kernel_rfl) (by kernel_rfl) (fun _ _ _ h=>h) (Or.inl ⟨by rfl,?_⟩) (by show World.cell? _ _=_;first|exact N1c|exact NAc|exact N4c|exact N5c) ?_;rotate_left
  ·intro w' hSw
   replace hSw:w'.cell? ⟨w.heap.size,0,none⟩=some (.int .i64 (K:Int)):=hSw
   go_simp
   all_goals with_reducible rfl
  try simp only[Act.put,List.setIfInBounds_toArray,List.set_cons_zero,List.set_cons_succ]
  refine take_l 3 (v:=?_) rfl (by kernel_rfl) (by kernel_rfl) (by kernel_rfl) (fun _ _ _ h=>h) (Or.inl ⟨by rfl,?_⟩) (by show World.cell? _ _=_;first|exact N1c|exact NAc|exact N4c|exact N5c) ?_;rotate_left
  ·intro w' hSw
   replace hSw:w'.cell? ⟨w.heap.size,0,none⟩=some (.int .i64 (K:Int)):=hSw
   go_simp
   all_goals with_reducible rfl
  try simp only[Act.put,List.setIfInBounds_toArray,List.set_cons_zero,List.set_cons_succ]
  refine take_l 5 (v:=?_) rfl (by kernel_rfl) (by kernel_rfl) (by kernel_rfl) (fun _ _ _ h=>h) (Or.inl ⟨by rfl,?_⟩) (by show World.cell? _ _=_;first|exact N1c|exact NAc|exact N4c|exact N5c) ?_;rotate_left
  ·intro w' hSw
   replace hSw:w'.cell? ⟨w.heap.size,0,none⟩=some (.int .i64 (K:Int)):=hSw
   go_simp
   all_goals with_reducible rfl
  try simp only[Act.put,List.setIfInBounds_toArray,List.set_cons_zero,List.set_cons_succ]
  refine take_l 6 (v:=?_) rfl (by kernel_rfl) (by kernel_rfl) (by kernel_rfl) (fun _ _ _ h=>h) (Or.inl ⟨by rfl,?_⟩) (by show World.cell? _ _=_;first|exact N1c|exact NAc|exact N4c|exact N5c) ?_;rotate_left
  ·intro w' hSw
   replace hSw:w'.cell? ⟨w.heap.size,0,none⟩=some (.int .i64 (K:Int)):=hSw
   go_simp
   all_goals with_reducible rfl
  try simp only[Act.put,List.setIfInBounds_toArray,List.set_cons_zero,List.set_cons_succ]
  refine take_l 7 (v:=?_) rfl (by kernel_rfl) (by kernel_rfl) (by kernel_rfl) (fun _ _ _ h=>h) (Or.inl ⟨by rfl,?_⟩) (by show World.cell? _ _=_;first|exact N1c|exact NAc|exact N4c|exact N5c) ?_;rotate_left
  ·intro w' hSw
   replace hSw:w'.cell? ⟨w.heap.size,0,none⟩=some (.int .i64 (K:Int)):=hSw
   go_simp
   all_goals with_reducible rfl
  try simp only[Act.put,List.setIfInBounds_toArray,List.set_cons_zero,List.set_cons_succ]
  refine wpAnyH_ready (rs:=[4,8]) (by kernel_rfl) (by simp) ?_
  refine cons_l rfl (fun K0 hK=>?_) (cons_l rfl (fun K0 hK=>?_) AllReadyH.nil)
  ·go_simp
   refine hK.out _ _ (by show World.cell? _ _=_;first|exact N1c|exact NAc|exact N4c|exact N5c) (fun _=>?_)
   clear hK K0
   try simp only[Act.put,List.setIfInBounds_toArray,List.set_cons_zero,List.set_cons_succ]
   refine wpAnyH_ready (rs:=[8]) (by kernel_rfl) (by simp) ?_
   refine cons_l rfl (fun K0 hK=>?_) AllReadyH.nil
   go_simp
   refine hK.out _ _ (by show World.cell? _ _=_;first|exact N1c|exact NAc|exact N4c|exact N5c) (fun _=>?_)
   clear hK K0
   try simp only[Act.put,List.setIfInBounds_toArray,List.set_cons_zero,List.set_cons_succ]
   refine wpAnyH_ready (rs:=[9]) (by kernel_rfl) (by simp) ?_
   refine cons_l rfl (fun K0 hK=>?_) AllReadyH.nil
   refine step_append_at (w1.alloc (.cells #[.int .u8 (K:Int)] 5)).drew rfl _ _ 25 rfl (g+1) 5 i0 _ 1 1 Try.underlying25 hi hz0 hz1 hz2 rfl (by decide) (.slice E l.length cap) l.length (bl l) rfl OA.out (some ⟨w1.heap.size,0,none⟩) 1 1 (bl [K]) rfl (fun e=>by cases e) SA.out (bl_one _) (by unfold maxLen;omega) (by omega) (by have:=WAs.out;omega) ?_
   intro v4 w4 hown4 hgrow4 hat4
   have GR:=Lib.hid hgrow4
   have AT:=Lib.hid hat4
   have OW:=Lib.hid hown4
   obtain⟨E4,cap4,rfl,-, -, -, -, -⟩:=Sl.own hown4
   have R4:=Lib.hid (show Bl w4 g 121 _ from(hgrow4.block g (by have:=WAs.out;omega) (fun e=>by have:=own_rows OA.out g e.symm;omega)).trans RA.out)
   have N4:=Lib.hid (show Bl w4 w.heap.size 80 _ from(hgrow4.block w.heap.size (by have:=WAs.out;omega) (fun e=>(own_lt O1.out (q:=w.heap.size) (Nat.le_refl _)) e.symm)).trans NA.out)
   have N4c:w4.cell? ⟨w.heap.size,0,none⟩=some (.int .i64 (K:Int)):=N4.out.cell_ rfl
   have N5c:(w4.setCell ⟨g,5,none⟩ (.slice E4 (l.length+1) cap4)).cell? ⟨w.heap.size,0,none⟩=some (.int .i64 (K:Int)):=(N4.out.other (p:=⟨g,5,none⟩) (by show w.heap.size≠g;omega) _).cell_ rfl
   have c54:w4.cell? ⟨g,5,none⟩=some (.slice E l.length cap):=R4.out.cell_ rfl
   have f54:=R4.out.frozen 5
   clear hown4 hgrow4 hat4
   refine hK.out _ _ (by show World.cell? _ _=_;first|exact N1c|exact NAc|exact N4c|exact N5c) (fun _=>?_)
   clear hK K0
   try simp only[Act.put,List.setIfInBounds_toArray,List.set_cons_zero,List.set_cons_succ]
   refine wpAnyH_ready (rs:=[10]) (by kernel_rfl) (by simp) ?_
   refine cons_l rfl (fun K0 hK=>?_) AllReadyH.nil
   go_simp
   refine hK.out _ _ (by show World.cell? _ _=_;first|exact N1c|exact NAc|exact N4c|exact N5c) (fun _=>?_)
   clear hK K0
   try simp only[Act.put,List.setIfInBounds_toArray,List.set_cons_zero,List.set_cons_succ]
   refine wpAnyH_ready (rs:=[11]) (by kernel_rfl) (by simp) ?_
   refine cons_l rfl (fun K0 hK=>?_) AllReadyH.nil
   go_simp
   refine hK.out _ _ (by show World.cell? _ _=_;first|exact N1c|exact NAc|exact N4c|exact N5c) (fun _=>?_)
   clear hK K0
   try simp only[Act.put,List.setIfInBounds_toArray,List.set_cons_zero,List.set_cons_succ]
   refine wpAnyH_ready (rs:=[12]) (by kernel_rfl) (by simp) ?_
   refine cons_l rfl (fun K0 hK=>?_) AllReadyH.nil
   go_simp
   refine hK.out _ _ (by show World.cell? _ _=_;first|exact N1c|exact NAc|exact N4c|exact N5c) (fun _=>?_)
   clear hK K0
   try simp only[Act.put,List.setIfInBounds_toArray,List.set_cons_zero,List.set_cons_succ]
   refine wpAnyH_done (by kernel_rfl) ?_ _
   refine⟨E4,cap4,rfl,⟨R4.out.set_ 5 _,?_⟩,⟨?_,?_,?_⟩,?_,N4.out.other (p:=⟨g,5,none⟩) (by show w.heap.size≠g;omega) _⟩
   ·have h:=ownsRow_setCell_below OW.out (a:=⟨g,5,none⟩) (Nat.lt_succ_self g) (.slice E4 (l.length+1) cap4)
    rw[List.length_append]
    simpa[bl] using h
   ·rw[setc_size];exact Nat.le_trans F2.out.size (Nat.le_trans BA.out.size GR.out.size)
   ·intro j hj hg hT
    exact(Below.heap_setCell w4 ⟨g,5,none⟩ _ j (by show j≠g;exact hg)).trans ((GR.out.block j (Nat.lt_of_lt_of_le hj (Nat.le_trans F2.out.size BA.out.size)) (fun e=>hT e.symm)).trans ((BA.out.block j (Nat.lt_of_lt_of_le hj F2.out.size)).trans (F2.out.keep j hj hg hT)))
   ·intro j hj
    rcases AT.out j hj with h|h
    ·exact .inl h
    ·exact .inr (Nat.le_trans (Nat.le_trans F2.out.size BA.out.size) h)
   ·refine(((B2.out.trans (BA.out.mono ?_)).grown GR.out ?_ ?_).setCell (p:=⟨g,5,none⟩) (Nat.le_refl _) _)
    ·exact Nat.le_of_lt (Nat.lt_of_lt_of_le glt F2.out.size)
    ·have:=WAs.out;omega
    ·intro j hj;have:=own_rows OA.out j hj;omega
  ·go_simp
   refine hK.out _ _ (by show World.cell? _ _=_;first|exact N1c|exact NAc|exact N4c|exact N5c) (fun _=>?_)
   clear hK K0
   try simp only[Act.put,List.setIfInBounds_toArray,List.set_cons_zero,List.set_cons_succ]
   refine wpAnyH_ready (rs:=[4]) (by kernel_rfl) (by simp) ?_
   refine cons_l rfl (fun K0 hK=>?_) AllReadyH.nil
   go_simp
   refine hK.out _ _ (by show World.cell? _ _=_;first|exact N1c|exact NAc|exact N4c|exact N5c) (fun _=>?_)
   clear hK K0
   try simp only[Act.put,List.setIfInBounds_toArray,List.set_cons_zero,List.set_cons_succ]
   refine wpAnyH_ready (rs:=[9]) (by kernel_rfl) (by simp) ?_
   refine cons_l rfl (fun K0 hK=>?_) AllReadyH.nil
   refine step_append_at (w1.alloc (.cells #[.int .u8 (K:Int)] 5)).drew rfl _ _ 25 rfl (g+1) 5 i0 _ 1 1 Try.underlying25 hi hz0 hz1 hz2 rfl (by decide) (.slice E l.length cap) l.length (bl l) rfl OA.out (some ⟨w1.heap.size,0,none⟩) 1 1 (bl [K]) rfl (fun e=>by cases e) SA.out (bl_one _) (by unfold maxLen;omega) (by omega) (by have:=WAs.out;omega) ?_
   intro v4 w4 hown4 hgrow4 hat4
   have GR:=Lib.hid hgrow4
   have AT:=Lib.hid hat4
   have OW:=Lib.hid hown4
   obtain⟨E4,cap4,rfl,-, -, -, -, -⟩:=Sl.own hown4
   have R4:=Lib.hid (show Bl w4 g 121 _ from(hgrow4.block g (by have:=WAs.out;omega) (fun e=>by have:=own_rows OA.out g e.symm;omega)).trans RA.out)
   have N4:=Lib.hid (show Bl w4 w.heap.size 80 _ from(hgrow4.block w.heap.size (by have:=WAs.out;omega) (fun e=>(own_lt O1.out (q:=w.heap.size) (Nat.le_refl _)) e.symm)).trans NA.out)
   have N4c:w4.cell? ⟨w.heap.size,0,none⟩=some (.int .i64 (K:Int)):=N4.out.cell_ rfl
   have N5c:(w4.setCell ⟨g,5,none⟩ (.slice E4 (l.length+1) cap4)).cell? ⟨w.heap.size,0,none⟩=some (.int .i64 (K:Int)):=(N4.out.other (p:=⟨g,5,none⟩) (by show w.heap.size≠g;omega) _).cell_ rfl
   have c54:w4.cell? ⟨g,5,none⟩=some (.slice E l.length cap):=R4.out.cell_ rfl
   have f54:=R4.out.frozen 5
   clear hown4 hgrow4 hat4
   refine hK.out _ _ (by show World.cell? _ _=_;first|exact N1c|exact NAc|exact N4c|exact N5c) (fun _=>?_)
   clear hK K0
   try simp only[Act.put,List.setIfInBounds_toArray,List.set_cons_zero,List.set_cons_succ]
   refine wpAnyH_ready (rs:=[10]) (by kernel_rfl) (by simp) ?_
   refine cons_l rfl (fun K0 hK=>?_) AllReadyH.nil
   go_simp
   refine hK.out _ _ (by show World.cell? _ _=_;first|exact N1c|exact NAc|exact N4c|exact N5c) (fun _=>?_)
   clear hK K0
   try simp only[Act.put,List.setIfInBounds_toArray,List.set_cons_zero,List.set_cons_succ]
   refine wpAnyH_ready (rs:=[11]) (by kernel_rfl) (by simp) ?_
   refine cons_l rfl (fun K0 hK=>?_) AllReadyH.nil
   go_simp
   refine hK.out _ _ (by show World.cell? _ _=_;first|exact N1c|exact NAc|exact N4c|exact N5c) (fun _=>?_)
   clear hK K0
   try simp only[Act.put,List.setIfInBounds_toArray,List.set_cons_zero,List.set_cons_succ]
   refine wpAnyH_ready (rs:=[12]) (by kernel_rfl) (by simp) ?_
   refine cons_l rfl (fun K0 hK=>?_) AllReadyH.nil
   go_simp
   refine hK.out _ _ (by show World.cell? _ _=_;first|exact N1c|exact NAc|exact N4c|exact N5c) (fun _=>?_)
   clear hK K0
   try simp only[Act.put,List.setIfInBounds_toArray,List.set_cons_zero,List.set_cons_succ]
   refine wpAnyH_done (by kernel_rfl) ?_ _
   refine⟨E4,cap4,rfl,⟨R4.out.set_ 5 _,?_⟩,⟨?_,?_,?_⟩,?_,N4.out.other (p:=⟨g,5,none⟩) (by show w.heap.size≠g;omega) _⟩
   ·have h:=ownsRow_setCell_below OW.out (a:=⟨g,5,none⟩) (Nat.lt_succ_self g) (.slice E4 (l.length+1) cap4)
    rw[List.length_append]
    simpa[bl] using h
   ·rw[setc_size];exact Nat.le_trans F2.out.size (Nat.le_trans BA.out.size GR.out.size)
   ·intro j hj hg hT
    exact(Below.heap_setCell w4 ⟨g,5,none⟩ _ j (by show j≠g;exact hg)).trans ((GR.out.block j (Nat.lt_of_lt_of_le hj (Nat.le_trans F2.out.size BA.out.size)) (fun e=>hT e.symm)).trans ((BA.out.block j (Nat.lt_of_lt_of_le hj F2.out.size)).trans (F2.out.keep j hj hg hT)))
   ·intro j hj
    rcases AT.out j hj with h|h
    ·exact .inl h
    ·exact .inr (Nat.le_trans (Nat.le_trans F2.out.size BA.out.size) h)
   ·refine(((B2.out.trans (BA.out.mono ?_)).grown GR.out ?_ ?_).setCell (p:=⟨g,5,none⟩) (Nat.le_refl _) _)
    ·exact Nat.le_of_lt (Nat.lt_of_lt_of_le glt F2.out.size)
    ·have:=WAs.out;omega
    ·intro j hj;have:=own_rows OA.out j hj;omega
 intro E4 cap4 w5 ⟨h1,h2,h3,h4⟩
 have W5:=Lib.hid h1
 have F5:=Lib.hid h2
 have B5:=Lib.hid h3
 have N5:=Lib.hid h4
 clear h1 h2 h3 h4 W1 F1 B1 F2 B2 N1 N1c c51 BA NA NAc RA OA c5A SA WAs O1 c5 N0
 have z0:w5.cell? ⟨w.heap.size,0,none⟩=some (.int .i64 (K:Int)):=N5.out.cell_ rfl
 have z1:w5.cell? ⟨w.heap.size,1,none⟩=some (.int .u64 (n:Int)):=N5.out.cell_ rfl
 have z2:w5.cell? ⟨w.heap.size,2,none⟩=some (.slice r.1 r.2.1 r.2.2.1):=N5.out.cell_ rfl
 have z3:w5.cell? ⟨w.heap.size,3,none⟩=some (.slice A m cc):=N5.out.cell_ rfl
 have kk:=kk.out
 obtain⟨rA,rn,rc,rl⟩:=r
 obtain⟨L,hL⟩:∃L,rn=L:=⟨_,rfl⟩
 subst hL
 have c5':w5.cell? ⟨g,5,none⟩=some (.slice E4 (l.length+1) cap4):=W5.out.row.cell_ rfl
 have lw:IntKind.u64.wrap (rn:Int)=(rn:Int):=by simp only[IntKind.wrap_u64];simp only[] at hl;omega
 have CH:=Lib.hid (fun x:Int=>whold_any (W5.out.below (below_drewN (Below.refl _ w5) 1)) d0 d1 x rn)
 have D2:=Lib.hid hd2
 clear hd2 d0 d1 hr hl
 go_upto_region 8 with fail
 refine wp_region_held_drew (S:=fun _=>True) (by kernel_rfl) trivial (fun _=>?_)
 refine take_l 0 (v:=?_) rfl (by kernel_rfl) (by kernel_rfl) (by kernel_rfl) (fun _ _ _ h=>h) (Or.inl ⟨by rfl,?_⟩) trivial ?_;rotate_left
 ·intro w' hSw
  go_simp
  all_goals with_reducible rfl
 try simp only[Act.put,List.setIfInBounds_toArray,List.set_cons_zero,List.set_cons_succ]
 refine take_l 1 (v:=?_) rfl (by kernel_rfl) (by kernel_rfl) (by kernel_rfl) (fun _ _ _ h=>h) (Or.inl ⟨by rfl,?_⟩) trivial ?_;rotate_left
 ·intro w' hSw
  go_simp
  all_goals with_reducible rfl
 try simp only[Act.put,List.setIfInBounds_toArray,List.set_cons_zero,List.set_cons_succ]
 refine take_l 2 (v:=?_) rfl (by kernel_rfl) (by kernel_rfl) (by kernel_rfl) (fun _ _ _ h=>h) (Or.inl ⟨by rfl,?_⟩) trivial ?_;rotate_left
 ·intro w' hSw
  go_simp
  all_goals with_reducible rfl
 try simp only[Act.put,List.setIfInBounds_toArray,List.set_cons_zero,List.set_cons_succ]
 refine take_l 3 (v:=?_) rfl (by kernel_rfl) (by kernel_rfl) (by kernel_rfl) (fun _ _ _ h=>h) (Or.inl ⟨by rfl,?_⟩) trivial ?_;rotate_left
 ·intro w' hSw
  go_simp
  all_goals with_reducible rfl
 try simp only[Act.put,List.setIfInBounds_toArray,List.set_cons_zero,List.set_cons_succ]
 refine take_l 4 (v:=?_) rfl (by kernel_rfl) (by kernel_rfl) (by kernel_rfl) (fun _ _ _ h=>h) (Or.inl ⟨by rfl,?_⟩) trivial ?_;rotate_left
 ·intro w' hSw
  go_simp
  all_goals with_reducible rfl
 try simp only[Act.put,List.setIfInBounds_toArray,List.set_cons_zero,List.set_cons_succ]
 refine take_l 5 (v:=?_) rfl (by kernel_rfl) (by kernel_rfl) (by kernel_rfl) (fun _ _ _ h=>h) (Or.inl ⟨by rfl,?_⟩) trivial ?_;rotate_left
 ·intro w' hSw
  go_simp
  all_goals with_reducible rfl
 try simp only[Act.put,List.setIfInBounds_toArray,List.set_cons_zero,List.set_cons_succ]
 refine take_l 8 (v:=?_) rfl (by kernel_rfl) (by kernel_rfl) (by kernel_rfl) (fun _ _ _ h=>h) (Or.inl ⟨by rfl,?_⟩) trivial ?_;rotate_left
 ·intro w' hSw
  go_simp
  all_goals with_reducible rfl
 try simp only[Act.put,List.setIfInBounds_toArray,List.set_cons_zero,List.set_cons_succ]
 refine wpAnyH_ready (rs:=[6]) (by kernel_rfl) (by simp) ?_
 refine cons_l rfl (fun K0 hK=>?_) AllReadyH.nil
 go_simp
 refine hK.out _ _ trivial (fun _=>?_)
 clear hK K0
 try simp only[Act.put,List.setIfInBounds_toArray,List.set_cons_zero,List.set_cons_succ]
 refine take_l 7 (v:=?_) rfl (by kernel_rfl) (by kernel_rfl) (by kernel_rfl) (fun _ _ _ h=>h) (Or.inl ⟨by rfl,?_⟩) trivial ?_;rotate_left
 ·intro w' hSw
  go_simp
  all_goals with_reducible rfl
 try simp only[Act.put,List.setIfInBounds_toArray,List.set_cons_zero,List.set_cons_succ]
 refine wpAnyH_ready (rs:=[9]) (by kernel_rfl) (by simp) ?_
 refine cons_l rfl (fun K0 hK=>?_) AllReadyH.nil
 go_simp
 (go_at_call 93;(refine(CH.out _).mono ?_);rintro e w6 ⟨h1,rfl⟩;rw[if_pos D2.out] at h1;subst h1)
 exact⟨rfl,_,F5.out.trans (Fr.of g _ (below_drewN (Below.refl _ w5) 1)),below_drewN B5.out 1,.inr ⟨by show(2:Int)≠0;decide,_,rfl⟩⟩
set_option maxHeartbeats 4000000 in
set_option maxRecDepth 100000 in
theorem wvalue_bytes{w:World}{g:Nat}{a b c d k:Int}{l:List Nat}{T:Value}(h:Wt w g a b c d k l T)(K:Nat)(n:Nat)(r:Rw)(A:Option Addr)(m cc:Nat)(deep:Int)(hd:¬b < deep)(hk:¬k=c)(k0:0≤k)(k1:k≤1000000)(kk:Hid ((K:Int)=2))(hl:l.length+r.2.1≤800000)(hr:∀u,Below g w u→Pc u r)(d0:0≤d)(d1:d≤9223372036854775807)(hd2:Hid (¬d < (r.2.1:Int))) :
  Calls Try.prog 80 #[.pointer (some ⟨g,0,none⟩),.agg #[.int .i64 (K:Int),.int .u64 (n:Int),.slice r.1 r.2.1 r.2.2.1,.slice A m cc],.int .i64 deep] w (WvQ (0,k+1) w g a b c d l T (K :: (cb r.2.1 ++ r.2.2.2))):=by
 obtain⟨E,cap,rfl,-, -, -, -, -⟩:=Sl.own h.own
 obtain⟨i0,hi,hz0,hz1,hz2⟩:=info_parts infob8
 have B0:=Lib.hid (below_one w (.cells #[.int .i64 (K:Int),.int .u64 (n:Int),.slice r.1 r.2.1 r.2.2.1,.slice A m cc] 80))
 have B0d:=Lib.hid (below_drewN B0.out 1)
 have CB:=Lib.hid (fun(u:World) (hu:Below w.heap.size w u) (x:Int)=>wbegin_ok (h.below hu) x deep hd hk k0 k1)
 have c5:(w.alloc (.cells #[.int .i64 (K:Int),.int .u64 (n:Int),.slice r.1 r.2.1 r.2.2.1,.slice A m cc] 80)).cell? ⟨g,5,none⟩=some (.slice E l.length cap):=(h.row.alloc _).cell_ rfl
 have glt:g < w.heap.size:=Bl.lt (t:=121) h.row
 have N0:=Lib.hid (Bl.new_ w 80 #[.int .i64 (K:Int),.int .u64 (n:Int),.slice r.1 r.2.1 r.2.2.1,.slice A m cc])
 have HW:=Lib.hid h
 have wk:IntKind.u8.wrap (K:Int)=(K:Int):=by rw[kk.out];rfl
 clear h hd hk k1
 go_enter Try.func80,Try.ntmps80
 go_wp2_with fail
 refine wp_region_held_drew (S:=fun _=>True) (by kernel_rfl) trivial (fun _=>?_)
 refine take_l 0 (v:=?_) rfl (by kernel_rfl) (by kernel_rfl) (by kernel_rfl) (fun _ _ _ h=>h) (Or.inl ⟨by rfl,?_⟩) trivial ?_;rotate_left
 ·intro w' hSw
  go_simp
  all_goals with_reducible rfl
 try simp only[Act.put,List.setIfInBounds_toArray,List.set_cons_zero,List.set_cons_succ]
 refine take_l 1 (v:=?_) rfl (by kernel_rfl) (by kernel_rfl) (by kernel_rfl) (fun _ _ _ h=>h) (Or.inl ⟨by rfl,?_⟩) trivial ?_;rotate_left
 ·intro w' hSw
  go_simp
  all_goals with_reducible rfl
 try simp only[Act.put,List.setIfInBounds_toArray,List.set_cons_zero,List.set_cons_succ]
 refine take_l 2 (v:=?_) rfl (by kernel_rfl) (by kernel_rfl) (by kernel_rfl) (fun _ _ _ h=>h) (Or.inl ⟨by rfl,?_⟩) trivial ?_;rotate_left
 ·intro w' hSw
  go_simp
  all_goals with_reducible rfl
 try simp only[Act.put,List.setIfInBounds_toArray,List.set_cons_zero,List.set_cons_succ]
 refine take_l 3 (v:=?_) rfl (by kernel_rfl) (by kernel_rfl) (by kernel_rfl) (fun _ _ _ h=>h) (Or.inl ⟨by rfl,?_⟩) trivial ?_;rotate_left
 ·intro w' hSw
  go_simp
  all_goals with_reducible rfl
 try simp only[Act.put,List.setIfInBounds_toArray,List.set_cons_zero,List.set_cons_succ]
 refine take_l 4 (v:=?_) rfl (by kernel_rfl) (by kernel_rfl) (by kernel_rfl) (fun _ _ _ h=>h) (Or.inl ⟨by rfl,?_⟩) trivial ?_;rotate_left
 ·intro w' hSw
  go_simp
  all_goals with_reducible rfl
 try simp only[Act.put,List.setIfInBounds_toArray,List.set_cons_zero,List.set_cons_succ]
 refine take_l 5 (v:=?_) rfl (by kernel_rfl) (by kernel_rfl) (by kernel_rfl) (fun _ _ _ h=>h) (Or.inl ⟨by rfl,?_⟩) trivial ?_;rotate_left
 ·intro w' hSw
  go_simp
  all_goals with_reducible rfl
 try simp only[Act.put,List.setIfInBounds_toArray,List.set_cons_zero,List.set_cons_succ]
 refine take_l 8 (v:=?_) rfl (by kernel_rfl) (by kernel_rfl) (by kernel_rfl) (fun _ _ _ h=>h) (Or.inl ⟨by rfl,?_⟩) trivial ?_;rotate_left
 ·intro w' hSw
  go_simp
  all_goals with_reducible rfl
 try simp only[Act.put,List.setIfInBounds_toArray,List.set_cons_zero,List.set_cons_succ]
 refine wpAnyH_ready (rs:=[6]) (by kernel_rfl) (by simp) ?_
 refine cons_l rfl (fun K0 hK=>?_) AllReadyH.nil
 go_simp
 refine hK.out _ _ trivial (fun _=>?_)
 clear hK K0
 try simp only[Act.put,List.setIfInBounds_toArray,List.set_cons_zero,List.set_cons_succ]
 refine take_l 7 (v:=?_) rfl (by kernel_rfl) (by kernel_rfl) (by kernel_rfl) (fun _ _ _ h=>h) (Or.inl ⟨by rfl,?_⟩) trivial ?_;rotate_left
 ·intro w' hSw
  go_simp
  all_goals with_reducible rfl
 try simp only[Act.put,List.setIfInBounds_toArray,List.set_cons_zero,List.set_cons_succ]
 refine wpAnyH_ready (rs:=[9]) (by kernel_rfl) (by simp) ?_
 refine cons_l rfl (fun K0 hK=>?_) AllReadyH.nil
 go_simp
 (go_at_call 91;(refine(CB.out _ B0d.out _).mono ?_);rintro e w1 ⟨rfl,h1,h2,h3⟩)
 have W1:=Lib.hid h1
 have F1:=Lib.hid h2
 have B1:=Lib.hid h3
 clear h1 h2 h3
 refine hK.out _ _ trivial (fun _=>?_)
 clear hK K0
 try simp only[Act.put,List.setIfInBounds_toArray,List.set_cons_zero,List.set_cons_succ]
 refine wpAnyH_done (by kernel_rfl) ?_ _
 have F2:=Lib.hid ((Fr.of g (.slice E l.length cap) B0d.out).trans F1.out)
 have B2:=Lib.hid ((B0d.out.mono (Nat.le_of_lt glt)).trans B1.out)
 have O1:=Lib.hid HW.out.own
 have N1:=Lib.hid (show Bl w1 w.heap.size 80 _ from F1.out.bl (q:=w.heap.size) (t:=80) (cs:=#[.int .i64 (K:Int),.int .u64 (n:Int),.slice r.1 r.2.1 r.2.2.1,.slice A m cc]) N0.out (by omega) (own_lt HW.out.own (Nat.le_refl _)))
 have N1c:w1.cell? ⟨w.heap.size,0,none⟩=some (.int .i64 (K:Int)):=N1.out.cell_ rfl
 have c51:w1.cell? ⟨g,5,none⟩=some (.slice E l.length cap):=W1.out.row.cell_ rfl
 have BA:=Lib.hid (show Below w1.heap.size w1 (w1.alloc (.cells #[.int .u8 (K:Int)] 5)).drew from((Below.refl _ w1).alloc (Nat.le_refl _) _).drew)
 have NA:=Lib.hid (show Bl (w1.alloc (.cells #[.int .u8 (K:Int)] 5)).drew w.heap.size 80 _ from N1.out.below' BA.out)
 have NAc:(w1.alloc (.cells #[.int .u8 (K:Int)] 5)).cell? ⟨w.heap.size,0,none⟩=some (.int .i64 (K:Int)):=NA.out.cell_ rfl
 have RA:=Lib.hid (W1.out.row.below' BA.out)
 have OA:=Lib.hid (own_below W1.out.own BA.out)
 have c5A:(w1.alloc (.cells #[.int .u8 (K:Int)] 5)).cell? ⟨g,5,none⟩=some (.slice E l.length cap):=RA.out.cell_ rfl
 have SA:=Lib.hid (show Sl (w1.alloc (.cells #[.int .u8 (K:Int)] 5)).drew (some ⟨w1.heap.size,0,none⟩) 1 (bl [K]) from Sl.new_ w1 5 (bl [K]))
 have WAs:=Lib.hid (show w.heap.size < w1.heap.size∧w1.heap.size < (w1.alloc (.cells #[.int .u8 (K:Int)] 5)).drew.heap.size from⟨N1.out.lt,by show _ < (w1.alloc _).heap.size;simp⟩)
 go_upto_region 2 with fail
 apply region_cut (I:=fun(E4:Option Addr) (cap4:Nat) w'=>Wt w' g a b c d (k+1) (l ++ [K]) (.slice E4 (l.length+1) cap4)∧Fr w w' g (.slice E l.length cap) (.slice E4 (l.length+1) cap4)∧Below g w w'∧Bl w' w.heap.size 80 #[.int .i64 (K:Int),.int .u64 (n:Int),.slice r.1 r.2.1 r.2.2.1,.slice A m cc])
 ·refine wp_region_held_drew (S:=fun w'=>w'.cell? ⟨w.heap.size,0,none⟩=some (.int .i64 (K:Int))) (by kernel_rfl) (by exact N1c) (fun _=>?_)
  refine take_l 0 (v:=?_) rfl (by kernel_rfl) (by kernel_rfl) (by kernel_rfl) (fun _ _ _ h=>h) (Or.inl ⟨by rfl,?_⟩) (by show World.cell? _ _=_;first|exact N1c|exact NAc|exact N4c|exact N5c) ?_;rotate_left
  ·intro w' hSw
   replace hSw:w'.cell? ⟨w.heap.size,0,none⟩=some (.int .i64 (K:Int)):=hSw
   go_simp
   all_goals with_reducible rfl
  try simp only[Act.put,List.setIfInBounds_toArray,List.set_cons_zero,List.set_cons_succ]
  refine take_l 1 (v:=?_) rfl (by kernel_rfl) (by kernel_rfl) (by kernel_rfl) (fun _ _ _ h=>h) (Or.inl ⟨by rfl,?_⟩) (by show World.cell? _ _=_;first|exact N1c|exact NAc|exact N4c|exact N5c) ?_;rotate_left
  ·intro w' hSw
   replace hSw:w'.cell? ⟨w.heap.size,0,none⟩=some (.int .i64 (K:Int)):=hSw
   go_simp
   all_goals with_reducible rfl
  try simp only[Act.put,List.setIfInBounds_toArray,List.set_cons_zero,List.set_cons_succ]
  refine take_l 2 (v:=?_) rfl (by kernel_rfl) (by kernel_rfl) (by kernel_rfl) (fun _ _ _ h=>h) (Or.inl ⟨by rfl,?_⟩) (by show World.cell? _ _=_;first|exact N1c|exact NAc|exact N4c|exact N5c) ?_;rotate_left
  ·intro w' hSw
   replace hSw:w'.cell? ⟨w.heap.size,0,none⟩=some (.int .i64 (K:Int)):=hSw
   go_simp
   all_goals with_reducible rfl
  try simp only[Act.put,List.setIfInBounds_toArray,List.set_cons_zero,List.set_cons_succ]
  refine take_l 3 (v:=?_) rfl (by kernel_rfl) (by kernel_rfl) (by kernel_rfl) (fun _ _ _ h=>h) (Or.inl ⟨by rfl,?_⟩) (by show World.cell? _ _=_;first|exact N1c|exact NAc|exact N4c|exact N5c) ?_;rotate_left
  ·intro w' hSw
   replace hSw:w'.cell? ⟨w.heap.size,0,none⟩=some (.int .i64 (K:Int)):=hSw
   go_simp
   all_goals with_reducible rfl
  try simp only[Act.put,List.setIfInBounds_toArray,List.set_cons_zero,List.set_cons_succ]
  refine take_l 5 (v:=?_) rfl (by kernel_rfl) (by kernel_rfl) (by kernel_rfl) (fun _ _ _ h=>h) (Or.inl ⟨by rfl,?_⟩) (by show World.cell? _ _=_;first|exact N1c|exact NAc|exact N4c|exact N5c) ?_;rotate_left
  ·intro w' hSw
   replace hSw:w'.cell? ⟨w.heap.size,0,none⟩=some (.int .i64 (K:Int)):=hSw
   go_simp
   all_goals with_reducible rfl
  try simp only[Act.put,List.setIfInBounds_toArray,List.set_cons_zero,List.set_cons_succ]
  refine take_l 6 (v:=?_) rfl (by kernel_rfl) (by kernel_rfl) (by kernel_rfl) (fun _ _ _ h=>h) (Or.inl ⟨by rfl,?_⟩) (by show World.cell? _ _=_;first|exact N1c|exact NAc|exact N4c|exact N5c) ?_;rotate_left
  ·intro w' hSw
   replace hSw:w'.cell? ⟨w.heap.size,0,none⟩=some (.int .i64 (K:Int)):=hSw
   go_simp
   all_goals with_reducible rfl
  try simp only[Act.put,List.setIfInBounds_toArray,List.set_cons_zero,List.set_cons_succ]
  refine take_l 7 (v:=?_) rfl (by kernel_rfl) (by kernel_rfl) (by kernel_rfl) (fun _ _ _ h=>h) (Or.inl ⟨by rfl,?_⟩) (by show World.cell? _ _=_;first|exact N1c|exact NAc|exact N4c|exact N5c) ?_;rotate_left
  ·intro w' hSw
   replace hSw:w'.cell? ⟨w.heap.size,0,none⟩=some (.int .i64 (K:Int)):=hSw
   go_simp
   all_goals with_reducible rfl
  try simp only[Act.put,List.setIfInBounds_toArray,List.set_cons_zero,List.set_cons_succ]
  refine wpAnyH_ready (rs:=[4,8]) (by kernel_rfl) (by simp) ?_
  refine cons_l rfl (fun K0 hK=>?_) (cons_l rfl (fun K0 hK=>?_) AllReadyH.nil)
  ·go_simp
   refine hK.out _ _ (by show World.cell? _ _=_;first|exact N1c|exact NAc|exact N4c|exact N5c) (fun _=>?_)
   clear hK K0
   try simp only[Act.put,List.setIfInBounds_toArray,List.set_cons_zero,List.set_cons_succ]
   refine wpAnyH_ready (rs:=[8]) (by kernel_rfl) (by simp) ?_
   refine cons_l rfl (fun K0 hK=>?_) AllReadyH.nil
   go_simp
   refine hK.out _ _ (by show World.cell? _ _=_;first|exact N1c|exact NAc|exact N4c|exact N5c) (fun _=>?_)
   clear hK K0
   try simp only[Act.put,List.setIfInBounds_toArray,List.set_cons_zero,List.set_cons_succ]
   refine wpAnyH_ready (rs:=[9]) (by kernel_rfl) (by simp) ?_
   refine cons_l rfl (fun K0 hK=>?_) AllReadyH.nil
   refine step_append_at (w1.alloc (.cells #[.int .u8 (K:Int)] 5)).drew rfl _ _ 25 rfl (g+1) 5 i0 _ 1 1 Try.underlying25 hi hz0 hz1 hz2 rfl (by decide) (.slice E l.length cap) l.length (bl l) rfl OA.out (some ⟨w1.heap.size,0,none⟩) 1 1 (bl [K]) rfl (fun e=>by cases e) SA.out (bl_one _) (by unfold maxLen;omega) (by omega) (by have:=WAs.out;omega) ?_
   intro v4 w4 hown4 hgrow4 hat4
   have GR:=Lib.hid hgrow4
   have AT:=Lib.hid hat4
   have OW:=Lib.hid hown4
   obtain⟨E4,cap4,rfl,-, -, -, -, -⟩:=Sl.own hown4
   have R4:=Lib.hid (show Bl w4 g 121 _ from(hgrow4.block g (by have:=WAs.out;omega) (fun e=>by have:=own_rows OA.out g e.symm;omega)).trans RA.out)
   have N4:=Lib.hid (show Bl w4 w.heap.size 80 _ from(hgrow4.block w.heap.size (by have:=WAs.out;omega) (fun e=>(own_lt O1.out (q:=w.heap.size) (Nat.le_refl _)) e.symm)).trans NA.out)
   have N4c:w4.cell? ⟨w.heap.size,0,none⟩=some (.int .i64 (K:Int)):=N4.out.cell_ rfl
   have N5c:(w4.setCell ⟨g,5,none⟩ (.slice E4 (l.length+1) cap4)).cell? ⟨w.heap.size,0,none⟩=some (.int .i64 (K:Int)):=(N4.out.other (p:=⟨g,5,none⟩) (by show w.heap.size≠g;omega) _).cell_ rfl
   have c54:w4.cell? ⟨g,5,none⟩=some (.slice E l.length cap):=R4.out.cell_ rfl
   have f54:=R4.out.frozen 5
   clear hown4 hgrow4 hat4
   refine hK.out _ _ (by show World.cell? _ _=_;first|exact N1c|exact NAc|exact N4c|exact N5c) (fun _=>?_)
   clear hK K0
   try simp only[Act.put,List.setIfInBounds_toArray,List.set_cons_zero,List.set_cons_succ]
   refine wpAnyH_ready (rs:=[10]) (by kernel_rfl) (by simp) ?_
   refine cons_l rfl (fun K0 hK=>?_) AllReadyH.nil
   go_simp
   refine hK.out _ _ (by show World.cell? _ _=_;first|exact N1c|exact NAc|exact N4c|exact N5c) (fun _=>?_)
   clear hK K0
   try simp only[Act.put,List.setIfInBounds_toArray,List.set_cons_zero,List.set_cons_succ]
   refine wpAnyH_ready (rs:=[11]) (by kernel_rfl) (by simp) ?_
   refine cons_l rfl (fun K0 hK=>?_) AllReadyH.nil
   go_simp
   refine hK.out _ _ (by show World.cell? _ _=_;first|exact N1c|exact NAc|exact N4c|exact N5c) (fun _=>?_)
   clear hK K0
   try simp only[Act.put,List.setIfInBounds_toArray,List.set_cons_zero,List.set_cons_succ]
   refine wpAnyH_ready (rs:=[12]) (by kernel_rfl) (by simp) ?_
   refine cons_l rfl (fun K0 hK=>?_) AllReadyH.nil
   go_simp
   refine hK.out _ _ (by show World.cell? _ _=_;first|exact N1c|exact NAc|exact N4c|exact N5c) (fun _=>?_)
   clear hK K0
   try simp only[Act.put,List.setIfInBounds_toArray,List.set_cons_zero,List.set_cons_succ]
   refine wpAnyH_done (by kernel_rfl) ?_ _
   refine⟨E4,cap4,rfl,⟨R4.out.set_ 5 _,?_⟩,⟨?_,?_,?_⟩,?_,N4.out.other (p:=⟨g,5,none⟩) (by show w.heap.size≠g;omega) _⟩
   ·have h:=ownsRow_setCell_below OW.out (a:=⟨g,5,none⟩) (Nat.lt_succ_self g) (.slice E4 (l.length+1) cap4)
    rw[List.length_append]
    simpa[bl] using h
   ·rw[setc_size];exact Nat.le_trans F2.out.size (Nat.le_trans BA.out.size GR.out.size)
   ·intro j hj hg hT
    exact(Below.heap_setCell w4 ⟨g,5,none⟩ _ j (by show j≠g;exact hg)).trans ((GR.out.block j (Nat.lt_of_lt_of_le hj (Nat.le_trans F2.out.size BA.out.size)) (fun e=>hT e.symm)).trans ((BA.out.block j (Nat.lt_of_lt_of_le hj F2.out.size)).trans (F2.out.keep j hj hg hT)))
   ·intro j hj
    rcases AT.out j hj with h|h
    ·exact .inl h
    ·exact .inr (Nat.le_trans (Nat.le_trans F2.out.size BA.out.size) h)
   ·refine(((B2.out.trans (BA.out.mono ?_)).grown GR.out ?_ ?_).setCell (p:=⟨g,5,none⟩) (Nat.le_refl _) _)
    ·exact Nat.le_of_lt (Nat.lt_of_lt_of_le glt F2.out.size)
    ·have:=WAs.out;omega
    ·intro j hj;have:=own_rows OA.out j hj;omega
  ·go_simp
   refine hK.out _ _ (by show World.cell? _ _=_;first|exact N1c|exact NAc|exact N4c|exact N5c) (fun _=>?_)
   clear hK K0
   try simp only[Act.put,List.setIfInBounds_toArray,List.set_cons_zero,List.set_cons_succ]
   refine wpAnyH_ready (rs:=[4]) (by kernel_rfl) (by simp) ?_
   refine cons_l rfl (fun K0 hK=>?_) AllReadyH.nil
   go_simp
   refine hK.out _ _ (by show World.cell? _ _=_;first|exact N1c|exact NAc|exact N4c|exact N5c) (fun _=>?_)
   clear hK K0
   try simp only[Act.put,List.setIfInBounds_toArray,List.set_cons_zero,List.set_cons_succ]
   refine wpAnyH_ready (rs:=[9]) (by kernel_rfl) (by simp) ?_
   refine cons_l rfl (fun K0 hK=>?_) AllReadyH.nil
   refine step_append_at (w1.alloc (.cells #[.int .u8 (K:Int)] 5)).drew rfl _ _ 25 rfl (g+1) 5 i0 _ 1 1 Try.underlying25 hi hz0 hz1 hz2 rfl (by decide) (.slice E l.length cap) l.length (bl l) rfl OA.out (some ⟨w1.heap.size,0,none⟩) 1 1 (bl [K]) rfl (fun e=>by cases e) SA.out (bl_one _) (by unfold maxLen;omega) (by omega) (by have:=WAs.out;omega) ?_
   intro v4 w4 hown4 hgrow4 hat4
   have GR:=Lib.hid hgrow4
   have AT:=Lib.hid hat4
   have OW:=Lib.hid hown4
   obtain⟨E4,cap4,rfl,-, -, -, -, -⟩:=Sl.own hown4
   have R4:=Lib.hid (show Bl w4 g 121 _ from(hgrow4.block g (by have:=WAs.out;omega) (fun e=>by have:=own_rows OA.out g e.symm;omega)).trans RA.out)
   have N4:=Lib.hid (show Bl w4 w.heap.size 80 _ from(hgrow4.block w.heap.size (by have:=WAs.out;omega) (fun e=>(own_lt O1.out (q:=w.heap.size) (Nat.le_refl _)) e.symm)).trans NA.out)
   have N4c:w4.cell? ⟨w.heap.size,0,none⟩=some (.int .i64 (K:Int)):=N4.out.cell_ rfl
   have N5c:(w4.setCell ⟨g,5,none⟩ (.slice E4 (l.length+1) cap4)).cell? ⟨w.heap.size,0,none⟩=some (.int .i64 (K:Int)):=(N4.out.other (p:=⟨g,5,none⟩) (by show w.heap.size≠g;omega) _).cell_ rfl
   have c54:w4.cell? ⟨g,5,none⟩=some (.slice E l.length cap):=R4.out.cell_ rfl
   have f54:=R4.out.frozen 5
   clear hown4 hgrow4 hat4
   refine hK.out _ _ (by show World.cell? _ _=_;first|exact N1c|exact NAc|exact N4c|exact N5c) (fun _=>?_)
   clear hK K0
   try simp only[Act.put,List.setIfInBounds_toArray,List.set_cons_zero,List.set_cons_succ]
   refine wpAnyH_ready (rs:=[10]) (by kernel_rfl) (by simp) ?_
   refine cons_l rfl (fun K0 hK=>?_) AllReadyH.nil
   go_simp
   refine hK.out _ _ (by show World.cell? _ _=_;first|exact N1c|exact NAc|exact N4c|exact N5c) (fun _=>?_)
   clear hK K0
   try simp only[Act.put,List.setIfInBounds_toArray,List.set_cons_zero,List.set_cons_succ]
   refine wpAnyH_ready (rs:=[11]) (by kernel_rfl) (by simp) ?_
   refine cons_l rfl (fun K0 hK=>?_) AllReadyH.nil
   go_simp
   refine hK.out _ _ (by show World.cell? _ _=_;first|exact N1c|exact NAc|exact N4c|exact N5c) (fun _=>?_)
   clear hK K0
   try simp only[Act.put,List.setIfInBounds_toArray,List.set_cons_zero,List.set_cons_succ]
   refine wpAnyH_ready (rs:=[12]) (by kernel_rfl) (by simp) ?_
   refine cons_l rfl (fun K0 hK=>?_) AllReadyH.nil
   go_simp
   refine hK.out _ _ (by show World.cell? _ _=_;first|exact N1c|exact NAc|exact N4c|exact N5c) (fun _=>?_)
   clear hK K0
   try simp only[Act.put,List.setIfInBounds_toArray,List.set_cons_zero,List.set_cons_succ]
   refine wpAnyH_done (by kernel_rfl) ?_ _
   refine⟨E4,cap4,rfl,⟨R4.out.set_ 5 _,?_⟩,⟨?_,?_,?_⟩,?_,N4.out.other (p:=⟨g,5,none⟩) (by show w.heap.size≠g;omega) _⟩
   ·have h:=ownsRow_setCell_below OW.out (a:=⟨g,5,none⟩) (Nat.lt_succ_self g) (.slice E4 (l.length+1) cap4)
    rw[List.length_append]
    simpa[bl] using h
   ·rw[setc_size];exact Nat.le_trans F2.out.size (Nat.le_trans BA.out.size GR.out.size)
   ·intro j hj hg hT
    exact(Below.heap_setCell w4 ⟨g,5,none⟩ _ j (by show j≠g;exact hg)).trans ((GR.out.block j (Nat.lt_of_lt_of_le hj (Nat.le_trans F2.out.size BA.out.size)) (fun e=>hT e.symm)).trans ((BA.out.block j (Nat.lt_of_lt_of_le hj F2.out.size)).trans (F2.out.keep j hj hg hT)))
   ·intro j hj
    rcases AT.out j hj with h|h
    ·exact .inl h
    ·exact .inr (Nat.le_trans (Nat.le_trans F2.out.size BA.out.size) h)
   ·refine(((B2.out.trans (BA.out.mono ?_)).grown GR.out ?_ ?_).setCell (p:=⟨g,5,none⟩) (Nat.le_refl _) _)
    ·exact Nat.le_of_lt (Nat.lt_of_lt_of_le glt F2.out.size)
    ·have:=WAs.out;omega
    ·intro j hj;have:=own_rows OA.out j hj;omega
 intro E4 cap4 w5 ⟨h1,h2,h3,h4⟩
 have W5:=Lib.hid h1
 have F5:=Lib.hid h2
 have B5:=Lib.hid h3
 have N5:=Lib.hid h4
 clear h1 h2 h3 h4 W1 F1 B1 F2 B2 N1 N1c c51 BA NA NAc RA OA c5A SA WAs O1 c5 N0
 have z0:w5.cell? ⟨w.heap.size,0,none⟩=some (.int .i64 (K:Int)):=N5.out.cell_ rfl
 have z1:w5.cell? ⟨w.heap.size,1,none⟩=some (.int .u64 (n:Int)):=N5.out.cell_ rfl
 have z2:w5.cell? ⟨w.heap.size,2,none⟩=some (.slice r.1 r.2.1 r.2.2.1):=N5.out.cell_ rfl
 have z3:w5.cell? ⟨w.heap.size,3,none⟩=some (.slice A m cc):=N5.out.cell_ rfl
 have kk:=kk.out
 obtain⟨rA,rn,rc,rl⟩:=r
 obtain⟨L,hL⟩:∃L,rn=L:=⟨_,rfl⟩
 subst hL
 have c5':w5.cell? ⟨g,5,none⟩=some (.slice E4 (l.length+1) cap4):=W5.out.row.cell_ rfl
 have lw:IntKind.u64.wrap (rn:Int)=(rn:Int):=by simp only[IntKind.wrap_u64];simp only[] at hl;omega
 have CH:=Lib.hid (fun x:Int=>show Calls _ _ _ _ (fun e w'=>e=.returned (.tuple #[])∧w5.drew=w') from(whold_any (W5.out.below (below_drewN (Below.refl _ w5) 1)) d0 d1 x rn).mono fun e w' ⟨h1,h2⟩=>⟨by rw[if_neg (show ¬d < (rn:Int) from by have h9:=hd2.out;first|exact h9|exact Int.not_lt.2 h9)] at h1;exact h1,h2⟩)
 have hl9:l.length+rn≤800000:=hl
 have CC:=Lib.hid (wcount_any (W5.out.below (below_drewN (Below.refl _ w5) 1)) (by simp;omega) rn (by omega))
 have CL:=cb_len (n:=rn) (by omega)
 have B5d:=Lib.hid (show Below w5.heap.size w5 w5.drew from below_drewN (Below.refl _ w5) 1)
 clear hd2 d0 d1 hl
 go_upto_region 8 with fail
 refine wp_region_held_drew (S:=fun _=>True) (by kernel_rfl) trivial (fun _=>?_)
 refine take_l 0 (v:=?_) rfl (by kernel_rfl) (by kernel_rfl) (by kernel_rfl) (fun _ _ _ h=>h) (Or.inl ⟨by rfl,?_⟩) trivial ?_;rotate_left
 ·intro w' hSw
  go_simp
  all_goals with_reducible rfl
 try simp only[Act.put,List.setIfInBounds_toArray,List.set_cons_zero,List.set_cons_succ]
 refine take_l 1 (v:=?_) rfl (by kernel_rfl) (by kernel_rfl) (by kernel_rfl) (fun _ _ _ h=>h) (Or.inl ⟨by rfl,?_⟩) trivial ?_;rotate_left
 ·intro w' hSw
  go_simp
  all_goals with_reducible rfl
 try simp only[Act.put,List.setIfInBounds_toArray,List.set_cons_zero,List.set_cons_succ]
 refine take_l 2 (v:=?_) rfl (by kernel_rfl) (by kernel_rfl) (by kernel_rfl) (fun _ _ _ h=>h) (Or.inl ⟨by rfl,?_⟩) trivial ?_;rotate_left
 ·intro w' hSw
  go_simp
  all_goals with_reducible rfl
 try simp only[Act.put,List.setIfInBounds_toArray,List.set_cons_zero,List.set_cons_succ]
 refine take_l 3 (v:=?_) rfl (by kernel_rfl) (by kernel_rfl) (by kernel_rfl) (fun _ _ _ h=>h) (Or.inl ⟨by rfl,?_⟩) trivial ?_;rotate_left
 ·intro w' hSw
  go_simp
  all_goals with_reducible rfl
 try simp only[Act.put,List.setIfInBounds_toArray,List.set_cons_zero,List.set_cons_succ]
 refine take_l 4 (v:=?_) rfl (by kernel_rfl) (by kernel_rfl) (by kernel_rfl) (fun _ _ _ h=>h) (Or.inl ⟨by rfl,?_⟩) trivial ?_;rotate_left
 ·intro w' hSw
  go_simp
  all_goals with_reducible rfl
 try simp only[Act.put,List.setIfInBounds_toArray,List.set_cons_zero,List.set_cons_succ]
 refine take_l 5 (v:=?_) rfl (by kernel_rfl) (by kernel_rfl) (by kernel_rfl) (fun _ _ _ h=>h) (Or.inl ⟨by rfl,?_⟩) trivial ?_;rotate_left
 ·intro w' hSw
  go_simp
  all_goals with_reducible rfl
 try simp only[Act.put,List.setIfInBounds_toArray,List.set_cons_zero,List.set_cons_succ]
 refine take_l 8 (v:=?_) rfl (by kernel_rfl) (by kernel_rfl) (by kernel_rfl) (fun _ _ _ h=>h) (Or.inl ⟨by rfl,?_⟩) trivial ?_;rotate_left
 ·intro w' hSw
  go_simp
  all_goals with_reducible rfl
 try simp only[Act.put,List.setIfInBounds_toArray,List.set_cons_zero,List.set_cons_succ]
 refine wpAnyH_ready (rs:=[6]) (by kernel_rfl) (by simp) ?_
 refine cons_l rfl (fun K0 hK=>?_) AllReadyH.nil
 go_simp
 refine hK.out _ _ trivial (fun _=>?_)
 clear hK K0
 try simp only[Act.put,List.setIfInBounds_toArray,List.set_cons_zero,List.set_cons_succ]
 refine take_l 7 (v:=?_) rfl (by kernel_rfl) (by kernel_rfl) (by kernel_rfl) (fun _ _ _ h=>h) (Or.inl ⟨by rfl,?_⟩) trivial ?_;rotate_left
 ·intro w' hSw
  go_simp
  all_goals with_reducible rfl
 try simp only[Act.put,List.setIfInBounds_toArray,List.set_cons_zero,List.set_cons_succ]
 refine wpAnyH_ready (rs:=[9]) (by kernel_rfl) (by simp) ?_
 refine cons_l rfl (fun K0 hK=>?_) AllReadyH.nil
 go_simp
 (go_at_call 93;(refine(CH.out _).mono ?_);rintro e w6 ⟨rfl,rfl⟩)
 refine hK.out _ _ trivial (fun _=>?_)
 clear hK K0
 try simp only[Act.put,List.setIfInBounds_toArray,List.set_cons_zero,List.set_cons_succ]
 refine wpAnyH_done (by kernel_rfl) ?_ _
 go_upto_region 10 with(go_at_call 92;(refine CC.out.mono ?_);rintro e w6 ⟨rfl,T6,h1,h2,h3⟩;have W6:=Lib.hid h1;have F6:=Lib.hid h2;have B6:=Lib.hid h3;clear h1 h2 h3)
 obtain⟨L6,hL6⟩:∃L6,(l ++ [K] ++ cb rn).length=L6:=⟨_,rfl⟩
 have HL6:=Lib.hid hL6
 obtain⟨E6,cap6,rfl,-, -, -, -, -⟩:=Sl.own W6.out.own
 have O6:=Lib.hid W6.out.own
 have BW6:=Lib.hid (show Below g w w6 from(below_drewN B5.out 1).trans B6.out)
 have P6:=Lib.hid (hr w6 BW6.out)
 have lr:rn=rl.length:=P6.out.len
 have P6r:=Lib.hid (show Sl w6.drew rA (rn*1) (bl rl) from by have:=P6.out.row;rw[Nat.mul_one,lr];exact this)
 have N6:=Lib.hid (show Bl w6 w.heap.size 80 _ from F6.out.bl (q:=w.heap.size) (t:=80) (cs:=#[.int .i64 (K:Int),.int .u64 (n:Int),.slice rA rn rc,.slice A m cc]) N5.out (by omega) (own_ne W5.out.own N5.out (by decide)))
 have G6:=Lib.hid (show g < w6.heap.size from W6.out.row.lt)
 have y2:w6.cell? ⟨w.heap.size,2,none⟩=some (.slice rA rn rc):=N6.out.cell_ rfl
 have c56:w6.cell? ⟨g,5,none⟩=some (.slice E6 (l ++ [K] ++ cb rn).length cap6):=W6.out.row.cell_ rfl
 have L6b:L6≤810000:=by rw[←hL6];simp only[List.length_append,List.length_cons,List.length_nil];omega
 rw[hL6] at O6 c56
 have W6b:=Lib.hid (show Wt w6 g a b c d (k+1) (l ++ [K] ++ cb rn) (.slice E6 L6 cap6) from hL6▸W6.out)
 have F6b:=Lib.hid (show Fr (w5.drewN 1) w6 g (.slice E4 (l.length+1) cap4) (.slice E6 L6 cap6) from hL6▸F6.out)
 have hrn:rn≤800000:=by omega
 clear hL6 lr hl9
 refine wp_region_held_drew (S:=fun w'=>w'.cell? ⟨w.heap.size,2,none⟩=some (.slice rA rn rc)) (by kernel_rfl) (by exact y2) (fun _=>?_)
 refine take_l 0 (v:=?_) rfl (by kernel_rfl) (by kernel_rfl) (by kernel_rfl) (fun _ _ _ h=>h) (Or.inl ⟨by rfl,?_⟩) (by show World.cell? _ _=_;first|exact y2|exact x2|exact v2) ?_;rotate_left
 ·intro w' hSw
  replace hSw:w'.cell? ⟨w.heap.size,2,none⟩=some (.slice rA rn rc):=hSw
  go_simp
  all_goals with_reducible rfl
 try simp only[Act.put,List.setIfInBounds_toArray,List.set_cons_zero,List.set_cons_succ]
 refine take_l 1 (v:=?_) rfl (by kernel_rfl) (by kernel_rfl) (by kernel_rfl) (fun _ _ _ h=>h) (Or.inl ⟨by rfl,?_⟩) (by show World.cell? _ _=_;first|exact y2|exact x2|exact v2) ?_;rotate_left
 ·intro w' hSw
  replace hSw:w'.cell? ⟨w.heap.size,2,none⟩=some (.slice rA rn rc):=hSw
  go_simp
  all_goals with_reducible rfl
 try simp only[Act.put,List.setIfInBounds_toArray,List.set_cons_zero,List.set_cons_succ]
 refine take_l 2 (v:=?_) rfl (by kernel_rfl) (by kernel_rfl) (by kernel_rfl) (fun _ _ _ h=>h) (Or.inl ⟨by rfl,?_⟩) (by show World.cell? _ _=_;first|exact y2|exact x2|exact v2) ?_;rotate_left
 ·intro w' hSw
  replace hSw:w'.cell? ⟨w.heap.size,2,none⟩=some (.slice rA rn rc):=hSw
  go_simp
  all_goals with_reducible rfl
 try simp only[Act.put,List.setIfInBounds_toArray,List.set_cons_zero,List.set_cons_succ]
 refine take_l 3 (v:=?_) rfl (by kernel_rfl) (by kernel_rfl) (by kernel_rfl) (fun _ _ _ h=>h) (Or.inl ⟨by rfl,?_⟩) (by show World.cell? _ _=_;first|exact y2|exact x2|exact v2) ?_;rotate_left
 ·intro w' hSw
  replace hSw:w'.cell? ⟨w.heap.size,2,none⟩=some (.slice rA rn rc):=hSw
  go_simp
  all_goals with_reducible rfl
 try simp only[Act.put,List.setIfInBounds_toArray,List.set_cons_zero,List.set_cons_succ]
 refine take_l 5 (v:=?_) rfl (by kernel_rfl) (by kernel_rfl) (by kernel_rfl) (fun _ _ _ h=>h) (Or.inl ⟨by rfl,?_⟩) (by show World.cell? _ _=_;first|exact y2|exact x2|exact v2) ?_;rotate_left
 ·intro w' hSw
  replace hSw:w'.cell? ⟨w.heap.size,2,none⟩=some (.slice rA rn rc):=hSw
  go_simp
  all_goals with_reducible rfl
 try simp only[Act.put,List.setIfInBounds_toArray,List.set_cons_zero,List.set_cons_succ]
 refine take_l 6 (v:=?_) rfl (by kernel_rfl) (by kernel_rfl) (by kernel_rfl) (fun _ _ _ h=>h) (Or.inl ⟨by rfl,?_⟩) (by show World.cell? _ _=_;first|exact y2|exact x2|exact v2) ?_;rotate_left
 ·intro w' hSw
  replace hSw:w'.cell? ⟨w.heap.size,2,none⟩=some (.slice rA rn rc):=hSw
  go_simp
  all_goals with_reducible rfl
 try simp only[Act.put,List.setIfInBounds_toArray,List.set_cons_zero,List.set_cons_succ]
 refine wpAnyH_ready (rs:=[4]) (by kernel_rfl) (by simp) ?_
 refine cons_l rfl (fun K0 hK=>?_) AllReadyH.nil
 go_simp
 refine hK.out _ _ (by show World.cell? _ _=_;first|exact y2|exact x2|exact v2) (fun _=>?_)
 clear hK K0
 try simp only[Act.put,List.setIfInBounds_toArray,List.set_cons_zero,List.set_cons_succ]
 refine wpAnyH_ready (rs:=[7]) (by kernel_rfl) (by simp) ?_
 refine cons_l rfl (fun K0 hK=>?_) AllReadyH.nil
 refine step_append_at w6.drew rfl _ _ 25 rfl (g+1) 5 i0 _ 1 1 Try.underlying25 hi hz0 hz1 hz2 rfl (by decide) (.slice E6 L6 cap6) L6 _ rfl O6.out rA rn rc (bl rl) rfl P6.out.nil P6r.out (bl_one _) (by unfold maxLen;omega) (by omega) (by have:=G6.out;show g+1≤w6.heap.size;omega) ?_
 intro v7 w7 hown7 hgrow7 hat7
 have GR:=Lib.hid hgrow7
 have AT:=Lib.hid hat7
 have OW:=Lib.hid hown7
 obtain⟨E7,cap7,rfl,-, -, -, -, -⟩:=Sl.own hown7
 have R7:=Lib.hid (show Bl w7 g 121 _ from(hgrow7.block g (by have:=G6.out;show g < w6.heap.size;omega) (fun e=>by have:=own_rows O6.out g e.symm;omega)).trans W6b.out.row)
 have N7:=Lib.hid (show Bl w7 w.heap.size 80 _ from(hgrow7.block w.heap.size (by have:=N6.out.lt;exact this) (fun e=>(own_ne O6.out N6.out (by decide)) e.symm)).trans N6.out)
 have x2:w7.cell? ⟨w.heap.size,2,none⟩=some (.slice rA rn rc):=N7.out.cell_ rfl
 have v2:(w7.setCell ⟨g,5,none⟩ (.slice E7 (L6+rn) cap7)).cell? ⟨w.heap.size,2,none⟩=some (.slice rA rn rc):=(N7.out.other (p:=⟨g,5,none⟩) (by show w.heap.size≠g;omega) _).cell_ rfl
 have c57:w7.cell? ⟨g,5,none⟩=some (.slice E6 L6 cap6):=R7.out.cell_ rfl
 have f57:=R7.out.frozen 5
 clear hown7 hgrow7 hat7
 refine hK.out _ _ (by show World.cell? _ _=_;first|exact y2|exact x2|exact v2) (fun _=>?_)
 clear hK K0
 try simp only[Act.put,List.setIfInBounds_toArray,List.set_cons_zero,List.set_cons_succ]
 refine wpAnyH_ready (rs:=[8]) (by kernel_rfl) (by simp) ?_
 refine cons_l rfl (fun K0 hK=>?_) AllReadyH.nil
 go_simp
 refine hK.out _ _ (by show World.cell? _ _=_;first|exact y2|exact x2|exact v2) (fun _=>?_)
 clear hK K0
 try simp only[Act.put,List.setIfInBounds_toArray,List.set_cons_zero,List.set_cons_succ]
 refine wpAnyH_ready (rs:=[9]) (by kernel_rfl) (by simp) ?_
 refine cons_l rfl (fun K0 hK=>?_) AllReadyH.nil
 go_simp
 refine hK.out _ _ (by show World.cell? _ _=_;first|exact y2|exact x2|exact v2) (fun _=>?_)
 clear hK K0
 try simp only[Act.put,List.setIfInBounds_toArray,List.set_cons_zero,List.set_cons_succ]
 refine wpAnyH_ready (rs:=[10]) (by kernel_rfl) (by simp) ?_
 refine cons_l rfl (fun K0 hK=>?_) AllReadyH.nil
 go_simp
 refine hK.out _ _ (by show World.cell? _ _=_;first|exact y2|exact x2|exact v2) (fun _=>?_)
 clear hK K0
 try simp only[Act.put,List.setIfInBounds_toArray,List.set_cons_zero,List.set_cons_succ]
 refine wpAnyH_done (by kernel_rfl) ?_ _
 go_wp2_with fail
 first|go_end0|refine bodyPost_ret (results_none rfl _ _ _) rfl ?_
 have F7:Fr w6 (w7.setCell ⟨g,5,none⟩ (.slice E7 (L6+rn) cap7)) g (.slice E6 L6 cap6) (.slice E7 (L6+rn) cap7):=by
  refine⟨by rw[setc_size];exact GR.out.size,fun j hj hg hT=>?_,AT.out⟩
  exact(Below.heap_setCell w7 ⟨g,5,none⟩ _ j (by show j≠g;exact hg)).trans (GR.out.block j hj (fun e=>hT e.symm))
 have F56:=(F5.out.trans (Fr.of g _ B5d.out)).trans F6b.out
 refine⟨.slice E7 (L6+rn) cap7,F56.trans F7,?_,.inl ⟨rfl,rfl,R7.out.set_ 5 _,?_⟩⟩
 ·refine(((below_drewN BW6.out 1).grown GR.out ?_ ?_).setCell (p:=⟨g,5,none⟩) (Nat.le_refl _) _)
  ·exact Nat.le_of_lt G6.out
  ·intro j hj;have:=own_rows O6.out j hj;omega
 ·have h:=ownsRow_setCell_below OW.out (a:=⟨g,5,none⟩) (Nat.lt_succ_self g) (.slice E7 (L6+rn) cap7)
  have e:l ++ K :: (cb rn ++ rl)=l ++ [K] ++ cb rn ++ rl:=by simp
  have lr:rn=rl.length:=P6.out.len
  show World.ownsRow _ _ _ _ _ (l ++ K :: (cb rn ++ rl)).length (bl (l ++ K :: (cb rn ++ rl)))
  rw[e,List.length_append,HL6.out,←lr]
  simpa[bl] using h
end Go.Proofs.Yteblmphohhbgcaa.Wr
