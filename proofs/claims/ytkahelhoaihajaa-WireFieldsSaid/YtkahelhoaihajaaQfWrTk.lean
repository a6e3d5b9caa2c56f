/- Joined texts. -/
import Derived.Test.YtkahelhoaihajaaQfWrMth
set_option linter.unusedVariables false
namespace Go.Proofs.Ytkahelhoaihajaa.Wr
open Go.RowKit Go.Proofs.Ytkahelhoaihajaa.Gn Go.Proofs.Ytkahelhoaihajaa.Fd Go.Deep
set_option maxRecDepth 100000
abbrev st2(w:World)(q:Nat)(a b:Value):World:=(w.setCell ⟨q,0,none⟩ a).setCell ⟨q,1,none⟩ b
theorem st2_bl{a:World}{q:Nat}{T:TypeId}{c0 c1:Value}(h:Bl a q T #[c0,c1])(v0 v1:Value):Bl (st2 a q v0 v1) q T #[v0,v1]:=(h.set_ 0 v0).set_ 1 v1
theorem st2_other{a:World}{q g:Nat}{T:TypeId}{cs:Array Value}(h:Bl a g T cs)(hq:g≠q)(v0 v1:Value):Bl (st2 a q v0 v1) g T cs:=(h.other (p:=⟨q,0,none⟩) hq v0).other (p:=⟨q,1,none⟩) hq v1
theorem st4_other{a:World}{q g:Nat}{T:TypeId}{cs:Array Value}(h:Bl a g T cs)(hq:g≠q)(v0 v1 v2 v3:Value):Bl (st4 a q v0 v1 v2 v3) g T cs:=(((h.other (p:=⟨q,0,none⟩) hq v0).other (p:=⟨q,1,none⟩) hq v1).other (p:=⟨q,2,none⟩) hq v2).other (p:=⟨q,3,none⟩) hq v3
theorem below_st2{B:Nat}{w w3:World}(h:Below B w w3){q:Nat}(hq:B≤q)(v0 v1:Value):Below B w (st2 w3 q v0 v1):=(h.setCell (p:=⟨q,0,none⟩) hq v0).setCell (p:=⟨q,1,none⟩) hq v1
theorem bl_drew{w:World}{g:Nat}{T:TypeId}{cs:Array Value}(h:Bl w g T cs):Bl w.drew g T cs:=h
theorem below_drew{B:Nat}{w w':World}(h:Below B w w'):Below B w w'.drew:=below_drewN h 1
theorem sizeF:(Try.prog.info? 54).map (·.size)=some 2:=by kernel_rfl
theorem results_ccb{fn:Func}{a b c:Tmp}{t u:TypeId}(h:fn.results = #[.cell a t,.cell b u,.tmp c])(tmps:Array Value)(P:Program)(w:World)(ad ad2:Addr)(v v2 x:Value)(ha:tmps.getD a undef=.pointer (some ad))(hb:tmps.getD b undef=.pointer (some ad2))(hc:tmps.getD c undef=x)(hl:(loadVar t ad).run P w=.ok v w)(hl2:(loadVar u ad2).run P w=.ok v2 w) :
  (results fn tmps).run P w=.ok (.tuple #[v,v2,x]) w:=by
 have ha':tmps[a]?.getD undef=.pointer (some ad):=by simpa using ha
 have hb':tmps[b]?.getD undef=.pointer (some ad2):=by simpa using hb
 have hc':tmps[c]?.getD undef=x:=by simpa using hc
 simp[results,h,ha',hb',hc',hl,hl2,asAddr]
structure Dl (w:World) (A:Option Addr) (c:Nat) (ks:List Tv):Prop where
 sl:Sl w A (4*ks.length) (flat ks)
 none0:A=none→c=0
 le:ks.length≤c
 ok:∀t∈ks,Ok w t
theorem Dl.tail{w:World}{A:Option Addr}{c:Nat}{t:Tv}{ks:List Tv}(h:Dl w A c (t :: ks)):∃ad,A=some ad∧Dl w (if c=1 then some ad else some ⟨ad.block,ad.off+4,none⟩) (c - 1) ks:=by
 obtain⟨K,N,r,B,cc,us⟩:=t
 obtain⟨ad,rfl,-⟩:=head_cells h.sl
 refine⟨ad,rfl,⟨?_,fun e=>(by split at e <;> (cases e)),(by have:=h.le;simp at this;omega),fun x hx=>h.ok x (List.mem_cons_of_mem _ hx)⟩⟩
 split
 ·rename_i e;have hk:ks=[]:=List.length_eq_zero_iff.1 (by have:=h.le;simp at this;omega);subst hk;exact Sl.nil_ w _
 ·rw[←ad_pos ad (show 4≠0 by decide)];exact sl_tail4 h.sl
set_option maxHeartbeats 4000000 in
theorem Take_br(A:Option Addr)(m c:Nat)(k:Int)(w:World):Calls Try.prog 32 #[.agg #[.slice A m c,.bool true],.int .i64 k] w fun e w'=>e=.returned (.tuple #[tv0.val,.agg #[.slice A m c,.bool true],.bool false])∧Below w.heap.size w w':=by
 obtain⟨U,hU⟩:∃U,((w.alloc (.cells #[.slice A m c,.bool true] 54)).alloc nodo).alloc (.cells #[.slice none 0 0,.bool false] 54)=U:=⟨_,rfl⟩
 have BU:=Lib.hid (show Below w.heap.size w U from by rw[←hU];exact(((Below.refl _ w).alloc (Nat.le_refl _) _).alloc (by simp) _).alloc (by simp;omega) _)
 have P0:=Lib.hid (show Bl U w.heap.size 54 #[.slice A m c,.bool true] from by rw[←hU];exact((Bl.new_ w _ _).alloc _).alloc _)
 have P1:=Lib.hid (show Bl U (w.heap.size+1) 26 #[.int .i64 0,.int .u64 0,.slice none 0 0,.slice none 0 0] from by rw[←hU];exact(Bl.new' _ _ (by simp)).alloc _)
 have P2:=Lib.hid (show Bl U (w.heap.size+1+1) 54 #[.slice none 0 0,.bool false] from by rw[←hU];exact Bl.new' _ _ (by simp))
 have a0:U.cell? ⟨w.heap.size,0,none⟩=some (.slice A m c):=P0.out.cell_ rfl
 have a1:U.cell? ⟨w.heap.size,1,none⟩=some (.bool true):=P0.out.cell_ rfl
 have fa0:=P0.out.frozen 0
 have fa1:=P0.out.frozen 1
 have b0:U.cell? ⟨w.heap.size+1,0,none⟩=some (.int .i64 0):=P1.out.cell_ rfl
 have fb0:=P1.out.frozen 0
 have b1:U.cell? ⟨w.heap.size+1,1,none⟩=some (.int .u64 0):=P1.out.cell_ rfl
 have fb1:=P1.out.frozen 1
 have b2:U.cell? ⟨w.heap.size+1,2,none⟩=some (.slice none 0 0):=P1.out.cell_ rfl
 have fb2:=P1.out.frozen 2
 have b3:U.cell? ⟨w.heap.size+1,3,none⟩=some (.slice none 0 0):=P1.out.cell_ rfl
 have fb3:=P1.out.frozen 3
 have d0:U.cell? ⟨w.heap.size+1+1,0,none⟩=some (.slice none 0 0):=P2.out.cell_ rfl
 have fd0:=P2.out.frozen 0
 have d1:U.cell? ⟨w.heap.size+1+1,1,none⟩=some (.bool false):=P2.out.cell_ rfl
 have fd1:=P2.out.frozen 1
 obtain⟨V,hV⟩:∃V,U.setCell ⟨w.heap.size,1,none⟩ (.bool true)=V:=⟨_,rfl⟩
 have BV:=Lib.hid (show Below w.heap.size w V from by rw[←hV];exact BU.out.setCell (p:=⟨w.heap.size,1,none⟩) (Nat.le_refl _) _)
 have R0:=Lib.hid (show Bl V w.heap.size 54 #[.slice A m c,.bool true] from by rw[←hV];exact P0.out.set_ 1 _)
 have R1:=Lib.hid (show Bl V (w.heap.size+1) 26 #[.int .i64 0,.int .u64 0,.slice none 0 0,.slice none 0 0] from by rw[←hV];exact P1.out.other (p:=⟨w.heap.size,1,none⟩) (by show w.heap.size+1≠w.heap.size;omega) _)
 have R2:=Lib.hid (show Bl V (w.heap.size+1+1) 54 #[.slice none 0 0,.bool false] from by rw[←hV];exact P2.out.other (p:=⟨w.heap.size,1,none⟩) (by show w.heap.size+1+1≠w.heap.size;omega) _)
 have va0:V.cell? ⟨w.heap.size,0,none⟩=some (.slice A m c):=R0.out.cell_ rfl
 have va1:V.cell? ⟨w.heap.size,1,none⟩=some (.bool true):=R0.out.cell_ rfl
 have gfa0:=R0.out.frozen 0
 have gfa1:=R0.out.frozen 1
 have vb0:V.cell? ⟨w.heap.size+1,0,none⟩=some (.int .i64 0):=R1.out.cell_ rfl
 have gfb0:=R1.out.frozen 0
 have vb1:V.cell? ⟨w.heap.size+1,1,none⟩=some (.int .u64 0):=R1.out.cell_ rfl
 have gfb1:=R1.out.frozen 1
 have vb2:V.cell? ⟨w.heap.size+1,2,none⟩=some (.slice none 0 0):=R1.out.cell_ rfl
 have gfb2:=R1.out.frozen 2
 have vb3:V.cell? ⟨w.heap.size+1,3,none⟩=some (.slice none 0 0):=R1.out.cell_ rfl
 have gfb3:=R1.out.frozen 3
 have vd0:V.cell? ⟨w.heap.size+1+1,0,none⟩=some (.slice none 0 0):=R2.out.cell_ rfl
 have gfd0:=R2.out.frozen 0
 have vd1:V.cell? ⟨w.heap.size+1+1,1,none⟩=some (.bool false):=R2.out.cell_ rfl
 have gfd1:=R2.out.frozen 1
 go_enter Try.func32,Try.ntmps32
 go_upto_region 3 with fail
 refine wp_region_held_drew (S:=fun x=>Bl x w.heap.size 54 #[.slice A m c,.bool true]) (by kernel_rfl) (bl_drew R0.out) (fun hS9=>?_)
 clear hS9
 refine take_l 0 (v:=?_) rfl (by kernel_rfl) (by kernel_rfl) (by kernel_rfl) (fun _ _ _ h=>h) (Or.inl ⟨by rfl,?_⟩) (bl_drew R0.out) ?_;rotate_left
 ·intro w' hSw
  clear hSw
  go_simp
  all_goals with_reducible rfl
 try simp only[Act.put,List.setIfInBounds_toArray,List.set_cons_zero,List.set_cons_succ]
 refine take_l 1 (v:=?_) rfl (by kernel_rfl) (by kernel_rfl) (by kernel_rfl) (fun _ _ _ h=>h) (Or.inl ⟨by rfl,?_⟩) (bl_drew R0.out) ?_;rotate_left
 ·intro w' hSw
  have e0:w'.cell? ⟨w.heap.size,0,none⟩=some (.slice A m c):=Bl.cell_ hSw rfl
  have e1:w'.cell? ⟨w.heap.size,1,none⟩=some (.bool true):=Bl.cell_ hSw rfl
  clear hSw
  go_simp
  all_goals with_reducible rfl
 try simp only[Act.put,List.setIfInBounds_toArray,List.set_cons_zero,List.set_cons_succ]
 refine wpAnyH_ready (rs:=[2]) (by kernel_rfl) (by simp) ?_
 refine cons_l rfl (fun K0 hK=>?_) AllReadyH.nil
 go_simp
 refine hK.out _ _ (bl_drew (st4_other R0.out (by omega) _ _ _ _)) (fun hS9=>?_)
 clear hS9
 clear hK K0
 try simp only[Act.put,List.setIfInBounds_toArray,List.set_cons_zero,List.set_cons_succ]
 refine wpAnyH_ready (rs:=[3]) (by kernel_rfl) (by simp) ?_
 refine cons_l rfl (fun K0 hK=>?_) AllReadyH.nil
 go_simp
 refine hK.out _ _ (bl_drew (st2_other (st4_other R0.out (by omega) _ _ _ _) (by omega) _ _)) (fun hS9=>?_)
 clear hS9
 clear hK K0
 try simp only[Act.put,List.setIfInBounds_toArray,List.set_cons_zero,List.set_cons_succ]
 refine wpAnyH_ready (rs:=[4]) (by kernel_rfl) (by simp) ?_
 refine cons_l rfl (fun K0 hK=>?_) AllReadyH.nil
 go_simp
 refine hK.out _ _ (bl_drew (st2_other (st4_other R0.out (by omega) _ _ _ _) (by omega) _ _)) (fun hS9=>?_)
 clear hS9
 clear hK K0
 try simp only[Act.put,List.setIfInBounds_toArray,List.set_cons_zero,List.set_cons_succ]
 refine wpAnyH_done (by kernel_rfl) ?_ _
 have T1:=Lib.hid (show Bl (st2 (st4 V (w.heap.size+1) (.int .i64 0) (.int .u64 0) (.slice none 0 0) (.slice none 0 0)) (w.heap.size+1+1) (.slice A m c) (.bool true)).drew (w.heap.size+1) 26 #[.int .i64 0,.int .u64 0,.slice none 0 0,.slice none 0 0] from bl_drew (st2_other (st4_bl R1.out _ _ _ _) (by omega) _ _))
 have T2:=Lib.hid (show Bl (st2 (st4 V (w.heap.size+1) (.int .i64 0) (.int .u64 0) (.slice none 0 0) (.slice none 0 0)) (w.heap.size+1+1) (.slice A m c) (.bool true)).drew (w.heap.size+1+1) 54 #[.slice A m c,.bool true] from bl_drew (st2_bl (st4_other R2.out (by omega) _ _ _ _) _ _))
 have TB:=Lib.hid (show Below w.heap.size w (st2 (st4 V (w.heap.size+1) (.int .i64 0) (.int .u64 0) (.slice none 0 0) (.slice none 0 0)) (w.heap.size+1+1) (.slice A m c) (.bool true)).drew from below_drew (below_st2 (below_st4' BV.out (Nat.le_succ _) _ _ _ _) (by omega) _ _))
 go_wp2_with fail
 exact⟨rfl,_,results_ccb rfl _ _ _ ⟨w.heap.size+1,0,none⟩ ⟨w.heap.size+1+1,0,none⟩ _ _ _ (by kernel_rfl) (by kernel_rfl) rfl (run_loadVar_row _ (w.heap.size+1) 26 26 #[.int .i64 0,.int .u64 0,.slice none 0 0,.slice none 0 0] (0,0) _ T1.out Try.underlying26 rfl size34) (run_loadVar_row _ (w.heap.size+1+1) 54 54 #[.slice A m c,.bool true] (0,0) _ T2.out Try.underlying54 rfl sizeF),rfl,TB.out⟩
set_option maxHeartbeats 4000000 in
theorem Take_nil(A:Option Addr)(c:Nat)(k:Int)(w:World):Calls Try.prog 32 #[.agg #[.slice A 0 c,.bool false],.int .i64 k] w fun e w'=>e=.returned (.tuple #[tv0.val,.agg #[.slice A 0 c,.bool true],.bool false])∧Below w.heap.size w w':=by
 obtain⟨U,hU⟩:∃U,((w.alloc (.cells #[.slice A 0 c,.bool false] 54)).alloc nodo).alloc (.cells #[.slice none 0 0,.bool false] 54)=U:=⟨_,rfl⟩
 have BU:=Lib.hid (show Below w.heap.size w U from by rw[←hU];exact(((Below.refl _ w).alloc (Nat.le_refl _) _).alloc (by simp) _).alloc (by simp;omega) _)
 have P0:=Lib.hid (show Bl U w.heap.size 54 #[.slice A 0 c,.bool false] from by rw[←hU];exact((Bl.new_ w _ _).alloc _).alloc _)
 have P1:=Lib.hid (show Bl U (w.heap.size+1) 26 #[.int .i64 0,.int .u64 0,.slice none 0 0,.slice none 0 0] from by rw[←hU];exact(Bl.new' _ _ (by simp)).alloc _)
 have P2:=Lib.hid (show Bl U (w.heap.size+1+1) 54 #[.slice none 0 0,.bool false] from by rw[←hU];exact Bl.new' _ _ (by simp))
 have a0:U.cell? ⟨w.heap.size,0,none⟩=some (.slice A 0 c):=P0.out.cell_ rfl
 have a1:U.cell? ⟨w.heap.size,1,none⟩=some (.bool false):=P0.out.cell_ rfl
 have fa0:=P0.out.frozen 0
 have fa1:=P0.out.frozen 1
 have b0:U.cell? ⟨w.heap.size+1,0,none⟩=some (.int .i64 0):=P1.out.cell_ rfl
 have fb0:=P1.out.frozen 0
 have b1:U.cell? ⟨w.heap.size+1,1,none⟩=some (.int .u64 0):=P1.out.cell_ rfl
 have fb1:=P1.out.frozen 1
 have b2:U.cell? ⟨w.heap.size+1,2,none⟩=some (.slice none 0 0):=P1.out.cell_ rfl
 have fb2:=P1.out.frozen 2
 have b3:U.cell? ⟨w.heap.size+1,3,none⟩=some (.slice none 0 0):=P1.out.cell_ rfl
 have fb3:=P1.out.frozen 3
 have d0:U.cell? ⟨w.heap.size+1+1,0,none⟩=some (.slice none 0 0):=P2.out.cell_ rfl
 have fd0:=P2.out.frozen 0
 have d1:U.cell? ⟨w.heap.size+1+1,1,none⟩=some (.bool false):=P2.out.cell_ rfl
 have fd1:=P2.out.frozen 1
 obtain⟨V,hV⟩:∃V,U.setCell ⟨w.heap.size,1,none⟩ (.bool true)=V:=⟨_,rfl⟩
 have BV:=Lib.hid (show Below w.heap.size w V from by rw[←hV];exact BU.out.setCell (p:=⟨w.heap.size,1,none⟩) (Nat.le_refl _) _)
 have R0:=Lib.hid (show Bl V w.heap.size 54 #[.slice A 0 c,.bool true] from by rw[←hV];exact P0.out.set_ 1 _)
 have R1:=Lib.hid (show Bl V (w.heap.size+1) 26 #[.int .i64 0,.int .u64 0,.slice none 0 0,.slice none 0 0] from by rw[←hV];exact P1.out.other (p:=⟨w.heap.size,1,none⟩) (by show w.heap.size+1≠w.heap.size;omega) _)
 have R2:=Lib.hid (show Bl V (w.heap.size+1+1) 54 #[.slice none 0 0,.bool false] from by rw[←hV];exact P2.out.other (p:=⟨w.heap.size,1,none⟩) (by show w.heap.size+1+1≠w.heap.size;omega) _)
 have va0:V.cell? ⟨w.heap.size,0,none⟩=some (.slice A 0 c):=R0.out.cell_ rfl
 have va1:V.cell? ⟨w.heap.size,1,none⟩=some (.bool true):=R0.out.cell_ rfl
 have gfa0:=R0.out.frozen 0
 have gfa1:=R0.out.frozen 1
 have vb0:V.cell? ⟨w.heap.size+1,0,none⟩=some (.int .i64 0):=R1.out.cell_ rfl
 have gfb0:=R1.out.frozen 0
 have vb1:V.cell? ⟨w.heap.size+1,1,none⟩=some (.int .u64 0):=R1.out.cell_ rfl
 have gfb1:=R1.out.frozen 1
 have vb2:V.cell? ⟨w.heap.size+1,2,none⟩=some (.slice none 0 0):=R1.out.cell_ rfl
 have gfb2:=R1.out.frozen 2
 have vb3:V.cell? ⟨w.heap.size+1,3,none⟩=some (.slice none 0 0):=R1.out.cell_ rfl
 have gfb3:=R1.out.frozen 3
 have vd0:V.cell? ⟨w.heap.size+1+1,0,none⟩=some (.slice none 0 0):=R2.out.cell_ rfl
 have gfd0:=R2.out.frozen 0
 have vd1:V.cell? ⟨w.heap.size+1+1,1,none⟩=some (.bool false):=R2.out.cell_ rfl
 have gfd1:=R2.out.frozen 1
 go_enter Try.func32,Try.ntmps32
 go_upto_region 3 with fail
 refine wp_region_held_drew (S:=fun x=>Bl x w.heap.size 54 #[.slice A 0 c,.bool true]) (by kernel_rfl) (bl_drew R0.out) (fun hS9=>?_)
 clear hS9
 refine take_l 0 (v:=?_) rfl (by kernel_rfl) (by kernel_rfl) (by kernel_rfl) (fun _ _ _ h=>h) (Or.inl ⟨by rfl,?_⟩) (bl_drew R0.out) ?_;rotate_left
 ·intro w' hSw
  clear hSw
  go_simp
  all_goals with_reducible rfl
 try simp only[Act.put,List.setIfInBounds_toArray,List.set_cons_zero,List.set_cons_succ]
 refine take_l 1 (v:=?_) rfl (by kernel_rfl) (by kernel_rfl) (by kernel_rfl) (fun _ _ _ h=>h) (Or.inl ⟨by rfl,?_⟩) (bl_drew R0.out) ?_;rotate_left
 ·intro w' hSw
  have e0:w'.cell? ⟨w.heap.size,0,none⟩=some (.slice A 0 c):=Bl.cell_ hSw rfl
  have e1:w'.cell? ⟨w.heap.size,1,none⟩=some (.bool true):=Bl.cell_ hSw rfl
  clear hSw
  go_simp
  all_goals with_reducible rfl
 try simp only[Act.put,List.setIfInBounds_toArray,List.set_cons_zero,List.set_cons_succ]
 refine wpAnyH_ready (rs:=[2]) (by kernel_rfl) (by simp) ?_
 refine cons_l rfl (fun K0 hK=>?_) AllReadyH.nil
 go_simp
 refine hK.out _ _ (bl_drew (st4_other R0.out (by omega) _ _ _ _)) (fun hS9=>?_)
 clear hS9
 clear hK K0
 try simp only[Act.put,List.setIfInBounds_toArray,List.set_cons_zero,List.set_cons_succ]
 refine wpAnyH_ready (rs:=[3]) (by kernel_rfl) (by simp) ?_
 refine cons_l rfl (fun K0 hK=>?_) AllReadyH.nil
 go_simp
 refine hK.out _ _ (bl_drew (st2_other (st4_other R0.out (by omega) _ _ _ _) (by omega) _ _)) (fun hS9=>?_)
 clear hS9
 clear hK K0
 try simp only[Act.put,List.setIfInBounds_toArray,List.set_cons_zero,List.set_cons_succ]
 refine wpAnyH_ready (rs:=[4]) (by kernel_rfl) (by simp) ?_
 refine cons_l rfl (fun K0 hK=>?_) AllReadyH.nil
 go_simp
 refine hK.out _ _ (bl_drew (st2_other (st4_other R0.out (by omega) _ _ _ _) (by omega) _ _)) (fun hS9=>?_)
 clear hS9
 clear hK K0
 try simp only[Act.put,List.setIfInBounds_toArray,List.set_cons_zero,List.set_cons_succ]
 refine wpAnyH_done (by kernel_rfl) ?_ _
 have T1:=Lib.hid (show Bl (st2 (st4 V (w.heap.size+1) (.int .i64 0) (.int .u64 0) (.slice none 0 0) (.slice none 0 0)) (w.heap.size+1+1) (.slice A 0 c) (.bool true)).drew (w.heap.size+1) 26 #[.int .i64 0,.int .u64 0,.slice none 0 0,.slice none 0 0] from bl_drew (st2_other (st4_bl R1.out _ _ _ _) (by omega) _ _))
 have T2:=Lib.hid (show Bl (st2 (st4 V (w.heap.size+1) (.int .i64 0) (.int .u64 0) (.slice none 0 0) (.slice none 0 0)) (w.heap.size+1+1) (.slice A 0 c) (.bool true)).drew (w.heap.size+1+1) 54 #[.slice A 0 c,.bool true] from bl_drew (st2_bl (st4_other R2.out (by omega) _ _ _ _) _ _))
 have TB:=Lib.hid (show Below w.heap.size w (st2 (st4 V (w.heap.size+1) (.int .i64 0) (.int .u64 0) (.slice none 0 0) (.slice none 0 0)) (w.heap.size+1+1) (.slice A 0 c) (.bool true)).drew from below_drew (below_st2 (below_st4' BV.out (Nat.le_succ _) _ _ _ _) (by omega) _ _))
 go_wp2_with fail
 exact⟨rfl,_,results_ccb rfl _ _ _ ⟨w.heap.size+1,0,none⟩ ⟨w.heap.size+1+1,0,none⟩ _ _ _ (by kernel_rfl) (by kernel_rfl) rfl (run_loadVar_row _ (w.heap.size+1) 26 26 #[.int .i64 0,.int .u64 0,.slice none 0 0,.slice none 0 0] (0,0) _ T1.out Try.underlying26 rfl size34) (run_loadVar_row _ (w.heap.size+1+1) 54 54 #[.slice A 0 c,.bool true] (0,0) _ T2.out Try.underlying54 rfl sizeF),rfl,TB.out⟩
set_option maxHeartbeats 4000000 in
theorem Take_kind(ad:Addr)(m c:Nat)(k:Int)(w:World)(hm:1≤m)(K:Int)(hd:w.cell? ad=some (.int .i64 K))(hk:¬K=k):Calls Try.prog 32 #[.agg #[.slice (some ad) m c,.bool false],.int .i64 k] w fun e w'=>e=.returned (.tuple #[tv0.val,.agg #[.slice (some ad) m c,.bool true],.bool false])∧Below w.heap.size w w':=by
 have m0:¬(m:Int)=0:=by omega
 have m2:0 < (m:Int):=by omega
 have e0:((m:Int) == 0)=false:=by simp;omega
 obtain⟨U,hU⟩:∃U,((w.alloc (.cells #[.slice (some ad) m c,.bool false] 54)).alloc nodo).alloc (.cells #[.slice none 0 0,.bool false] 54)=U:=⟨_,rfl⟩
 have BU:=Lib.hid (show Below w.heap.size w U from by rw[←hU];exact(((Below.refl _ w).alloc (Nat.le_refl _) _).alloc (by simp) _).alloc (by simp;omega) _)
 have P0:=Lib.hid (show Bl U w.heap.size 54 #[.slice (some ad) m c,.bool false] from by rw[←hU];exact((Bl.new_ w _ _).alloc _).alloc _)
 have P1:=Lib.hid (show Bl U (w.heap.size+1) 26 #[.int .i64 0,.int .u64 0,.slice none 0 0,.slice none 0 0] from by rw[←hU];exact(Bl.new' _ _ (by simp)).alloc _)
 have P2:=Lib.hid (show Bl U (w.heap.size+1+1) 54 #[.slice none 0 0,.bool false] from by rw[←hU];exact Bl.new' _ _ (by simp))
 have a0:U.cell? ⟨w.heap.size,0,none⟩=some (.slice (some ad) m c):=P0.out.cell_ rfl
 have a1:U.cell? ⟨w.heap.size,1,none⟩=some (.bool false):=P0.out.cell_ rfl
 have fa0:=P0.out.frozen 0
 have fa1:=P0.out.frozen 1
 have b0:U.cell? ⟨w.heap.size+1,0,none⟩=some (.int .i64 0):=P1.out.cell_ rfl
 have fb0:=P1.out.frozen 0
 have b1:U.cell? ⟨w.heap.size+1,1,none⟩=some (.int .u64 0):=P1.out.cell_ rfl
 have fb1:=P1.out.frozen 1
 have b2:U.cell? ⟨w.heap.size+1,2,none⟩=some (.slice none 0 0):=P1.out.cell_ rfl
 have fb2:=P1.out.frozen 2
 have b3:U.cell? ⟨w.heap.size+1,3,none⟩=some (.slice none 0 0):=P1.out.cell_ rfl
 have fb3:=P1.out.frozen 3
 have d0:U.cell? ⟨w.heap.size+1+1,0,none⟩=some (.slice none 0 0):=P2.out.cell_ rfl
 have fd0:=P2.out.frozen 0
 have d1:U.cell? ⟨w.heap.size+1+1,1,none⟩=some (.bool false):=P2.out.cell_ rfl
 have fd1:=P2.out.frozen 1
 have k0:U.cell? ad=some (.int .i64 K):=(BU.out.cell (cell_lt hd)).trans hd
 clear hd hm
 obtain⟨V,hV⟩:∃V,U.setCell ⟨w.heap.size,1,none⟩ (.bool true)=V:=⟨_,rfl⟩
 have BV:=Lib.hid (show Below w.heap.size w V from by rw[←hV];exact BU.out.setCell (p:=⟨w.heap.size,1,none⟩) (Nat.le_refl _) _)
 have R0:=Lib.hid (show Bl V w.heap.size 54 #[.slice (some ad) m c,.bool true] from by rw[←hV];exact P0.out.set_ 1 _)
 have R1:=Lib.hid (show Bl V (w.heap.size+1) 26 #[.int .i64 0,.int .u64 0,.slice none 0 0,.slice none 0 0] from by rw[←hV];exact P1.out.other (p:=⟨w.heap.size,1,none⟩) (by show w.heap.size+1≠w.heap.size;omega) _)
 have R2:=Lib.hid (show Bl V (w.heap.size+1+1) 54 #[.slice none 0 0,.bool false] from by rw[←hV];exact P2.out.other (p:=⟨w.heap.size,1,none⟩) (by show w.heap.size+1+1≠w.heap.size;omega) _)
 have va0:V.cell? ⟨w.heap.size,0,none⟩=some (.slice (some ad) m c):=R0.out.cell_ rfl
 have va1:V.cell? ⟨w.heap.size,1,none⟩=some (.bool true):=R0.out.cell_ rfl
 have gfa0:=R0.out.frozen 0
 have gfa1:=R0.out.frozen 1
 have vb0:V.cell? ⟨w.heap.size+1,0,none⟩=some (.int .i64 0):=R1.out.cell_ rfl
 have gfb0:=R1.out.frozen 0
 have vb1:V.cell? ⟨w.heap.size+1,1,none⟩=some (.int .u64 0):=R1.out.cell_ rfl
 have gfb1:=R1.out.frozen 1
 have vb2:V.cell? ⟨w.heap.size+1,2,none⟩=some (.slice none 0 0):=R1.out.cell_ rfl
 have gfb2:=R1.out.frozen 2
 have vb3:V.cell? ⟨w.heap.size+1,3,none⟩=some (.slice none 0 0):=R1.out.cell_ rfl
 have gfb3:=R1.out.frozen 3
 have vd0:V.cell? ⟨w.heap.size+1+1,0,none⟩=some (.slice none 0 0):=R2.out.cell_ rfl
 have gfd0:=R2.out.frozen 0
 have vd1:V.cell? ⟨w.heap.size+1+1,1,none⟩=some (.bool false):=R2.out.cell_ rfl
 have gfd1:=R2.out.frozen 1
 go_enter Try.func32,Try.ntmps32
 go_upto_region 3 with fail
 refine wp_region_held_drew (S:=fun x=>Bl x w.heap.size 54 #[.slice (some ad) m c,.bool true]) (by kernel_rfl) (bl_drew R0.out) (fun hS9=>?_)
 clear hS9
 refine take_l 0 (v:=?_) rfl (by kernel_rfl) (by kernel_rfl) (by kernel_rfl) (fun _ _ _ h=>h) (Or.inl ⟨by rfl,?_⟩) (bl_drew R0.out) ?_;rotate_left
 ·intro w' hSw
  clear hSw
  go_simp
  all_goals with_reducible rfl
 try simp only[Act.put,List.setIfInBounds_toArray,List.set_cons_zero,List.set_cons_succ]
 refine take_l 1 (v:=?_) rfl (by kernel_rfl) (by kernel_rfl) (by kernel_rfl) (fun _ _ _ h=>h) (Or.inl ⟨by rfl,?_⟩) (bl_drew R0.out) ?_;rotate_left
 ·intro w' hSw
  have e0:w'.cell? ⟨w.heap.size,0,none⟩=some (.slice (some ad) m c):=Bl.cell_ hSw rfl
  have e1:w'.cell? ⟨w.heap.size,1,none⟩=some (.bool true):=Bl.cell_ hSw rfl
  clear hSw
  go_simp
  all_goals with_reducible rfl
 try simp only[Act.put,List.setIfInBounds_toArray,List.set_cons_zero,List.set_cons_succ]
 refine wpAnyH_ready (rs:=[2]) (by kernel_rfl) (by simp) ?_
 refine cons_l rfl (fun K0 hK=>?_) AllReadyH.nil
 go_simp
 refine hK.out _ _ (bl_drew (st4_other R0.out (by omega) _ _ _ _)) (fun hS9=>?_)
 clear hS9
 clear hK K0
 try simp only[Act.put,List.setIfInBounds_toArray,List.set_cons_zero,List.set_cons_succ]
 refine wpAnyH_ready (rs:=[3]) (by kernel_rfl) (by simp) ?_
 refine cons_l rfl (fun K0 hK=>?_) AllReadyH.nil
 go_simp
 refine hK.out _ _ (bl_drew (st2_other (st4_other R0.out (by omega) _ _ _ _) (by omega) _ _)) (fun hS9=>?_)
 clear hS9
 clear hK K0
 try simp only[Act.put,List.setIfInBounds_toArray,List.set_cons_zero,List.set_cons_succ]
 refine wpAnyH_ready (rs:=[4]) (by kernel_rfl) (by simp) ?_
 refine cons_l rfl (fun K0 hK=>?_) AllReadyH.nil
 go_simp
 refine hK.out _ _ (bl_drew (st2_other (st4_other R0.out (by omega) _ _ _ _) (by omega) _ _)) (fun hS9=>?_)
 clear hS9
 clear hK K0
 try simp only[Act.put,List.setIfInBounds_toArray,List.set_cons_zero,List.set_cons_succ]
 refine wpAnyH_done (by kernel_rfl) ?_ _
 have T1:=Lib.hid (show Bl (st2 (st4 V (w.heap.size+1) (.int .i64 0) (.int .u64 0) (.slice none 0 0) (.slice none 0 0)) (w.heap.size+1+1) (.slice (some ad) m c) (.bool true)).drew (w.heap.size+1) 26 #[.int .i64 0,.int .u64 0,.slice none 0 0,.slice none 0 0] from bl_drew (st2_other (st4_bl R1.out _ _ _ _) (by omega) _ _))
 have T2:=Lib.hid (show Bl (st2 (st4 V (w.heap.size+1) (.int .i64 0) (.int .u64 0) (.slice none 0 0) (.slice none 0 0)) (w.heap.size+1+1) (.slice (some ad) m c) (.bool true)).drew (w.heap.size+1+1) 54 #[.slice (some ad) m c,.bool true] from bl_drew (st2_bl (st4_other R2.out (by omega) _ _ _ _) _ _))
 have TB:=Lib.hid (show Below w.heap.size w (st2 (st4 V (w.heap.size+1) (.int .i64 0) (.int .u64 0) (.slice none 0 0) (.slice none 0 0)) (w.heap.size+1+1) (.slice (some ad) m c) (.bool true)).drew from below_drew (below_st2 (below_st4' BV.out (Nat.le_succ _) _ _ _ _) (by omega) _ _))
 go_wp2_with fail
 exact⟨rfl,_,results_ccb rfl _ _ _ ⟨w.heap.size+1,0,none⟩ ⟨w.heap.size+1+1,0,none⟩ _ _ _ (by kernel_rfl) (by kernel_rfl) rfl (run_loadVar_row _ (w.heap.size+1) 26 26 #[.int .i64 0,.int .u64 0,.slice none 0 0,.slice none 0 0] (0,0) _ T1.out Try.underlying26 rfl size34) (run_loadVar_row _ (w.heap.size+1+1) 54 54 #[.slice (some ad) m c,.bool true] (0,0) _ T2.out Try.underlying54 rfl sizeF),rfl,TB.out⟩
end Go.Proofs.Ytkahelhoaihajaa.Wr
