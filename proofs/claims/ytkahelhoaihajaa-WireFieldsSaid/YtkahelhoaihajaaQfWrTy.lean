/- Joined texts. -/
import Derived.Test.YtkahelhoaihajaaQfWrTk
set_option linter.unusedVariables false
namespace Go.Proofs.Ytkahelhoaihajaa.Wr
open Go.RowKit Go.Proofs.Ytkahelhoaihajaa.Gn Go.Proofs.Ytkahelhoaihajaa.Fd Go.Deep
set_option maxRecDepth 100000
set_option maxHeartbeats 4000000 in
theorem Take_yes(ad:Addr)(m c:Nat)(hm:1≤m)(hc:m≤c)(k:Int)(N:Nat)(r:Rw)(B:Option Addr)(n cc:Nat)(w:World)(hd0:w.cell? ad=some (.int .i64 k))(hd1:w.cell? ⟨ad.block,ad.off+1,none⟩=some (.int .u64 (N:Int)))(hd2:w.cell? ⟨ad.block,ad.off+2,none⟩=some (.slice r.1 r.2.1 r.2.2.1))(hd3:w.cell? ⟨ad.block,ad.off+3,none⟩=some (.slice B n cc)) :
  Calls Try.prog 32 #[.agg #[.slice (some ad) m c,.bool false],.int .i64 k] w fun e w'=>e=.returned (.tuple #[.agg #[.int .i64 k,.int .u64 (N:Int),.slice r.1 r.2.1 r.2.2.1,.slice B n cc],.agg #[.slice (if c=1 then some ad else some ⟨ad.block,ad.off+4,none⟩) (m - 1) (c - 1),.bool false],.bool true])∧Below w.heap.size w w':=by
 have m0:¬(m:Int)=0:=by omega
 have m2:0 < (m:Int):=by omega
 have e0:((m:Int) == 0)=false:=by simp;omega
 obtain⟨U,hU⟩:∃U,((w.alloc (.cells #[.slice (some ad) m c,.bool false] 54)).alloc nodo).alloc (.cells #[.slice none 0 0,.bool false] 54)=U:=⟨_,rfl⟩
 have BU:=Lib.hid (show Below w.heap.size w U from by rw[←hU];exact(((Below.refl _ w).alloc (Nat.le_refl _) _).alloc (by simp) _).alloc (by simp;omega) _)
 have P0:=Lib.hid (show Bl U w.heap.size 54 #[.slice (some ad) m c,.bool false] from by rw[←hU];exact((Bl.new_ w _ _).alloc _).alloc _)
 have P1:=Lib.hid (show Bl U (w.heap.size+1) 26 #[.int .i64 0,.int .u64 0,.slice none 0 0,.slice none 0 0] from by rw[←hU];exact(Bl.new' _ _ (by simp)).alloc _)
 have P2:=Lib.hid (show Bl U (w.heap.size+1+1) 54 #[.slice none 0 0,.bool false] from by rw[←hU];exact Bl.new' _ _ (by simp))
 have a0:U.cell? ⟨w.heap.size,0,none⟩=some (.slice (some ad) m c):=P0.out.cell_ rfl
 have a1:U.cell? ⟨w.heap.size,1,none⟩=some (.bool false):=P0.out.cell_ rfl
 have fa0:=P0.out.frozen 0
 have fa1:=P0.out.frozen 1
 have b0:U.cell? ⟨w.heap.size+1,0,none⟩=some (.int .i64 0):=P1.out.cell_ rfl
 have fb0:=P1.out.frozen 0
 have b1:U.cell? ⟨w.heap.size+1,1,none⟩=some (.int .u64 0):=P1.out.cell_ rfl
 have fb1:=P1.out.frozen 1
 have b2:U.cell? ⟨w.heap.size+1,2,none⟩=some (.slice none 0 0):=P1.out.cell_ rfl
 have fb2:=P1.out.frozen 2
 have b3:U.cell? ⟨w.heap.size+1,3,none⟩=some (.slice none 0 0):=P1.out.cell_ rfl
 have fb3:=P1.out.frozen 3
 have d0:U.cell? ⟨w.heap.size+1+1,0,none⟩=some (.slice none 0 0):=P2.out.cell_ rfl
 have fd0:=P2.out.frozen 0
 have d1:U.cell? ⟨w.heap.size+1+1,1,none⟩=some (.bool false):=P2.out.cell_ rfl
 have fd1:=P2.out.frozen 1
 have j0:=(BU.out.cell (cell_lt hd0)).trans hd0
 have j1:=(BU.out.cell (cell_lt hd1)).trans hd1
 have j2:=(BU.out.cell (cell_lt hd2)).trans hd2
 have j3:=(BU.out.cell (cell_lt hd3)).trans hd3
 have SU:=Lib.hid (show U.heap.size=w.heap.size+1+1+1 from by rw[←hU];simp)
 clear hd0 hd1 hd2 hd3
 obtain⟨A',hA'⟩:∃A',(if c=1 then some ad else some ⟨ad.block,ad.off+4,none⟩)=A':=⟨_,rfl⟩
 obtain⟨V1,hV1⟩:∃V1,U.alloc (.cells #[.int .i64 k,.int .u64 (N:Int),.slice r.1 r.2.1 r.2.2.1,.slice B n cc] 26)=V1:=⟨_,rfl⟩
 have O0:=Lib.hid (show Bl V1 w.heap.size 54 #[.slice (some ad) m c,.bool false] from by rw[←hV1];exact P0.out.alloc _)
 have o0:V1.cell? ⟨w.heap.size,0,none⟩=some (.slice (some ad) m c):=O0.out.cell_ rfl
 have p0:=O0.out.frozen 0
 obtain⟨V,hV⟩:∃V,V1.setCell ⟨w.heap.size,0,none⟩ (.slice A' (m - 1) (c - 1))=V:=⟨_,rfl⟩
 have BV:=Lib.hid (show Below w.heap.size w V from by rw[←hV,←hV1];exact(BU.out.alloc BU.out.size _).setCell (p:=⟨w.heap.size,0,none⟩) (Nat.le_refl _) _)
 have R0:=Lib.hid (show Bl V w.heap.size 54 #[.slice A' (m - 1) (c - 1),.bool false] from by rw[←hV];exact O0.out.set_ 0 _)
 have R1:=Lib.hid (show Bl V (w.heap.size+1) 26 #[.int .i64 0,.int .u64 0,.slice none 0 0,.slice none 0 0] from by rw[←hV,←hV1];exact(P1.out.alloc _).other (p:=⟨w.heap.size,0,none⟩) (by show w.heap.size+1≠w.heap.size;omega) _)
 have R2:=Lib.hid (show Bl V (w.heap.size+1+1) 54 #[.slice none 0 0,.bool false] from by rw[←hV,←hV1];exact(P2.out.alloc _).other (p:=⟨w.heap.size,0,none⟩) (by show w.heap.size+1+1≠w.heap.size;omega) _)
 have R3:=Lib.hid (show Bl V (w.heap.size+1+1+1) 26 #[.int .i64 k,.int .u64 (N:Int),.slice r.1 r.2.1 r.2.2.1,.slice B n cc] from by rw[←hV,←hV1];exact(Bl.new' _ _ SU.out).other (p:=⟨w.heap.size,0,none⟩) (by show w.heap.size+1+1+1≠w.heap.size;omega) _)
 have su:U.heap.size=w.heap.size+1+1+1:=SU.out
 have vb0:V.cell? ⟨w.heap.size+1,0,none⟩=some (.int .i64 0):=R1.out.cell_ rfl
 have gfb0:=R1.out.frozen 0
 have vb1:V.cell? ⟨w.heap.size+1,1,none⟩=some (.int .u64 0):=R1.out.cell_ rfl
 have gfb1:=R1.out.frozen 1
 have vb2:V.cell? ⟨w.heap.size+1,2,none⟩=some (.slice none 0 0):=R1.out.cell_ rfl
 have gfb2:=R1.out.frozen 2
 have vb3:V.cell? ⟨w.heap.size+1,3,none⟩=some (.slice none 0 0):=R1.out.cell_ rfl
 have gfb3:=R1.out.frozen 3
 have vd0:V.cell? ⟨w.heap.size+1+1,0,none⟩=some (.slice none 0 0):=R2.out.cell_ rfl
 have gfd0:=R2.out.frozen 0
 have vd1:V.cell? ⟨w.heap.size+1+1,1,none⟩=some (.bool false):=R2.out.cell_ rfl
 have gfd1:=R2.out.frozen 1
 go_enter Try.func32,Try.ntmps32
 go_upto_region 6 with fail
 try rw[hA']
 try rw[hV]
 refine wp_region_held_drew (S:=fun x=>Bl x w.heap.size 54 #[.slice A' (m - 1) (c - 1),.bool false]∧Bl x (w.heap.size+1+1+1) 26 #[.int .i64 k,.int .u64 (N:Int),.slice r.1 r.2.1 r.2.2.1,.slice B n cc]) (by kernel_rfl) ⟨bl_drew (R0.out),bl_drew (R3.out)⟩ (fun hS9=>?_)
 clear hS9
 refine take_l 0 (v:=?_) rfl (by kernel_rfl) (by kernel_rfl) (by kernel_rfl) (fun _ _ _ h=>h) (Or.inl ⟨by rfl,?_⟩) (⟨bl_drew (R0.out),bl_drew (R3.out)⟩) ?_;rotate_left
 ·intro w' hSw
  have e0:w'.cell? ⟨w.heap.size+1+1+1,0,none⟩=some (.int .i64 k):=Bl.cell_ hSw.2 rfl
  have e1:w'.cell? ⟨w.heap.size+1+1+1,1,none⟩=some (.int .u64 (N:Int)):=Bl.cell_ hSw.2 rfl
  have e2:w'.cell? ⟨w.heap.size+1+1+1,2,none⟩=some (.slice r.1 r.2.1 r.2.2.1):=Bl.cell_ hSw.2 rfl
  have e3:w'.cell? ⟨w.heap.size+1+1+1,3,none⟩=some (.slice B n cc):=Bl.cell_ hSw.2 rfl
  clear hSw
  go_simp
  all_goals with_reducible rfl
 try simp only[Act.put,List.setIfInBounds_toArray,List.set_cons_zero,List.set_cons_succ]
 refine take_l 1 (v:=?_) rfl (by kernel_rfl) (by kernel_rfl) (by kernel_rfl) (fun _ _ _ h=>h) (Or.inl ⟨by rfl,?_⟩) (⟨bl_drew (R0.out),bl_drew (R3.out)⟩) ?_;rotate_left
 ·intro w' hSw
  have e0:w'.cell? ⟨w.heap.size,0,none⟩=some (.slice A' (m - 1) (c - 1)):=Bl.cell_ hSw.1 rfl
  have e1:w'.cell? ⟨w.heap.size,1,none⟩=some (.bool false):=Bl.cell_ hSw.1 rfl
  clear hSw
  go_simp
  all_goals with_reducible rfl
 try simp only[Act.put,List.setIfInBounds_toArray,List.set_cons_zero,List.set_cons_succ]
 refine wpAnyH_ready (rs:=[2]) (by kernel_rfl) (by simp) ?_
 refine cons_l rfl (fun K0 hK=>?_) AllReadyH.nil
 go_simp
 refine hK.out _ _ (⟨bl_drew (st4_other R0.out (by omega) _ _ _ _),bl_drew (st4_other R3.out (by omega) _ _ _ _)⟩) (fun hS9=>?_)
 clear hS9
 clear hK K0
 try simp only[Act.put,List.setIfInBounds_toArray,List.set_cons_zero,List.set_cons_succ]
 refine wpAnyH_ready (rs:=[3]) (by kernel_rfl) (by simp) ?_
 refine cons_l rfl (fun K0 hK=>?_) AllReadyH.nil
 go_simp
 refine hK.out _ _ (⟨bl_drew (st2_other (st4_other R0.out (by omega) _ _ _ _) (by omega) _ _),bl_drew (st2_other (st4_other R3.out (by omega) _ _ _ _) (by omega) _ _)⟩) (fun hS9=>?_)
 clear hS9
 clear hK K0
 try simp only[Act.put,List.setIfInBounds_toArray,List.set_cons_zero,List.set_cons_succ]
 refine wpAnyH_ready (rs:=[4]) (by kernel_rfl) (by simp) ?_
 refine cons_l rfl (fun K0 hK=>?_) AllReadyH.nil
 go_simp
 refine hK.out _ _ (⟨bl_drew (st2_other (st4_other R0.out (by omega) _ _ _ _) (by omega) _ _),bl_drew (st2_other (st4_other R3.out (by omega) _ _ _ _) (by omega) _ _)⟩) (fun hS9=>?_)
 clear hS9
 clear hK K0
 try simp only[Act.put,List.setIfInBounds_toArray,List.set_cons_zero,List.set_cons_succ]
 refine wpAnyH_done (by kernel_rfl) ?_ _
 rename_i hret
 refine hret _ _ ?_
 refine wp_ret ?_
 have T1:=Lib.hid (show Bl (st2 (st4 V (w.heap.size+1) (.int .i64 k) (.int .u64 (N:Int)) (.slice r.1 r.2.1 r.2.2.1) (.slice B n cc)) (w.heap.size+1+1) (.slice A' (m - 1) (c - 1)) (.bool false)).drew (w.heap.size+1) 26 #[.int .i64 k,.int .u64 (N:Int),.slice r.1 r.2.1 r.2.2.1,.slice B n cc] from bl_drew (st2_other (st4_bl R1.out _ _ _ _) (by omega) _ _))
 have T2:=Lib.hid (show Bl (st2 (st4 V (w.heap.size+1) (.int .i64 k) (.int .u64 (N:Int)) (.slice r.1 r.2.1 r.2.2.1) (.slice B n cc)) (w.heap.size+1+1) (.slice A' (m - 1) (c - 1)) (.bool false)).drew (w.heap.size+1+1) 54 #[.slice A' (m - 1) (c - 1),.bool false] from bl_drew (st2_bl (st4_other R2.out (by omega) _ _ _ _) _ _))
 have TB:=Lib.hid (show Below w.heap.size w (st2 (st4 V (w.heap.size+1) (.int .i64 k) (.int .u64 (N:Int)) (.slice r.1 r.2.1 r.2.2.1) (.slice B n cc)) (w.heap.size+1+1) (.slice A' (m - 1) (c - 1)) (.bool false)).drew from below_drew (below_st2 (below_st4' BV.out (Nat.le_succ _) _ _ _ _) (by omega) _ _))
 have HA:=Lib.hid hA'
 clear hA' hV hV1 hU su m0 m2 e0 hm hc
 exact⟨rfl,_,results_ccb rfl _ _ _ ⟨w.heap.size+1,0,none⟩ ⟨w.heap.size+1+1,0,none⟩ _ _ _ (by kernel_rfl) (by kernel_rfl) rfl (run_loadVar_row _ (w.heap.size+1) 26 26 #[.int .i64 k,.int .u64 (N:Int),.slice r.1 r.2.1 r.2.2.1,.slice B n cc] (0,0) _ T1.out Try.underlying26 rfl size34) (run_loadVar_row _ (w.heap.size+1+1) 54 54 #[.slice A' (m - 1) (c - 1),.bool false] (0,0) _ T2.out Try.underlying54 rfl sizeF),by rw[HA.out];rfl,TB.out⟩
end Go.Proofs.Ytkahelhoaihajaa.Wr
