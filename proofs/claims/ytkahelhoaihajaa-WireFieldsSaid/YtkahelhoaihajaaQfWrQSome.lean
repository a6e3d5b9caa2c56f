/- Joined texts. -/
import Derived.Test.YtkahelhoaihajaaQfWrTka
set_option linter.unusedVariables false
namespace Go.Proofs.Ytkahelhoaihajaa.Wr
open Go.RowKit Go.Proofs.Ytkahelhoaihajaa.Gn Go.Proofs.Ytkahelhoaihajaa.Fd Go.Deep
set_option maxRecDepth 100000
set_option maxHeartbeats 4000000 in
theorem Some_miss{w:World}{A A':Option Addr}{m c m' c':Nat}{br:Bool}(a b:Int){K:Int}{N:Nat}{r:Rw}{B:Option Addr}{n cc:Nat}(hT:∀u,Below w.heap.size w u→Calls Try.prog 32 #[.agg #[.slice A m c,.bool br],.int .i64 2] u fun e w'=>e=.returned (.tuple #[.agg #[.int .i64 K,.int .u64 (N:Int),.slice r.1 r.2.1 r.2.2.1,.slice B n cc],.agg #[.slice A' m' c',.bool true],.bool false])∧Below u.heap.size u w'):Calls Try.prog 36 #[.agg #[.slice A m c,.bool br],.int .i64 a,.int .i64 b] w fun e w'=>e=.returned (.tuple #[.slice none 0 0,.agg #[.slice A' m' c',.bool true]])∧Below w.heap.size w w':=by
 obtain⟨U,hU⟩:∃U,((w.alloc (.cells #[.slice A m c,.bool br] 54)).alloc (.cells #[.slice none 0 0,.bool false] 54))=U:=⟨_,rfl⟩
 have BU:=Lib.hid (show Below w.heap.size w U from by rw[←hU];exact((Below.refl _ w).alloc (Nat.le_refl _) _).alloc (by simp) _)
 have P0:=Lib.hid (show Bl U w.heap.size 54 #[.slice A m c,.bool br] from by rw[←hU];exact(Bl.new_ w _ _).alloc _)
 have P1:=Lib.hid (show Bl U (w.heap.size+1) 54 #[.slice none 0 0,.bool false] from by rw[←hU];exact Bl.new' _ _ (by simp))
 have a0:U.cell? ⟨w.heap.size,0,none⟩=some (.slice A m c):=P0.out.cell_ rfl
 have a1:U.cell? ⟨w.heap.size,1,none⟩=some (.bool br):=P0.out.cell_ rfl
 have CT:=Lib.hid (hT U BU.out)
 clear hT
 go_enter Try.func36,Try.ntmps36
 go_upto_region 2 with(go_at_call 32;(refine CT.out.mono ?_);rintro e w1 ⟨rfl,hb⟩;have B1:=Lib.hid hb;clear hb)
 obtain⟨V,hV⟩:∃V,(w1.alloc (.cells #[.int .i64 K,.int .u64 (N:Int),.slice r.1 r.2.1 r.2.2.1,.slice B n cc] 26)).alloc (.cells #[.slice A' m' c',.bool true] 54)=V:=⟨_,rfl⟩
 have R2:=Lib.hid (show Bl V w1.heap.size 26 #[.int .i64 K,.int .u64 (N:Int),.slice r.1 r.2.1 r.2.2.1,.slice B n cc] from by rw[←hV];exact(Bl.new_ w1 _ _).alloc _)
 have R3:=Lib.hid (show Bl V (w1.heap.size+1) 54 #[.slice A' m' c',.bool true] from by rw[←hV];exact Bl.new' _ _ (by simp))
 have BX:=Lib.hid (show Below w1.heap.size w1 V from by rw[←hV];exact((Below.refl _ w1).alloc (Nat.le_refl _) _).alloc (by simp) _)
 have R1:=Lib.hid (show Bl V (w.heap.size+1) 54 #[.slice none 0 0,.bool false] from(P1.out.below' B1.out).below' BX.out)
 have BV:=Lib.hid (show Below w.heap.size w V from BU.out.trans ((B1.out.trans (BX.out.mono B1.out.size)).mono BU.out.size))
 have q9:w.heap.size+2≤w1.heap.size:=by have h:=B1.out.size;rw[←hU] at h;simp at h;omega
 try rw[hV]
 clear hV hU a0 a1
 obtain⟨q2,hq2⟩:∃q2,w1.heap.size=q2:=⟨_,rfl⟩
 rw[hq2] at R2 R3 q9 ⊢
 have n0:V.cell? ⟨q2,0,none⟩=some (.int .i64 K):=R2.out.cell_ rfl
 have n1:V.cell? ⟨q2,1,none⟩=some (.int .u64 (N:Int)):=R2.out.cell_ rfl
 have n2:V.cell? ⟨q2,2,none⟩=some (.slice r.1 r.2.1 r.2.2.1):=R2.out.cell_ rfl
 have n3:V.cell? ⟨q2,3,none⟩=some (.slice B n cc):=R2.out.cell_ rfl
 have g0:V.cell? ⟨w.heap.size+1,0,none⟩=some (.slice none 0 0):=R1.out.cell_ rfl
 have h0:=R1.out.frozen 0
 have g1:V.cell? ⟨w.heap.size+1,1,none⟩=some (.bool false):=R1.out.cell_ rfl
 have h1:=R1.out.frozen 1
 go_upto_region 3 with fail
 refine wp_region_held_drew (S:=fun x=>Bl x (q2+1) 54 #[.slice A' m' c',.bool true]∧Bl x q2 26 #[.int .i64 K,.int .u64 (N:Int),.slice r.1 r.2.1 r.2.2.1,.slice B n cc]) (by kernel_rfl) ⟨bl_drew R3.out,bl_drew R2.out⟩ (fun hS9=>?_)
 clear hS9
 refine take_l 0 (v:=?_) rfl (by kernel_rfl) (by kernel_rfl) (by kernel_rfl) (fun _ _ _ h=>h) (Or.inl ⟨by rfl,?_⟩) (⟨bl_drew R3.out,bl_drew R2.out⟩) ?_;rotate_left
 ·intro w' hSw
  have e0:w'.cell? ⟨q2+1,0,none⟩=some (.slice A' m' c'):=Bl.cell_ hSw.1 rfl
  have e1:w'.cell? ⟨q2+1,1,none⟩=some (.bool true):=Bl.cell_ hSw.1 rfl
  clear hSw
  go_simp
  all_goals with_reducible rfl
 try simp only[Act.put,List.setIfInBounds_toArray,List.set_cons_zero,List.set_cons_succ]
 refine wpAnyH_ready (rs:=[1]) (by kernel_rfl) (by simp) ?_
 refine cons_l rfl (fun K0 hK=>?_) AllReadyH.nil
 go_simp
 refine hK.out _ _ (⟨bl_drew R3.out,bl_drew R2.out⟩) (fun hS9=>?_)
 clear hS9
 clear hK K0
 try simp only[Act.put,List.setIfInBounds_toArray,List.set_cons_zero,List.set_cons_succ]
 refine wpAnyH_ready (rs:=[2]) (by kernel_rfl) (by simp) ?_
 refine cons_l rfl (fun K0 hK=>?_) AllReadyH.nil
 go_simp
 refine hK.out _ _ (⟨bl_drew (st2_other R3.out (by omega) _ _),bl_drew (st2_other R2.out (by omega) _ _)⟩) (fun hS9=>?_)
 clear hS9
 clear hK K0
 try simp only[Act.put,List.setIfInBounds_toArray,List.set_cons_zero,List.set_cons_succ]
 refine wpAnyH_done (by kernel_rfl) ?_ _
 rename_i hret
 refine hret _ _ ?_
 refine wp_ret ?_
 have T2:=Lib.hid (show Bl (st2 V (w.heap.size+1) (.slice A' m' c') (.bool true)).drew (w.heap.size+1) 54 #[.slice A' m' c',.bool true] from bl_drew (st2_bl R1.out _ _))
 have TB:=Lib.hid (show Below w.heap.size w (st2 V (w.heap.size+1) (.slice A' m' c') (.bool true)).drew from below_drew (below_st2 BV.out (by omega) _ _))
 have TW:=Lib.hid (show Below w.heap.size w (st2 V (w.heap.size+1) (.slice A' m' c') (.bool true)).drew from TB.out)
 refine⟨rfl,_,results_tc rfl _ _ _ _ ⟨w.heap.size+1,0,none⟩ _ rfl (by kernel_rfl) (run_loadVar_row _ (w.heap.size+1) 54 54 #[.slice A' m' c',.bool true] (0,0) _ T2.out Try.underlying54 rfl sizeF),rfl,TW.out⟩
set_option maxHeartbeats 4000000 in
theorem Some_low{w:World}{A A':Option Addr}{m c m' c':Nat}{br:Bool}(a b:Int){K:Int}{N:Nat}{r:Rw}{B:Option Addr}{n cc:Nat}(hT:∀u,Below w.heap.size w u→Calls Try.prog 32 #[.agg #[.slice A m c,.bool br],.int .i64 2] u fun e w'=>e=.returned (.tuple #[.agg #[.int .i64 K,.int .u64 (N:Int),.slice r.1 r.2.1 r.2.2.1,.slice B n cc],.agg #[.slice A' m' c',.bool false],.bool true])∧Below u.heap.size u w')(hx:(r.2.1:Int) < a):Calls Try.prog 36 #[.agg #[.slice A m c,.bool br],.int .i64 a,.int .i64 b] w fun e w'=>e=.returned (.tuple #[.slice none 0 0,.agg #[.slice A' m' c',.bool true]])∧Below w.heap.size w w':=by
 obtain⟨U,hU⟩:∃U,((w.alloc (.cells #[.slice A m c,.bool br] 54)).alloc (.cells #[.slice none 0 0,.bool false] 54))=U:=⟨_,rfl⟩
 have BU:=Lib.hid (show Below w.heap.size w U from by rw[←hU];exact((Below.refl _ w).alloc (Nat.le_refl _) _).alloc (by simp) _)
 have P0:=Lib.hid (show Bl U w.heap.size 54 #[.slice A m c,.bool br] from by rw[←hU];exact(Bl.new_ w _ _).alloc _)
 have P1:=Lib.hid (show Bl U (w.heap.size+1) 54 #[.slice none 0 0,.bool false] from by rw[←hU];exact Bl.new' _ _ (by simp))
 have a0:U.cell? ⟨w.heap.size,0,none⟩=some (.slice A m c):=P0.out.cell_ rfl
 have a1:U.cell? ⟨w.heap.size,1,none⟩=some (.bool br):=P0.out.cell_ rfl
 have CT:=Lib.hid (hT U BU.out)
 clear hT
 go_enter Try.func36,Try.ntmps36
 go_upto_region 2 with(go_at_call 32;(refine CT.out.mono ?_);rintro e w1 ⟨rfl,hb⟩;have B1:=Lib.hid hb;clear hb)
 obtain⟨V,hV⟩:∃V,(w1.alloc (.cells #[.int .i64 K,.int .u64 (N:Int),.slice r.1 r.2.1 r.2.2.1,.slice B n cc] 26)).alloc (.cells #[.slice A' m' c',.bool false] 54)=V:=⟨_,rfl⟩
 have R2:=Lib.hid (show Bl V w1.heap.size 26 #[.int .i64 K,.int .u64 (N:Int),.slice r.1 r.2.1 r.2.2.1,.slice B n cc] from by rw[←hV];exact(Bl.new_ w1 _ _).alloc _)
 have R3:=Lib.hid (show Bl V (w1.heap.size+1) 54 #[.slice A' m' c',.bool false] from by rw[←hV];exact Bl.new' _ _ (by simp))
 have BX:=Lib.hid (show Below w1.heap.size w1 V from by rw[←hV];exact((Below.refl _ w1).alloc (Nat.le_refl _) _).alloc (by simp) _)
 have R1:=Lib.hid (show Bl V (w.heap.size+1) 54 #[.slice none 0 0,.bool false] from(P1.out.below' B1.out).below' BX.out)
 have BV:=Lib.hid (show Below w.heap.size w V from BU.out.trans ((B1.out.trans (BX.out.mono B1.out.size)).mono BU.out.size))
 have q9:w.heap.size+2≤w1.heap.size:=by have h:=B1.out.size;rw[←hU] at h;simp at h;omega
 try rw[hV]
 clear hV hU a0 a1
 obtain⟨q2,hq2⟩:∃q2,w1.heap.size=q2:=⟨_,rfl⟩
 rw[hq2] at R2 R3 q9 ⊢
 have n0:V.cell? ⟨q2,0,none⟩=some (.int .i64 K):=R2.out.cell_ rfl
 have n1:V.cell? ⟨q2,1,none⟩=some (.int .u64 (N:Int)):=R2.out.cell_ rfl
 have n2:V.cell? ⟨q2,2,none⟩=some (.slice r.1 r.2.1 r.2.2.1):=R2.out.cell_ rfl
 have n3:V.cell? ⟨q2,3,none⟩=some (.slice B n cc):=R2.out.cell_ rfl
 have g0:V.cell? ⟨w.heap.size+1,0,none⟩=some (.slice none 0 0):=R1.out.cell_ rfl
 have h0:=R1.out.frozen 0
 have g1:V.cell? ⟨w.heap.size+1,1,none⟩=some (.bool false):=R1.out.cell_ rfl
 have h1:=R1.out.frozen 1
 have x1:V.cell? ⟨q2+1,1,none⟩=some (.bool false):=R3.out.cell_ rfl
 have f1:=R3.out.frozen 1
 obtain⟨V2,hV2⟩:∃V2,V.setCell ⟨q2+1,1,none⟩ (.bool true)=V2:=⟨_,rfl⟩
 have R22:=Lib.hid (show Bl V2 q2 26 #[.int .i64 K,.int .u64 (N:Int),.slice r.1 r.2.1 r.2.2.1,.slice B n cc] from by rw[←hV2];exact R2.out.other (p:=⟨q2+1,1,none⟩) (by show q2≠q2+1;omega) _)
 have R32:=Lib.hid (show Bl V2 (q2+1) 54 #[.slice A' m' c',.bool true] from by rw[←hV2];exact R3.out.set_ 1 _)
 have R12:=Lib.hid (show Bl V2 (w.heap.size+1) 54 #[.slice none 0 0,.bool false] from by rw[←hV2];exact R1.out.other (p:=⟨q2+1,1,none⟩) (by show w.heap.size+1≠q2+1;omega) _)
 have BV2:=Lib.hid (show Below w.heap.size w V2 from by rw[←hV2];exact BV.out.setCell (p:=⟨q2+1,1,none⟩) (by show w.heap.size≤q2+1;omega) _)
 have k0:V2.cell? ⟨w.heap.size+1,0,none⟩=some (.slice none 0 0):=R12.out.cell_ rfl
 have l0:=R12.out.frozen 0
 have k1:V2.cell? ⟨w.heap.size+1,1,none⟩=some (.bool false):=R12.out.cell_ rfl
 have l1:=R12.out.frozen 1
 go_upto_region 6 with fail
 try rw[hV2]
 have R1:=R12
 have R2:=R22
 have R3:=R32
 have BV:=BV2
 clear hV2 x1 f1
 refine wp_region_held_drew (S:=fun x=>Bl x (q2+1) 54 #[.slice A' m' c',.bool true]∧Bl x q2 26 #[.int .i64 K,.int .u64 (N:Int),.slice r.1 r.2.1 r.2.2.1,.slice B n cc]) (by kernel_rfl) ⟨bl_drew R3.out,bl_drew R2.out⟩ (fun hS9=>?_)
 clear hS9
 refine take_l 0 (v:=?_) rfl (by kernel_rfl) (by kernel_rfl) (by kernel_rfl) (fun _ _ _ h=>h) (Or.inl ⟨by rfl,?_⟩) (⟨bl_drew R3.out,bl_drew R2.out⟩) ?_;rotate_left
 ·intro w' hSw
  have e0:w'.cell? ⟨q2+1,0,none⟩=some (.slice A' m' c'):=Bl.cell_ hSw.1 rfl
  have e1:w'.cell? ⟨q2+1,1,none⟩=some (.bool true):=Bl.cell_ hSw.1 rfl
  clear hSw
  go_simp
  all_goals with_reducible rfl
 try simp only[Act.put,List.setIfInBounds_toArray,List.set_cons_zero,List.set_cons_succ]
 refine wpAnyH_ready (rs:=[1]) (by kernel_rfl) (by simp) ?_
 refine cons_l rfl (fun K0 hK=>?_) AllReadyH.nil
 go_simp
 refine hK.out _ _ (⟨bl_drew R3.out,bl_drew R2.out⟩) (fun hS9=>?_)
 clear hS9
 clear hK K0
 try simp only[Act.put,List.setIfInBounds_toArray,List.set_cons_zero,List.set_cons_succ]
 refine wpAnyH_ready (rs:=[2]) (by kernel_rfl) (by simp) ?_
 refine cons_l rfl (fun K0 hK=>?_) AllReadyH.nil
 go_simp
 refine hK.out _ _ (⟨bl_drew (st2_other R3.out (by omega) _ _),bl_drew (st2_other R2.out (by omega) _ _)⟩) (fun hS9=>?_)
 clear hS9
 clear hK K0
 try simp only[Act.put,List.setIfInBounds_toArray,List.set_cons_zero,List.set_cons_succ]
 refine wpAnyH_done (by kernel_rfl) ?_ _
 rename_i hret
 refine hret _ _ ?_
 refine wp_ret ?_
 have T2:=Lib.hid (show Bl (st2 V2 (w.heap.size+1) (.slice A' m' c') (.bool true)).drew (w.heap.size+1) 54 #[.slice A' m' c',.bool true] from bl_drew (st2_bl R1.out _ _))
 have TB:=Lib.hid (show Below w.heap.size w (st2 V2 (w.heap.size+1) (.slice A' m' c') (.bool true)).drew from below_drew (below_st2 BV.out (by omega) _ _))
 have TW:=Lib.hid (show Below w.heap.size w (st2 V2 (w.heap.size+1) (.slice A' m' c') (.bool true)).drew from TB.out)
 refine⟨rfl,_,results_tc rfl _ _ _ _ ⟨w.heap.size+1,0,none⟩ _ rfl (by kernel_rfl) (run_loadVar_row _ (w.heap.size+1) 54 54 #[.slice A' m' c',.bool true] (0,0) _ T2.out Try.underlying54 rfl sizeF),rfl,TW.out⟩
set_option maxHeartbeats 4000000 in
theorem Some_high{w:World}{A A':Option Addr}{m c m' c':Nat}{br:Bool}(a b:Int){K:Int}{N:Nat}{r:Rw}{B:Option Addr}{n cc:Nat}(hT:∀u,Below w.heap.size w u→Calls Try.prog 32 #[.agg #[.slice A m c,.bool br],.int .i64 2] u fun e w'=>e=.returned (.tuple #[.agg #[.int .i64 K,.int .u64 (N:Int),.slice r.1 r.2.1 r.2.2.1,.slice B n cc],.agg #[.slice A' m' c',.bool false],.bool true])∧Below u.heap.size u w')(hx:¬(r.2.1:Int) < a)(hy:b < (r.2.1:Int)):Calls Try.prog 36 #[.agg #[.slice A m c,.bool br],.int .i64 a,.int .i64 b] w fun e w'=>e=.returned (.tuple #[.slice none 0 0,.agg #[.slice A' m' c',.bool true]])∧Below w.heap.size w w':=by
 obtain⟨U,hU⟩:∃U,((w.alloc (.cells #[.slice A m c,.bool br] 54)).alloc (.cells #[.slice none 0 0,.bool false] 54))=U:=⟨_,rfl⟩
 have BU:=Lib.hid (show Below w.heap.size w U from by rw[←hU];exact((Below.refl _ w).alloc (Nat.le_refl _) _).alloc (by simp) _)
 have P0:=Lib.hid (show Bl U w.heap.size 54 #[.slice A m c,.bool br] from by rw[←hU];exact(Bl.new_ w _ _).alloc _)
 have P1:=Lib.hid (show Bl U (w.heap.size+1) 54 #[.slice none 0 0,.bool false] from by rw[←hU];exact Bl.new' _ _ (by simp))
 have a0:U.cell? ⟨w.heap.size,0,none⟩=some (.slice A m c):=P0.out.cell_ rfl
 have a1:U.cell? ⟨w.heap.size,1,none⟩=some (.bool br):=P0.out.cell_ rfl
 have CT:=Lib.hid (hT U BU.out)
 clear hT
 go_enter Try.func36,Try.ntmps36
 go_upto_region 2 with(go_at_call 32;(refine CT.out.mono ?_);rintro e w1 ⟨rfl,hb⟩;have B1:=Lib.hid hb;clear hb)
 obtain⟨V,hV⟩:∃V,(w1.alloc (.cells #[.int .i64 K,.int .u64 (N:Int),.slice r.1 r.2.1 r.2.2.1,.slice B n cc] 26)).alloc (.cells #[.slice A' m' c',.bool false] 54)=V:=⟨_,rfl⟩
 have R2:=Lib.hid (show Bl V w1.heap.size 26 #[.int .i64 K,.int .u64 (N:Int),.slice r.1 r.2.1 r.2.2.1,.slice B n cc] from by rw[←hV];exact(Bl.new_ w1 _ _).alloc _)
 have R3:=Lib.hid (show Bl V (w1.heap.size+1) 54 #[.slice A' m' c',.bool false] from by rw[←hV];exact Bl.new' _ _ (by simp))
 have BX:=Lib.hid (show Below w1.heap.size w1 V from by rw[←hV];exact((Below.refl _ w1).alloc (Nat.le_refl _) _).alloc (by simp) _)
 have R1:=Lib.hid (show Bl V (w.heap.size+1) 54 #[.slice none 0 0,.bool false] from(P1.out.below' B1.out).below' BX.out)
 have BV:=Lib.hid (show Below w.heap.size w V from BU.out.trans ((B1.out.trans (BX.out.mono B1.out.size)).mono BU.out.size))
 have q9:w.heap.size+2≤w1.heap.size:=by have h:=B1.out.size;rw[←hU] at h;simp at h;omega
 try rw[hV]
 clear hV hU a0 a1
 obtain⟨q2,hq2⟩:∃q2,w1.heap.size=q2:=⟨_,rfl⟩
 rw[hq2] at R2 R3 q9 ⊢
 have n0:V.cell? ⟨q2,0,none⟩=some (.int .i64 K):=R2.out.cell_ rfl
 have n1:V.cell? ⟨q2,1,none⟩=some (.int .u64 (N:Int)):=R2.out.cell_ rfl
 have n2:V.cell? ⟨q2,2,none⟩=some (.slice r.1 r.2.1 r.2.2.1):=R2.out.cell_ rfl
 have n3:V.cell? ⟨q2,3,none⟩=some (.slice B n cc):=R2.out.cell_ rfl
 have g0:V.cell? ⟨w.heap.size+1,0,none⟩=some (.slice none 0 0):=R1.out.cell_ rfl
 have h0:=R1.out.frozen 0
 have g1:V.cell? ⟨w.heap.size+1,1,none⟩=some (.bool false):=R1.out.cell_ rfl
 have h1:=R1.out.frozen 1
 have x1:V.cell? ⟨q2+1,1,none⟩=some (.bool false):=R3.out.cell_ rfl
 have f1:=R3.out.frozen 1
 obtain⟨V2,hV2⟩:∃V2,V.setCell ⟨q2+1,1,none⟩ (.bool true)=V2:=⟨_,rfl⟩
 have R22:=Lib.hid (show Bl V2 q2 26 #[.int .i64 K,.int .u64 (N:Int),.slice r.1 r.2.1 r.2.2.1,.slice B n cc] from by rw[←hV2];exact R2.out.other (p:=⟨q2+1,1,none⟩) (by show q2≠q2+1;omega) _)
 have R32:=Lib.hid (show Bl V2 (q2+1) 54 #[.slice A' m' c',.bool true] from by rw[←hV2];exact R3.out.set_ 1 _)
 have R12:=Lib.hid (show Bl V2 (w.heap.size+1) 54 #[.slice none 0 0,.bool false] from by rw[←hV2];exact R1.out.other (p:=⟨q2+1,1,none⟩) (by show w.heap.size+1≠q2+1;omega) _)
 have BV2:=Lib.hid (show Below w.heap.size w V2 from by rw[←hV2];exact BV.out.setCell (p:=⟨q2+1,1,none⟩) (by show w.heap.size≤q2+1;omega) _)
 have k0:V2.cell? ⟨w.heap.size+1,0,none⟩=some (.slice none 0 0):=R12.out.cell_ rfl
 have l0:=R12.out.frozen 0
 have k1:V2.cell? ⟨w.heap.size+1,1,none⟩=some (.bool false):=R12.out.cell_ rfl
 have l1:=R12.out.frozen 1
 go_upto_region 6 with fail
 try rw[hV2]
 have R1:=R12
 have R2:=R22
 have R3:=R32
 have BV:=BV2
 clear hV2 x1 f1
 refine wp_region_held_drew (S:=fun x=>Bl x (q2+1) 54 #[.slice A' m' c',.bool true]∧Bl x q2 26 #[.int .i64 K,.int .u64 (N:Int),.slice r.1 r.2.1 r.2.2.1,.slice B n cc]) (by kernel_rfl) ⟨bl_drew R3.out,bl_drew R2.out⟩ (fun hS9=>?_)
 clear hS9
 refine take_l 0 (v:=?_) rfl (by kernel_rfl) (by kernel_rfl) (by kernel_rfl) (fun _ _ _ h=>h) (Or.inl ⟨by rfl,?_⟩) (⟨bl_drew R3.out,bl_drew R2.out⟩) ?_;rotate_left
 ·intro w' hSw
  have e0:w'.cell? ⟨q2+1,0,none⟩=some (.slice A' m' c'):=Bl.cell_ hSw.1 rfl
  have e1:w'.cell? ⟨q2+1,1,none⟩=some (.bool true):=Bl.cell_ hSw.1 rfl
  clear hSw
  go_simp
  all_goals with_reducible rfl
 try simp only[Act.put,List.setIfInBounds_toArray,List.set_cons_zero,List.set_cons_succ]
 refine wpAnyH_ready (rs:=[1]) (by kernel_rfl) (by simp) ?_
 refine cons_l rfl (fun K0 hK=>?_) AllReadyH.nil
 go_simp
 refine hK.out _ _ (⟨bl_drew R3.out,bl_drew R2.out⟩) (fun hS9=>?_)
 clear hS9
 clear hK K0
 try simp only[Act.put,List.setIfInBounds_toArray,List.set_cons_zero,List.set_cons_succ]
 refine wpAnyH_ready (rs:=[2]) (by kernel_rfl) (by simp) ?_
 refine cons_l rfl (fun K0 hK=>?_) AllReadyH.nil
 go_simp
 refine hK.out _ _ (⟨bl_drew (st2_other R3.out (by omega) _ _),bl_drew (st2_other R2.out (by omega) _ _)⟩) (fun hS9=>?_)
 clear hS9
 clear hK K0
 try simp only[Act.put,List.setIfInBounds_toArray,List.set_cons_zero,List.set_cons_succ]
 refine wpAnyH_done (by kernel_rfl) ?_ _
 rename_i hret
 refine hret _ _ ?_
 refine wp_ret ?_
 have T2:=Lib.hid (show Bl (st2 V2 (w.heap.size+1) (.slice A' m' c') (.bool true)).drew (w.heap.size+1) 54 #[.slice A' m' c',.bool true] from bl_drew (st2_bl R1.out _ _))
 have TB:=Lib.hid (show Below w.heap.size w (st2 V2 (w.heap.size+1) (.slice A' m' c') (.bool true)).drew from below_drew (below_st2 BV.out (by omega) _ _))
 have TW:=Lib.hid (show Below w.heap.size w (st2 V2 (w.heap.size+1) (.slice A' m' c') (.bool true)).drew from TB.out)
 refine⟨rfl,_,results_tc rfl _ _ _ _ ⟨w.heap.size+1,0,none⟩ _ rfl (by kernel_rfl) (run_loadVar_row _ (w.heap.size+1) 54 54 #[.slice A' m' c',.bool true] (0,0) _ T2.out Try.underlying54 rfl sizeF),rfl,TW.out⟩
set_option maxHeartbeats 4000000 in
theorem Some_good{w:World}{A A':Option Addr}{m c m' c':Nat}{br:Bool}(a b:Int){K:Int}{N:Nat}{r:Rw}{B:Option Addr}{n cc:Nat}(hT:∀u,Below w.heap.size w u→Calls Try.prog 32 #[.agg #[.slice A m c,.bool br],.int .i64 2] u fun e w'=>e=.returned (.tuple #[.agg #[.int .i64 K,.int .u64 (N:Int),.slice r.1 r.2.1 r.2.2.1,.slice B n cc],.agg #[.slice A' m' c',.bool false],.bool true])∧Below u.heap.size u w')(hx:¬(r.2.1:Int) < a)(hy:¬b < (r.2.1:Int)):Calls Try.prog 36 #[.agg #[.slice A m c,.bool br],.int .i64 a,.int .i64 b] w fun e w'=>e=.returned (.tuple #[.slice r.1 r.2.1 r.2.2.1,.agg #[.slice A' m' c',.bool false]])∧Below w.heap.size w w':=by
 obtain⟨U,hU⟩:∃U,((w.alloc (.cells #[.slice A m c,.bool br] 54)).alloc (.cells #[.slice none 0 0,.bool false] 54))=U:=⟨_,rfl⟩
 have BU:=Lib.hid (show Below w.heap.size w U from by rw[←hU];exact((Below.refl _ w).alloc (Nat.le_refl _) _).alloc (by simp) _)
 have P0:=Lib.hid (show Bl U w.heap.size 54 #[.slice A m c,.bool br] from by rw[←hU];exact(Bl.new_ w _ _).alloc _)
 have P1:=Lib.hid (show Bl U (w.heap.size+1) 54 #[.slice none 0 0,.bool false] from by rw[←hU];exact Bl.new' _ _ (by simp))
 have a0:U.cell? ⟨w.heap.size,0,none⟩=some (.slice A m c):=P0.out.cell_ rfl
 have a1:U.cell? ⟨w.heap.size,1,none⟩=some (.bool br):=P0.out.cell_ rfl
 have CT:=Lib.hid (hT U BU.out)
 clear hT
 go_enter Try.func36,Try.ntmps36
 go_upto_region 2 with(go_at_call 32;(refine CT.out.mono ?_);rintro e w1 ⟨rfl,hb⟩;have B1:=Lib.hid hb;clear hb)
 obtain⟨V,hV⟩:∃V,(w1.alloc (.cells #[.int .i64 K,.int .u64 (N:Int),.slice r.1 r.2.1 r.2.2.1,.slice B n cc] 26)).alloc (.cells #[.slice A' m' c',.bool false] 54)=V:=⟨_,rfl⟩
 have R2:=Lib.hid (show Bl V w1.heap.size 26 #[.int .i64 K,.int .u64 (N:Int),.slice r.1 r.2.1 r.2.2.1,.slice B n cc] from by rw[←hV];exact(Bl.new_ w1 _ _).alloc _)
 have R3:=Lib.hid (show Bl V (w1.heap.size+1) 54 #[.slice A' m' c',.bool false] from by rw[←hV];exact Bl.new' _ _ (by simp))
 have BX:=Lib.hid (show Below w1.heap.size w1 V from by rw[←hV];exact((Below.refl _ w1).alloc (Nat.le_refl _) _).alloc (by simp) _)
 have R1:=Lib.hid (show Bl V (w.heap.size+1) 54 #[.slice none 0 0,.bool false] from(P1.out.below' B1.out).below' BX.out)
 have BV:=Lib.hid (show Below w.heap.size w V from BU.out.trans ((B1.out.trans (BX.out.mono B1.out.size)).mono BU.out.size))
 have q9:w.heap.size+2≤w1.heap.size:=by have h:=B1.out.size;rw[←hU] at h;simp at h;omega
 try rw[hV]
 clear hV hU a0 a1
 obtain⟨q2,hq2⟩:∃q2,w1.heap.size=q2:=⟨_,rfl⟩
 rw[hq2] at R2 R3 q9 ⊢
 have n0:V.cell? ⟨q2,0,none⟩=some (.int .i64 K):=R2.out.cell_ rfl
 have n1:V.cell? ⟨q2,1,none⟩=some (.int .u64 (N:Int)):=R2.out.cell_ rfl
 have n2:V.cell? ⟨q2,2,none⟩=some (.slice r.1 r.2.1 r.2.2.1):=R2.out.cell_ rfl
 have n3:V.cell? ⟨q2,3,none⟩=some (.slice B n cc):=R2.out.cell_ rfl
 have g0:V.cell? ⟨w.heap.size+1,0,none⟩=some (.slice none 0 0):=R1.out.cell_ rfl
 have h0:=R1.out.frozen 0
 have g1:V.cell? ⟨w.heap.size+1,1,none⟩=some (.bool false):=R1.out.cell_ rfl
 have h1:=R1.out.frozen 1
 go_upto_region 7 with fail
 refine wp_region_held_drew (S:=fun x=>Bl x (q2+1) 54 #[.slice A' m' c',.bool false]∧Bl x q2 26 #[.int .i64 K,.int .u64 (N:Int),.slice r.1 r.2.1 r.2.2.1,.slice B n cc]) (by kernel_rfl) ⟨bl_drew R3.out,bl_drew R2.out⟩ (fun hS9=>?_)
 clear hS9
 refine take_l 0 (v:=?_) rfl (by kernel_rfl) (by kernel_rfl) (by kernel_rfl) (fun _ _ _ h=>h) (Or.inl ⟨by rfl,?_⟩) (⟨bl_drew R3.out,bl_drew R2.out⟩) ?_;rotate_left
 ·intro w' hSw
  clear hSw
  go_simp
  all_goals with_reducible rfl
 try simp only[Act.put,List.setIfInBounds_toArray,List.set_cons_zero,List.set_cons_succ]
 refine take_l 1 (v:=?_) rfl (by kernel_rfl) (by kernel_rfl) (by kernel_rfl) (fun _ _ _ h=>h) (Or.inl ⟨by rfl,?_⟩) (⟨bl_drew R3.out,bl_drew R2.out⟩) ?_;rotate_left
 ·intro w' hSw
  have e0:w'.cell? ⟨q2,0,none⟩=some (.int .i64 K):=Bl.cell_ hSw.2 rfl
  have e1:w'.cell? ⟨q2,1,none⟩=some (.int .u64 (N:Int)):=Bl.cell_ hSw.2 rfl
  have e2:w'.cell? ⟨q2,2,none⟩=some (.slice r.1 r.2.1 r.2.2.1):=Bl.cell_ hSw.2 rfl
  have e3:w'.cell? ⟨q2,3,none⟩=some (.slice B n cc):=Bl.cell_ hSw.2 rfl
  clear hSw
  go_simp
  all_goals with_reducible rfl
 try simp only[Act.put,List.setIfInBounds_toArray,List.set_cons_zero,List.set_cons_succ]
 refine take_l 2 (v:=?_) rfl (by kernel_rfl) (by kernel_rfl) (by kernel_rfl) (fun _ _ _ h=>h) (Or.inl ⟨by rfl,?_⟩) (⟨bl_drew R3.out,bl_drew R2.out⟩) ?_;rotate_left
 ·intro w' hSw
  have e0:w'.cell? ⟨q2+1,0,none⟩=some (.slice A' m' c'):=Bl.cell_ hSw.1 rfl
  have e1:w'.cell? ⟨q2+1,1,none⟩=some (.bool false):=Bl.cell_ hSw.1 rfl
  clear hSw
  go_simp
  all_goals with_reducible rfl
 try simp only[Act.put,List.setIfInBounds_toArray,List.set_cons_zero,List.set_cons_succ]
 refine wpAnyH_ready (rs:=[3]) (by kernel_rfl) (by simp) ?_
 refine cons_l rfl (fun K0 hK=>?_) AllReadyH.nil
 go_simp
 refine hK.out _ _ (⟨bl_drew R3.out,bl_drew R2.out⟩) (fun hS9=>?_)
 clear hS9
 clear hK K0
 try simp only[Act.put,List.setIfInBounds_toArray,List.set_cons_zero,List.set_cons_succ]
 refine wpAnyH_ready (rs:=[4]) (by kernel_rfl) (by simp) ?_
 refine cons_l rfl (fun K0 hK=>?_) AllReadyH.nil
 go_simp
 refine hK.out _ _ (⟨bl_drew (st2_other R3.out (by omega) _ _),bl_drew (st2_other R2.out (by omega) _ _)⟩) (fun hS9=>?_)
 clear hS9
 clear hK K0
 try simp only[Act.put,List.setIfInBounds_toArray,List.set_cons_zero,List.set_cons_succ]
 refine wpAnyH_done (by kernel_rfl) ?_ _
 rename_i hret
 refine hret _ _ ?_
 refine wp_ret ?_
 have T2:=Lib.hid (show Bl (st2 V (w.heap.size+1) (.slice A' m' c') (.bool false)).drew (w.heap.size+1) 54 #[.slice A' m' c',.bool false] from bl_drew (st2_bl R1.out _ _))
 have TB:=Lib.hid (show Below w.heap.size w (st2 V (w.heap.size+1) (.slice A' m' c') (.bool false)).drew from below_drew (below_st2 BV.out (by omega) _ _))
 have TW:=Lib.hid (show Below w.heap.size w (st2 V (w.heap.size+1) (.slice A' m' c') (.bool false)).drew from TB.out)
 refine⟨rfl,_,results_tc rfl _ _ _ _ ⟨w.heap.size+1,0,none⟩ _ rfl (by kernel_rfl) (run_loadVar_row _ (w.heap.size+1) 54 54 #[.slice A' m' c',.bool false] (0,0) _ T2.out Try.underlying54 rfl sizeF),rfl,TW.out⟩
end Go.Proofs.Ytkahelhoaihajaa.Wr
