/- Joined texts. -/
import Derived.Test.YtkahelhoaihajaaQwWrRWrite
set_option linter.unusedVariables false
namespace Go.Proofs.Ytkahelhoaihajaa.Wr
open Go.RowKit Go.Proofs.Ytkahelhoaihajaa.Gn Go.Proofs.Ytkahelhoaihajaa.Fd Go.Deep
theorem RWrite_pc{w:World}{v:Tv}(hv:Ok w v)(a b c d:Int)(hz:szn (nd v)≤2000) :
  Calls Try.prog 14 #[v.val,.agg #[.int .i64 a,.int .i64 b,.int .i64 c,.int .i64 d]] w (WpQ (wern (max a 0) (max b 0) (max c 0) (max d 0) (nd v)) (wout (max a 0) (max b 0) (max c 0) (max d 0) (nd v)) w):=by
 obtain⟨-, h2,-, h4⟩:=nd_all v hv
 refine(RWrite_any hv a b c d (by omega)).mono fun e w' ⟨hb,h⟩=>⟨hb,?_⟩
 rw[wer_nd hv,h2] at h
 unfold wout
 rcases h with⟨h1,T',rfl,h3⟩|⟨h1,rfl⟩
 ·rw[if_pos h1,h1]
  obtain⟨A,cp,rfl,s1,s2,s3,-, s5⟩:=Sl.own h3
  have s0:=smn_ok v hv (by omega)
  exact⟨A,cp,rfl,⟨rfl,s1,wbn_lt v hv (wern_rn h1) s0,s3,s2⟩,fun ad e=>(s5 ad e).2⟩
 ·rw[if_neg h1]
  exact⟨none,0,rfl,nil_pc _,fun ad e=>by cases e⟩
set_option maxHeartbeats 4000000 in
set_option maxRecDepth 100000 in
theorem walk_wireWrites{w:World}{v:Tv}(hv:Ok0 w v)(a b c d:Int)(wd:(Lit.int .i64 d).wf) :
  Calls Try.prog 3 #[v.val,.agg #[.int .i64 a,.int .i64 b,.int .i64 c,.int .i64 d]] w fun e w'=>e=.returned (.bool true)∧Below w.heap.size w w':=by
 have hd:=(wf_i64 wd).2
 have KN:=Lib.hid known_any
 have OW:=Lib.hid (fun u=>own_lim a b c d u)
 have GR:=Lib.hid (fun u hu=>great_any hv u hu)
 clear wd
 obtain⟨SZ,hSZ⟩:∃SZ,sz v=SZ:=⟨_,rfl⟩
 rw[hSZ] at GR
 have MAIN:=Lib.hid (show SZ≤2000→Ok w v∧szn (nd v)≤2000 from fun h1=>by
  have h3:=hv.ok v (by omega)
  have h4:=(nd_all v h3).2.2.2
  refine⟨h3,by rw[←h4];omega⟩)
 clear hv hSZ
 have CONT:=Lib.hid (show SZ≤2000→∃(er:Int) (L:List Nat) (rv:Bool),(∀u,Below w.heap.size w u→Calls Try.prog 12 #[v.val,lim a b c d] u (WpQ er L u))∧(∀u,Below w.heap.size w u→Calls Try.prog 14 #[v.val,.agg #[.int .i64 a,.int .i64 b,.int .i64 c,.int .i64 d]] u (WpQ er L u))∧(∀u,Below w.heap.size w u→Calls Try.prog 15 #[v.val] u (RiQ rv u))∧(∀u,Below w.heap.size w u→Calls Try.prog 16 #[v.val] u (RiQ rv u)) from fun h1=>by
  obtain⟨hok,hsz⟩:=MAIN.out h1
  exact⟨_,_,_,fun u hu=>Write_pc (hok.keep hu) a b c d hd (by omega),fun u hu=>RWrite_pc (hok.keep hu) a b c d hsz,fun u hu=>Right_any hok u hu,fun u hu=>RRight_any hok u hu⟩)
 obtain⟨K0,N0,r0,B0,c0,v0⟩:=v
 simp only[Tv.val,Tv.row] at GR CONT ⊢
 clear MAIN
 obtain⟨U,hU⟩:∃U,((w.alloc (.cells #[.int .i64 K0,.int .u64 (N0:Int),.slice r0.1 r0.2.1 r0.2.2.1,.slice B0 v0.length c0] 26)).alloc (.cells #[.int .i64 a,.int .i64 b,.int .i64 c,.int .i64 d] 28))=U:=⟨_,rfl⟩
 have BU:=Lib.hid (show Below w.heap.size w U from by rw[←hU];exact((Below.refl _ w).alloc (Nat.le_refl _) _).alloc (by simp) _)
 have NV:=Lib.hid (show Bl U w.heap.size 26 #[.int .i64 K0,.int .u64 (N0:Int),.slice r0.1 r0.2.1 r0.2.2.1,.slice B0 v0.length c0] from by rw[←hU];exact(Bl.new_ w _ _).alloc _)
 have NL:=Lib.hid (show Bl U (w.heap.size+1) 28 #[.int .i64 a,.int .i64 b,.int .i64 c,.int .i64 d] from by rw[←hU];exact Bl.new' _ _ (by simp))
 have z0:(U).cell? ⟨w.heap.size,0,none⟩=some (.int .i64 K0):=(NV.out).cell_ rfl
 have z1:(U).cell? ⟨w.heap.size,1,none⟩=some (.int .u64 (N0:Int)):=(NV.out).cell_ rfl
 have z2:(U).cell? ⟨w.heap.size,2,none⟩=some (.slice r0.1 r0.2.1 r0.2.2.1):=(NV.out).cell_ rfl
 have z3:(U).cell? ⟨w.heap.size,3,none⟩=some (.slice B0 v0.length c0):=(NV.out).cell_ rfl
 by_cases g1:2000 < SZ
 ·rw[decide_eq_true g1] at GR
  clear g1 hd CONT
  go_enter Try.func3,Try.ntmps3
  go_wp2_with (first
   |(go_at_call 10;(refine(GR.out _ BU.out).mono ?_);rintro e w1 ⟨rfl,hb1⟩;have F1:=Lib.hid hb1;clear hb1)
   |(go_at_call 11;(refine(KN.out _).mono ?_);rintro e w3 ⟨rfl,hb3⟩;have F3:=Lib.hid hb3;clear hb3))
  go_ret
  exact⟨rfl,BU.out.trans ((F1.out.trans (F3.out.mono F1.out.size)).mono BU.out.size)⟩
 rw[decide_eq_false g1] at GR
 obtain⟨er1,L1,rv,h1,h2,h3,h4⟩:=CONT.out (by omega)
 have CW1:=Lib.hid h1
 have CW2:=Lib.hid h2
 have CR1:=Lib.hid h3
 have CR2:=Lib.hid h4
 clear h1 h2 h3 h4 CONT g1 hd
 go_enter Try.func3,Try.ntmps3
 go_upto_region 3 with(first
  |(go_at_call 10;(refine(GR.out _ BU.out).mono ?_);rintro e w1 ⟨rfl,hb1⟩;have F1:=Lib.hid hb1;clear hb1))
 refine wp_region_held_drew (S:=fun x=>Below (w1).heap.size (w1) x) (by kernel_rfl) (below_drewN (Below.refl _ _) 1) (fun _=>?_)
 refine take_l 0 (v:=?_) rfl (by kernel_rfl) (by kernel_rfl) (by kernel_rfl) (fun _ _ _ h=>h) (Or.inl ⟨by rfl,?_⟩) (by first|exact BS.out|exact below_drewN (Below.refl _ _) 1) ?_;rotate_left
 ·intro w' hSw
  have zz0:(w').cell? ⟨w.heap.size,0,none⟩=some (.int .i64 K0):=((NV.out.below' F1.out).below' hSw).cell_ rfl
  have zz1:(w').cell? ⟨w.heap.size,1,none⟩=some (.int .u64 (N0:Int)):=((NV.out.below' F1.out).below' hSw).cell_ rfl
  have zz2:(w').cell? ⟨w.heap.size,2,none⟩=some (.slice r0.1 r0.2.1 r0.2.2.1):=((NV.out.below' F1.out).below' hSw).cell_ rfl
  have zz3:(w').cell? ⟨w.heap.size,3,none⟩=some (.slice B0 v0.length c0):=((NV.out.below' F1.out).below' hSw).cell_ rfl
  have yy0:(w').cell? ⟨w.heap.size+1,0,none⟩=some (.int .i64 a):=((NL.out.below' F1.out).below' hSw).cell_ rfl
  have yy1:(w').cell? ⟨w.heap.size+1,1,none⟩=some (.int .i64 b):=((NL.out.below' F1.out).below' hSw).cell_ rfl
  have yy2:(w').cell? ⟨w.heap.size+1,2,none⟩=some (.int .i64 c):=((NL.out.below' F1.out).below' hSw).cell_ rfl
  have yy3:(w').cell? ⟨w.heap.size+1,3,none⟩=some (.int .i64 d):=((NL.out.below' F1.out).below' hSw).cell_ rfl
  clear hSw
  go_simp
  all_goals with_reducible rfl
 try simp only[Act.put,List.setIfInBounds_toArray,List.set_cons_zero,List.set_cons_succ]
 refine take_l 1 (v:=?_) rfl (by kernel_rfl) (by kernel_rfl) (by kernel_rfl) (fun _ _ _ h=>h) (Or.inl ⟨by rfl,?_⟩) (by first|exact BS.out|exact below_drewN (Below.refl _ _) 1) ?_;rotate_left
 ·intro w' hSw
  have zz0:(w').cell? ⟨w.heap.size,0,none⟩=some (.int .i64 K0):=((NV.out.below' F1.out).below' hSw).cell_ rfl
  have zz1:(w').cell? ⟨w.heap.size,1,none⟩=some (.int .u64 (N0:Int)):=((NV.out.below' F1.out).below' hSw).cell_ rfl
  have zz2:(w').cell? ⟨w.heap.size,2,none⟩=some (.slice r0.1 r0.2.1 r0.2.2.1):=((NV.out.below' F1.out).below' hSw).cell_ rfl
  have zz3:(w').cell? ⟨w.heap.size,3,none⟩=some (.slice B0 v0.length c0):=((NV.out.below' F1.out).below' hSw).cell_ rfl
  have yy0:(w').cell? ⟨w.heap.size+1,0,none⟩=some (.int .i64 a):=((NL.out.below' F1.out).below' hSw).cell_ rfl
  have yy1:(w').cell? ⟨w.heap.size+1,1,none⟩=some (.int .i64 b):=((NL.out.below' F1.out).below' hSw).cell_ rfl
  have yy2:(w').cell? ⟨w.heap.size+1,2,none⟩=some (.int .i64 c):=((NL.out.below' F1.out).below' hSw).cell_ rfl
  have yy3:(w').cell? ⟨w.heap.size+1,3,none⟩=some (.int .i64 d):=((NL.out.below' F1.out).below' hSw).cell_ rfl
  clear hSw
  go_simp
  all_goals with_reducible rfl
 try simp only[Act.put,List.setIfInBounds_toArray,List.set_cons_zero,List.set_cons_succ]
 refine wpAnyH_ready (rs:=[2]) (by kernel_rfl) (by simp) ?_
 refine cons_l rfl (fun K0 hK=>?_) AllReadyH.nil
 go_simp
 (go_at_call 13;(refine(OW.out _).mono ?_);rintro e w3 ⟨rfl,hb3⟩)
 have BS:=Lib.hid (show Below w1.heap.size w1 w3 from(below_drewN (Below.refl _ _) 1).trans (hb3.mono (Nat.le_refl _)))
 clear hb3
 refine hK.out _ _ (by first|exact BS.out|exact below_drewN (Below.refl _ _) 1) (fun _=>?_)
 clear hK K0
 try simp only[Act.put,List.setIfInBounds_toArray,List.set_cons_zero,List.set_cons_succ]
 refine wpAnyH_ready (rs:=[3]) (by kernel_rfl) (by simp) ?_
 refine cons_l rfl (fun K0 hK=>?_) AllReadyH.nil
 go_simp
 (go_at_call 12;(refine(CW1.out _ (BU.out.trans ((F1.out.trans (BS.out.mono F1.out.size)).mono BU.out.size))).mono ?_);rintro e w4 ⟨hb4,A4,c4,rfl,hp4,hi4⟩)
 have B4':=Lib.hid (show Below w1.heap.size w1 w4 from BS.out.trans (hb4.mono BS.out.size))
 have BS:=Lib.hid B4'.out
 have P4:=Lib.hid hp4
 clear hb4 hp4 hi4
 refine hK.out _ _ (by first|exact BS.out|exact below_drewN (Below.refl _ _) 1) (fun _=>?_)
 clear hK K0
 try simp only[Act.put,List.setIfInBounds_toArray,List.set_cons_zero,List.set_cons_succ]
 refine take_l 4 (v:=?_) rfl (by kernel_rfl) (by kernel_rfl) (by kernel_rfl) (fun _ _ _ h=>h) (Or.inl ⟨by rfl,?_⟩) (by first|exact BS.out|exact below_drewN (Below.refl _ _) 1) ?_;rotate_left
 ·intro w' hSw
  clear hSw
  go_simp
  all_goals with_reducible rfl
 try simp only[Act.put,List.setIfInBounds_toArray,List.set_cons_zero,List.set_cons_succ]
 refine take_l 5 (v:=?_) rfl (by kernel_rfl) (by kernel_rfl) (by kernel_rfl) (fun _ _ _ h=>h) (Or.inl ⟨by rfl,?_⟩) (by first|exact BS.out|exact below_drewN (Below.refl _ _) 1) ?_;rotate_left
 ·intro w' hSw
  clear hSw
  go_simp
  all_goals with_reducible rfl
 try simp only[Act.put,List.setIfInBounds_toArray,List.set_cons_zero,List.set_cons_succ]
 refine take_l 6 (v:=?_) rfl (by kernel_rfl) (by kernel_rfl) (by kernel_rfl) (fun _ _ _ h=>h) (Or.inl ⟨by rfl,?_⟩) (by first|exact BS.out|exact below_drewN (Below.refl _ _) 1) ?_;rotate_left
 ·intro w' hSw
  clear hSw
  go_simp
  all_goals with_reducible rfl
 try simp only[Act.put,List.setIfInBounds_toArray,List.set_cons_zero,List.set_cons_succ]
 refine take_l 7 (v:=?_) rfl (by kernel_rfl) (by kernel_rfl) (by kernel_rfl) (fun _ _ _ h=>h) (Or.inl ⟨by rfl,?_⟩) (by first|exact BS.out|exact below_drewN (Below.refl _ _) 1) ?_;rotate_left
 ·intro w' hSw
  clear hSw
  go_simp
  all_goals with_reducible rfl
 try simp only[Act.put,List.setIfInBounds_toArray,List.set_cons_zero,List.set_cons_succ]
 refine take_l 8 (v:=?_) rfl (by kernel_rfl) (by kernel_rfl) (by kernel_rfl) (fun _ _ _ h=>h) (Or.inl ⟨by rfl,?_⟩) (by first|exact BS.out|exact below_drewN (Below.refl _ _) 1) ?_;rotate_left
 ·intro w' hSw
  clear hSw
  go_simp
  all_goals with_reducible rfl
 try simp only[Act.put,List.setIfInBounds_toArray,List.set_cons_zero,List.set_cons_succ]
 refine wpAnyH_done (by kernel_rfl) ?_ _
 have F4:=Lib.hid (show Below U.heap.size U w4 from F1.out.trans (BS.out.mono F1.out.size))
 have xx0:(w4).cell? ⟨w.heap.size,0,none⟩=some (.int .i64 K0):=(NV.out.below' F4.out).cell_ rfl
 have xx1:(w4).cell? ⟨w.heap.size,1,none⟩=some (.int .u64 (N0:Int)):=(NV.out.below' F4.out).cell_ rfl
 have xx2:(w4).cell? ⟨w.heap.size,2,none⟩=some (.slice r0.1 r0.2.1 r0.2.2.1):=(NV.out.below' F4.out).cell_ rfl
 have xx3:(w4).cell? ⟨w.heap.size,3,none⟩=some (.slice B0 v0.length c0):=(NV.out.below' F4.out).cell_ rfl
 have vv0:(w4).cell? ⟨w.heap.size+1,0,none⟩=some (.int .i64 a):=(NL.out.below' F4.out).cell_ rfl
 have vv1:(w4).cell? ⟨w.heap.size+1,1,none⟩=some (.int .i64 b):=(NL.out.below' F4.out).cell_ rfl
 have vv2:(w4).cell? ⟨w.heap.size+1,2,none⟩=some (.int .i64 c):=(NL.out.below' F4.out).cell_ rfl
 have vv3:(w4).cell? ⟨w.heap.size+1,3,none⟩=some (.int .i64 d):=(NL.out.below' F4.out).cell_ rfl
 go_upto_region 5 with(first
  |(go_at_call 14;(refine(CW2.out _ (BU.out.trans (F4.out.mono BU.out.size))).mono ?_);rintro e w5 ⟨hb5,A5,c5,rfl,hp5,hi5⟩;have B5:=Lib.hid hb5;have P5:=Lib.hid hp5;clear hb5 hp5 hi5))
 have F5:=Lib.hid (show Below U.heap.size U w5 from F4.out.trans (B5.out.mono F4.out.size))
 have P45:=Lib.hid (P4.out.below B5.out)
 refine wp_region_held_drew (S:=fun x=>Below (w5).heap.size (w5) x) (by kernel_rfl) (below_drewN (Below.refl _ _) 1) (fun _=>?_)
 refine take_l 0 (v:=?_) rfl (by kernel_rfl) (by kernel_rfl) (by kernel_rfl) (fun _ _ _ h=>h) (Or.inl ⟨by rfl,?_⟩) (by first|exact BT.out|exact below_drewN (Below.refl _ _) 1) ?_;rotate_left
 ·intro w' hSw
  have zz0:(w').cell? ⟨w.heap.size,0,none⟩=some (.int .i64 K0):=((NV.out.below' F5.out).below' hSw).cell_ rfl
  have zz1:(w').cell? ⟨w.heap.size,1,none⟩=some (.int .u64 (N0:Int)):=((NV.out.below' F5.out).below' hSw).cell_ rfl
  have zz2:(w').cell? ⟨w.heap.size,2,none⟩=some (.slice r0.1 r0.2.1 r0.2.2.1):=((NV.out.below' F5.out).below' hSw).cell_ rfl
  have zz3:(w').cell? ⟨w.heap.size,3,none⟩=some (.slice B0 v0.length c0):=((NV.out.below' F5.out).below' hSw).cell_ rfl
  clear hSw
  go_simp
  all_goals with_reducible rfl
 try simp only[Act.put,List.setIfInBounds_toArray,List.set_cons_zero,List.set_cons_succ]
 refine take_l 2 (v:=?_) rfl (by kernel_rfl) (by kernel_rfl) (by kernel_rfl) (fun _ _ _ h=>h) (Or.inl ⟨by rfl,?_⟩) (by first|exact BT.out|exact below_drewN (Below.refl _ _) 1) ?_;rotate_left
 ·intro w' hSw
  have zz0:(w').cell? ⟨w.heap.size,0,none⟩=some (.int .i64 K0):=((NV.out.below' F5.out).below' hSw).cell_ rfl
  have zz1:(w').cell? ⟨w.heap.size,1,none⟩=some (.int .u64 (N0:Int)):=((NV.out.below' F5.out).below' hSw).cell_ rfl
  have zz2:(w').cell? ⟨w.heap.size,2,none⟩=some (.slice r0.1 r0.2.1 r0.2.2.1):=((NV.out.below' F5.out).below' hSw).cell_ rfl
  have zz3:(w').cell? ⟨w.heap.size,3,none⟩=some (.slice B0 v0.length c0):=((NV.out.below' F5.out).below' hSw).cell_ rfl
  clear hSw
  go_simp
  all_goals with_reducible rfl
 try simp only[Act.put,List.setIfInBounds_toArray,List.set_cons_zero,List.set_cons_succ]
 refine wpAnyH_ready (rs:=[1]) (by kernel_rfl) (by simp) ?_
 refine cons_l rfl (fun K0 hK=>?_) AllReadyH.nil
 go_simp
 (go_at_call 15;(refine(CR1.out _ (BU.out.trans ((F5.out.trans (((below_drewN (Below.refl _ _) 1):Below w5.heap.size w5 _).mono F5.out.size)).mono BU.out.size))).mono ?_);rintro e w6 ⟨rfl,hb6⟩)
 have BT':=Lib.hid (show Below w5.heap.size w5 w6 from((below_drewN (Below.refl _ _) 1):Below w5.heap.size w5 _).trans (hb6.mono (Nat.le_refl _)))
 have BT:=Lib.hid BT'.out
 clear hb6
 refine hK.out _ _ (by first|exact BT.out|exact below_drewN (Below.refl _ _) 1) (fun _=>?_)
 clear hK K0
 try simp only[Act.put,List.setIfInBounds_toArray,List.set_cons_zero,List.set_cons_succ]
 refine wpAnyH_ready (rs:=[3]) (by kernel_rfl) (by simp) ?_
 refine cons_l rfl (fun K0 hK=>?_) AllReadyH.nil
 go_simp
 (go_at_call 16;(refine(CR2.out _ (BU.out.trans ((F5.out.trans ((BT.out:Below w5.heap.size w5 _).mono F5.out.size)).mono BU.out.size))).mono ?_);rintro e w7 ⟨rfl,hb7⟩)
 have BT':=Lib.hid (show Below w5.heap.size w5 w7 from(BT.out:Below w5.heap.size w5 _).trans (hb7.mono BT.out.size))
 have BT:=Lib.hid BT'.out
 clear hb7
 refine hK.out _ _ (by first|exact BT.out|exact below_drewN (Below.refl _ _) 1) (fun _=>?_)
 clear hK K0
 try simp only[Act.put,List.setIfInBounds_toArray,List.set_cons_zero,List.set_cons_succ]
 refine take_l 4 (v:=?_) rfl (by kernel_rfl) (by kernel_rfl) (by kernel_rfl) (fun _ _ _ h=>h) (Or.inl ⟨by rfl,?_⟩) (by first|exact BT.out|exact below_drewN (Below.refl _ _) 1) ?_;rotate_left
 ·intro w' hSw
  clear hSw
  go_simp
  all_goals with_reducible rfl
 try simp only[Act.put,List.setIfInBounds_toArray,List.set_cons_zero,List.set_cons_succ]
 refine take_l 5 (v:=?_) rfl (by kernel_rfl) (by kernel_rfl) (by kernel_rfl) (fun _ _ _ h=>h) (Or.inl ⟨by rfl,?_⟩) (by first|exact BT.out|exact below_drewN (Below.refl _ _) 1) ?_;rotate_left
 ·intro w' hSw
  clear hSw
  go_simp
  all_goals with_reducible rfl
 try simp only[Act.put,List.setIfInBounds_toArray,List.set_cons_zero,List.set_cons_succ]
 refine take_l 6 (v:=?_) rfl (by kernel_rfl) (by kernel_rfl) (by kernel_rfl) (fun _ _ _ h=>h) (Or.inl ⟨by rfl,?_⟩) (by first|exact BT.out|exact below_drewN (Below.refl _ _) 1) ?_;rotate_left
 ·intro w' hSw
  clear hSw
  go_simp
  all_goals with_reducible rfl
 try simp only[Act.put,List.setIfInBounds_toArray,List.set_cons_zero,List.set_cons_succ]
 refine take_l 7 (v:=?_) rfl (by kernel_rfl) (by kernel_rfl) (by kernel_rfl) (fun _ _ _ h=>h) (Or.inl ⟨by rfl,?_⟩) (by first|exact BT.out|exact below_drewN (Below.refl _ _) 1) ?_;rotate_left
 ·intro w' hSw
  clear hSw
  go_simp
  all_goals with_reducible rfl
 try simp only[Act.put,List.setIfInBounds_toArray,List.set_cons_zero,List.set_cons_succ]
 refine wpAnyH_ready (rs:=[8]) (by kernel_rfl) (by simp) ?_
 refine cons_l rfl (fun K0 hK=>?_) AllReadyH.nil
 go_simp
 have CSB:=Lib.hid (samebytes_any A4 A5 L1.length L1.length c4 c5 L1 L1 w7 P45.out.lt P45.out.lt (P45.out.below BT.out).row (P5.out.below BT.out).row)
 rw[beq_self_eq_true] at CSB
 (go_at_call 17;(refine CSB.out.mono ?_);rintro e w8 ⟨rfl,rfl⟩)
 refine hK.out _ _ (by first|exact BT.out|exact below_drewN (Below.refl _ _) 1) (fun _=>?_)
 clear hK K0
 try simp only[Act.put,List.setIfInBounds_toArray,List.set_cons_zero,List.set_cons_succ]
 refine take_l 9 (v:=?_) rfl (by kernel_rfl) (by kernel_rfl) (by kernel_rfl) (fun _ _ _ h=>h) (Or.inl ⟨by rfl,?_⟩) (by first|exact BT.out|exact below_drewN (Below.refl _ _) 1) ?_;rotate_left
 ·intro w' hSw
  clear hSw
  go_simp
  all_goals with_reducible rfl
 try simp only[Act.put,List.setIfInBounds_toArray,List.set_cons_zero,List.set_cons_succ]
 refine take_l 10 (v:=?_) rfl (by kernel_rfl) (by kernel_rfl) (by kernel_rfl) (fun _ _ _ h=>h) (Or.inl ⟨by rfl,?_⟩) (by first|exact BT.out|exact below_drewN (Below.refl _ _) 1) ?_;rotate_left
 ·intro w' hSw
  clear hSw
  go_simp
  all_goals with_reducible rfl
 try simp only[Act.put,List.setIfInBounds_toArray,List.set_cons_zero,List.set_cons_succ]
 refine take_l 11 (v:=?_) rfl (by kernel_rfl) (by kernel_rfl) (by kernel_rfl) (fun _ _ _ h=>h) (Or.inl ⟨by rfl,?_⟩) (by first|exact BT.out|exact below_drewN (Below.refl _ _) 1) ?_;rotate_left
 ·intro w' hSw
  clear hSw
  go_simp
  all_goals with_reducible rfl
 try simp only[Act.put,List.setIfInBounds_toArray,List.set_cons_zero,List.set_cons_succ]
 refine take_l 12 (v:=?_) rfl (by kernel_rfl) (by kernel_rfl) (by kernel_rfl) (fun _ _ _ h=>h) (Or.inl ⟨by rfl,?_⟩) (by first|exact BT.out|exact below_drewN (Below.refl _ _) 1) ?_;rotate_left
 ·intro w' hSw
  clear hSw
  go_simp
  all_goals with_reducible rfl
 try simp only[Act.put,List.setIfInBounds_toArray,List.set_cons_zero,List.set_cons_succ]
 refine take_l 13 (v:=?_) rfl (by kernel_rfl) (by kernel_rfl) (by kernel_rfl) (fun _ _ _ h=>h) (Or.inl ⟨by rfl,?_⟩) (by first|exact BT.out|exact below_drewN (Below.refl _ _) 1) ?_;rotate_left
 ·intro w' hSw
  clear hSw
  go_simp
  all_goals with_reducible rfl
 try simp only[Act.put,List.setIfInBounds_toArray,List.set_cons_zero,List.set_cons_succ]
 refine take_l 14 (v:=?_) rfl (by kernel_rfl) (by kernel_rfl) (by kernel_rfl) (fun _ _ _ h=>h) (Or.inl ⟨by rfl,?_⟩) (by first|exact BT.out|exact below_drewN (Below.refl _ _) 1) ?_;rotate_left
 ·intro w' hSw
  clear hSw
  go_simp
  all_goals with_reducible rfl
 try simp only[Act.put,List.setIfInBounds_toArray,List.set_cons_zero,List.set_cons_succ]
 refine take_l 15 (v:=?_) rfl (by kernel_rfl) (by kernel_rfl) (by kernel_rfl) (fun _ _ _ h=>h) (Or.inl ⟨by rfl,?_⟩) (by first|exact BT.out|exact below_drewN (Below.refl _ _) 1) ?_;rotate_left
 ·intro w' hSw
  clear hSw
  go_simp
  all_goals with_reducible rfl
 try simp only[Act.put,List.setIfInBounds_toArray,List.set_cons_zero,List.set_cons_succ]
 refine wpAnyH_ready (rs:=[16]) (by kernel_rfl) (by simp) ?_
 refine cons_l rfl (fun K0 hK=>?_) AllReadyH.nil
 go_simp
 (go_at_call 11;(refine(KN.out _).mono ?_);rintro e w9 ⟨rfl,hb9⟩)
 have BT':=Lib.hid (show Below w5.heap.size w5 w9 from BT.out.trans (hb9.mono BT.out.size))
 have BT:=Lib.hid BT'.out
 clear hb9
 refine hK.out _ _ (by first|exact BT.out|exact below_drewN (Below.refl _ _) 1) (fun _=>?_)
 clear hK K0
 try simp only[Act.put,List.setIfInBounds_toArray,List.set_cons_zero,List.set_cons_succ]
 refine take_l 17 (v:=?_) rfl (by kernel_rfl) (by kernel_rfl) (by kernel_rfl) (fun _ _ _ h=>h) (Or.inl ⟨by rfl,?_⟩) (by first|exact BT.out|exact below_drewN (Below.refl _ _) 1) ?_;rotate_left
 ·intro w' hSw
  clear hSw
  go_simp
  all_goals with_reducible rfl
 try simp only[Act.put,List.setIfInBounds_toArray,List.set_cons_zero,List.set_cons_succ]
 refine take_l 18 (v:=?_) rfl (by kernel_rfl) (by kernel_rfl) (by kernel_rfl) (fun _ _ _ h=>h) (Or.inl ⟨by rfl,?_⟩) (by first|exact BT.out|exact below_drewN (Below.refl _ _) 1) ?_;rotate_left
 ·intro w' hSw
  clear hSw
  go_simp
  all_goals with_reducible rfl
 try simp only[Act.put,List.setIfInBounds_toArray,List.set_cons_zero,List.set_cons_succ]
 refine wpAnyH_done (by kernel_rfl) ?_ _
 go_wp2_with fail
 go_ret
 exact⟨rfl,BU.out.trans ((F5.out.trans (BT.out.mono F5.out.size)).mono BU.out.size)⟩
end Go.Proofs.Ytkahelhoaihajaa.Wr
