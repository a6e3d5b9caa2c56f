/- Joined texts. -/
import Derived.Test.YtkahelhoaihajaaQbWrMoreC
set_option linter.unusedVariables false
namespace Go.Proofs.Ytkahelhoaihajaa.Wr
open Go.RowKit Go.Proofs.Ytkahelhoaihajaa.Gn Go.Proofs.Ytkahelhoaihajaa.Fd Go.Deep
set_option maxHeartbeats 4000000 in
set_option maxRecDepth 100000 in
theorem walk_wireMore{w:World}{v:Tv}(hv:Ok0 w v)(A:Option Addr)(m cap:Nat)(l:List Nat)(hl:BL w A m cap l)(hin:∀ad,A=some ad→ad.block < w.heap.size)(a b c d:Int)(wa:(Lit.int .i64 a).wf)(wb:(Lit.int .i64 b).wf)(wc:(Lit.int .i64 c).wf)(wd:(Lit.int .i64 d).wf)(n0:Int)(w0:(Lit.int .i64 n0).wf)(n1:Int)(w1:(Lit.int .i64 n1).wf)(n2:Int)(w2:(Lit.int .i64 n2).wf)(n3:Int)(w3:(Lit.int .i64 n3).wf) :
  Calls Try.prog 8 #[v.val,.slice A m cap,.agg #[.int .i64 a,.int .i64 b,.int .i64 c,.int .i64 d],.int .i64 n0,.int .i64 n1,.int .i64 n2,.int .i64 n3] w fun e w'=>e=.returned (.bool true)∧Below w.heap.size w w':=by
 have hd:=(wf_i64 wd).2
 obtain⟨a',ga,-, M0⟩:=more_any a n0 wa w0
 obtain⟨b',gb,-, M1⟩:=more_any b n1 wb w1
 obtain⟨c',gc,-, M2⟩:=more_any c n2 wc w2
 obtain⟨d',gd,hd',M3⟩:=more_any d n3 wd w3
 have HM:=Lib.hid (And.intro M0 (And.intro M1 (And.intro M2 M3)))
 have HP:=Lib.hid (bl_pc hl)
 have KN:=Lib.hid known_any
 have LGf:=Lib.hid (fun u=>longb_any A m cap u)
 have OW:=Lib.hid (fun u=>own_lim a b c d u)
 have OM:=Lib.hid (fun u=>own_lim a' b' c' d' u)
 have GR:=Lib.hid (fun u hu=>great_any hv u hu)
 clear wa wb wc wd w0 w1 w2 w3 hl M0 M1 M2 M3
 obtain⟨SZ,hSZ⟩:∃SZ,sz v=SZ:=⟨_,rfl⟩
 rw[hSZ] at GR
 have hl9:m=l.length:=HP.out.len
 obtain⟨V0,hV0⟩:∃V0,nd v=V0:=⟨_,rfl⟩
 have MAIN:=Lib.hid (show SZ≤2000→m≤2000→Ok w v∧szn V0≤2000 from fun h1 h2=>by
  have h3:=hv.ok v (by omega)
  have h4:=(nd_all v h3).2.2.2
  refine⟨h3,by rw[←hV0,←h4];omega⟩)
 clear hv hSZ
 obtain⟨K0,N0,r0,B0,c0,v0⟩:=v
 simp only[Tv.val,Tv.row] at GR ⊢
 obtain⟨U,hU⟩:∃U,((w.alloc (.cells #[.int .i64 K0,.int .u64 (N0:Int),.slice r0.1 r0.2.1 r0.2.2.1,.slice B0 v0.length c0] 26)).alloc (.cells #[.int .i64 a,.int .i64 b,.int .i64 c,.int .i64 d] 28))=U:=⟨_,rfl⟩
 have BU:=Lib.hid (show Below w.heap.size w U from by rw[←hU];exact((Below.refl _ w).alloc (Nat.le_refl _) _).alloc (by simp) _)
 have NV:=Lib.hid (show Bl U w.heap.size 26 #[.int .i64 K0,.int .u64 (N0:Int),.slice r0.1 r0.2.1 r0.2.2.1,.slice B0 v0.length c0] from by rw[←hU];exact(Bl.new_ w _ _).alloc _)
 have NL:=Lib.hid (show Bl U (w.heap.size+1) 28 #[.int .i64 a,.int .i64 b,.int .i64 c,.int .i64 d] from by rw[←hU];exact Bl.new' _ _ (by simp))
 have zz0:(U).cell? ⟨w.heap.size,0,none⟩=some (.int .i64 K0):=(NV.out).cell_ rfl
 have zz1:(U).cell? ⟨w.heap.size,1,none⟩=some (.int .u64 (N0:Int)):=(NV.out).cell_ rfl
 have zz2:(U).cell? ⟨w.heap.size,2,none⟩=some (.slice r0.1 r0.2.1 r0.2.2.1):=(NV.out).cell_ rfl
 have zz3:(U).cell? ⟨w.heap.size,3,none⟩=some (.slice B0 v0.length c0):=(NV.out).cell_ rfl
 by_cases g1:2000 < SZ
 ·rw[decide_eq_true g1] at GR
  clear g1 hl9 hd MAIN ga gb gc gd hd'
  go_enter Try.func8,Try.ntmps8
  go_wp2_with (first
   |(go_at_call 10;(refine(GR.out _ BU.out).mono ?_);rintro e w1 ⟨rfl,hb1⟩;have F1:=Lib.hid hb1;clear hb1)
   |(go_at_call 18;(refine(LGf.out _).mono ?_);rintro e w2 ⟨rfl,rfl⟩)
   |(go_at_call 11;(refine(KN.out _).mono ?_);rintro e w3 ⟨rfl,hb3⟩;have F3:=Lib.hid hb3;clear hb3))
  go_ret
  exact⟨rfl,BU.out.trans ((F1.out.trans (F3.out.mono F1.out.size)).mono BU.out.size)⟩
 rw[decide_eq_false g1] at GR
 by_cases g2:2000 < (m:Int)
 ·rw[decide_eq_true g2] at LGf
  clear g1 g2 hl9 hd MAIN ga gb gc gd hd'
  go_enter Try.func8,Try.ntmps8
  go_wp2_with (first
   |(go_at_call 10;(refine(GR.out _ BU.out).mono ?_);rintro e w1 ⟨rfl,hb1⟩;have F1:=Lib.hid hb1;clear hb1)
   |(go_at_call 18;(refine(LGf.out _).mono ?_);rintro e w2 ⟨rfl,rfl⟩)
   |(go_at_call 11;(refine(KN.out _).mono ?_);rintro e w3 ⟨rfl,hb3⟩;have F3:=Lib.hid hb3;clear hb3))
  go_ret
  exact⟨rfl,BU.out.trans ((F1.out.trans (F3.out.mono F1.out.size)).mono BU.out.size)⟩
 rw[decide_eq_false g2] at LGf
 obtain⟨hok,hsz⟩:=MAIN.out (by omega) (by omega)
 obtain⟨er1,her1⟩:∃er1,wern (max a 0) (max b 0) (max c 0) (max d 0) V0=er1:=⟨_,rfl⟩
 obtain⟨L1,hL1⟩:∃L1,wout (max a 0) (max b 0) (max c 0) (max d 0) V0=L1:=⟨_,rfl⟩
 obtain⟨er2,her2⟩:∃er2,wern (max a' 0) (max b' 0) (max c' 0) (max d' 0) V0=er2:=⟨_,rfl⟩
 obtain⟨L2,hL2⟩:∃L2,wout (max a' 0) (max b' 0) (max c' 0) (max d' 0) V0=L2:=⟨_,rfl⟩
 have CW1:=Lib.hid (show ∀u,Below w.heap.size w u→Calls Try.prog 12 #[.agg #[.int .i64 K0,.int .u64 (N0:Int),.slice r0.1 r0.2.1 r0.2.2.1,.slice B0 v0.length c0],lim a b c d] u (WpQ er1 L1 u) from fun u hu=>by
  have h:=Write_pc (hok.keep hu) a b c d hd (by rw[hV0];omega)
  rw[hV0,her1,hL1] at h;exact h)
 have CW2:=Lib.hid (show ∀u,Below w.heap.size w u→Calls Try.prog 12 #[.agg #[.int .i64 K0,.int .u64 (N0:Int),.slice r0.1 r0.2.1 r0.2.2.1,.slice B0 v0.length c0],lim a' b' c' d'] u (WpQ er2 L2 u) from fun u hu=>by
  have h:=Write_pc (hok.keep hu) a' b' c' d' hd' (by rw[hV0];omega)
  rw[hV0,her2,hL2] at h;exact h)
 have E1:er1=0→er2=0∧L1=L2:=fun h=>by
  have h2:=wern_more (a:=max a 0) (b:=max b 0) (c:=max c 0) (d:=max d 0) (a':=max a' 0) (b':=max b' 0) (c':=max c' 0) (d':=max d' 0) (by omega) (by omega) (by omega) (by omega) (by omega) (her1.trans h)
  rw[wout,if_pos h2] at hL2
  rw[wout,if_pos (her1.trans h)] at hL1
  exact⟨her2.symm.trans h2,hL1.symm.trans hL2⟩
 obtain⟨x1,y1,V1,hr1,hy1,hg1,-, hz1⟩:=@rdq3 (max a 0) (max b 0) (max c 0) (max d 0) l
 obtain⟨x2,y2,V2,hr2,hy2,hg2,-, hz2⟩:=@rdq3 (max a' 0) (max b' 0) (max c' 0) (max d' 0) l
 have CR1:=Lib.hid (show ∀u,Below w.heap.size w u→Calls Try.prog 45 #[.slice A m cap,lim a b c d] u (R3Q x1 y1 V1 u) from fun u hu=>(Read_any (HP.out.below hu) a b c d hd (by show m≤900000;omega) (fun ad e=>Nat.lt_of_lt_of_le (hin ad e) hu.size)).mono fun e w' h=>hr1 u e w' h)
 have CR2:=Lib.hid (show ∀u,Below w.heap.size w u→Calls Try.prog 45 #[.slice A m cap,lim a' b' c' d'] u (R3Q x2 y2 V2 u) from fun u hu=>(Read_any (HP.out.below hu) a' b' c' d' hd' (by show m≤900000;omega) (fun ad e=>Nat.lt_of_lt_of_le (hin ad e) hu.size)).mono fun e w' h=>hr2 u e w' h)
 have E2:y1=0→y2=0∧V2=V1:=fun h=>by
  obtain⟨p,k,hk⟩:=hy1 h
  exact hg2 _ _ _ (rdw_more (a':=max a' 0) (b':=max b' 0) (c':=max c' 0) (d':=max d' 0) (by omega) (by omega) (by omega) (by omega) (by omega) (by omega) hk)
 have SV:=Lib.hid ((sn_eq V1 V1).2 rfl)
 clear hr1 hr2 hy1 hy2 hg1 hg2 hz1 hz2 her1 her2 hL1 hL2 hsz hok g1 g2 hl9 MAIN hd hd' hV0 hin ga gb gc gd
 go_enter Try.func8,Try.ntmps8
 go_upto_region 3 with(first
  |(go_at_call 10;(refine(GR.out _ BU.out).mono ?_);rintro e w1 ⟨rfl,hb1⟩;have F1:=Lib.hid hb1;clear hb1)
  |(go_at_call 18;(refine(LGf.out _).mono ?_);rintro e w2 ⟨rfl,rfl⟩))
 apply region_cut0 (I:=fun w'=>Bl w' w1.heap.size 28 #[.int .i64 a',.int .i64 b',.int .i64 c',.int .i64 d']∧Below w1.heap.size w1 w')
 ·refine wp_region_held_drew (S:=fun x=>Below (w1).heap.size (w1) x) (by kernel_rfl) (below_drewN (Below.refl _ _) 1) (fun _=>?_)
  refine take_l 0 (v:=?_) rfl (by kernel_rfl) (by kernel_rfl) (by kernel_rfl) (fun _ _ _ h=>h) (Or.inl ⟨by rfl,?_⟩) (by first|exact below_drewN (Below.refl _ _) 1|exact below_drewN ((Below.refl _ w1).alloc (Nat.le_refl _) _) 1) ?_;rotate_left
  ·intro w' hSw
   clear hSw
   go_simp
   all_goals with_reducible rfl
  try simp only[Act.put,List.setIfInBounds_toArray,List.set_cons_zero,List.set_cons_succ]
  refine take_l 1 (v:=?_) rfl (by kernel_rfl) (by kernel_rfl) (by kernel_rfl) (fun _ _ _ h=>h) (Or.inl ⟨by rfl,?_⟩) (by first|exact below_drewN (Below.refl _ _) 1|exact below_drewN ((Below.refl _ w1).alloc (Nat.le_refl _) _) 1) ?_;rotate_left
  ·intro w' hSw
   have yy0:(w').cell? ⟨w.heap.size+1,0,none⟩=some (.int .i64 a):=((NL.out.below' F1.out).below' hSw).cell_ rfl
   have yy1:(w').cell? ⟨w.heap.size+1,1,none⟩=some (.int .i64 b):=((NL.out.below' F1.out).below' hSw).cell_ rfl
   have yy2:(w').cell? ⟨w.heap.size+1,2,none⟩=some (.int .i64 c):=((NL.out.below' F1.out).below' hSw).cell_ rfl
   have yy3:(w').cell? ⟨w.heap.size+1,3,none⟩=some (.int .i64 d):=((NL.out.below' F1.out).below' hSw).cell_ rfl
   clear hSw
   go_simp
   all_goals with_reducible rfl
  try simp only[Act.put,List.setIfInBounds_toArray,List.set_cons_zero,List.set_cons_succ]
  refine take_l 2 (v:=?_) rfl (by kernel_rfl) (by kernel_rfl) (by kernel_rfl) (fun _ _ _ h=>h) (Or.inl ⟨by rfl,?_⟩) (by first|exact below_drewN (Below.refl _ _) 1|exact below_drewN ((Below.refl _ w1).alloc (Nat.le_refl _) _) 1) ?_;rotate_left
  ·intro w' hSw
   clear hSw
   go_simp
   all_goals with_reducible rfl
  try simp only[Act.put,List.setIfInBounds_toArray,List.set_cons_zero,List.set_cons_succ]
  refine take_l 4 (v:=?_) rfl (by kernel_rfl) (by kernel_rfl) (by kernel_rfl) (fun _ _ _ h=>h) (Or.inl ⟨by rfl,?_⟩) (by first|exact below_drewN (Below.refl _ _) 1|exact below_drewN ((Below.refl _ w1).alloc (Nat.le_refl _) _) 1) ?_;rotate_left
  ·intro w' hSw
   clear hSw
   go_simp
   all_goals with_reducible rfl
  try simp only[Act.put,List.setIfInBounds_toArray,List.set_cons_zero,List.set_cons_succ]
  refine take_l 5 (v:=?_) rfl (by kernel_rfl) (by kernel_rfl) (by kernel_rfl) (fun _ _ _ h=>h) (Or.inl ⟨by rfl,?_⟩) (by first|exact below_drewN (Below.refl _ _) 1|exact below_drewN ((Below.refl _ w1).alloc (Nat.le_refl _) _) 1) ?_;rotate_left
  ·intro w' hSw
   have yy0:(w').cell? ⟨w.heap.size+1,0,none⟩=some (.int .i64 a):=((NL.out.below' F1.out).below' hSw).cell_ rfl
   have yy1:(w').cell? ⟨w.heap.size+1,1,none⟩=some (.int .i64 b):=((NL.out.below' F1.out).below' hSw).cell_ rfl
   have yy2:(w').cell? ⟨w.heap.size+1,2,none⟩=some (.int .i64 c):=((NL.out.below' F1.out).below' hSw).cell_ rfl
   have yy3:(w').cell? ⟨w.heap.size+1,3,none⟩=some (.int .i64 d):=((NL.out.below' F1.out).below' hSw).cell_ rfl
   clear hSw
   go_simp
   all_goals with_reducible rfl
  try simp only[Act.put,List.setIfInBounds_toArray,List.set_cons_zero,List.set_cons_succ]
  refine take_l 6 (v:=?_) rfl (by kernel_rfl) (by kernel_rfl) (by kernel_rfl) (fun _ _ _ h=>h) (Or.inl ⟨by rfl,?_⟩) (by first|exact below_drewN (Below.refl _ _) 1|exact below_drewN ((Below.refl _ w1).alloc (Nat.le_refl _) _) 1) ?_;rotate_left
  ·intro w' hSw
   clear hSw
   go_simp
   all_goals with_reducible rfl
  try simp only[Act.put,List.setIfInBounds_toArray,List.set_cons_zero,List.set_cons_succ]
  refine take_l 8 (v:=?_) rfl (by kernel_rfl) (by kernel_rfl) (by kernel_rfl) (fun _ _ _ h=>h) (Or.inl ⟨by rfl,?_⟩) (by first|exact below_drewN (Below.refl _ _) 1|exact below_drewN ((Below.refl _ w1).alloc (Nat.le_refl _) _) 1) ?_;rotate_left
  ·intro w' hSw
   clear hSw
   go_simp
   all_goals with_reducible rfl
  try simp only[Act.put,List.setIfInBounds_toArray,List.set_cons_zero,List.set_cons_succ]
  refine take_l 9 (v:=?_) rfl (by kernel_rfl) (by kernel_rfl) (by kernel_rfl) (fun _ _ _ h=>h) (Or.inl ⟨by rfl,?_⟩) (by first|exact below_drewN (Below.refl _ _) 1|exact below_drewN ((Below.refl _ w1).alloc (Nat.le_refl _) _) 1) ?_;rotate_left
  ·intro w' hSw
   have yy0:(w').cell? ⟨w.heap.size+1,0,none⟩=some (.int .i64 a):=((NL.out.below' F1.out).below' hSw).cell_ rfl
   have yy1:(w').cell? ⟨w.heap.size+1,1,none⟩=some (.int .i64 b):=((NL.out.below' F1.out).below' hSw).cell_ rfl
   have yy2:(w').cell? ⟨w.heap.size+1,2,none⟩=some (.int .i64 c):=((NL.out.below' F1.out).below' hSw).cell_ rfl
   have yy3:(w').cell? ⟨w.heap.size+1,3,none⟩=some (.int .i64 d):=((NL.out.below' F1.out).below' hSw).cell_ rfl
   clear hSw
   go_simp
   all_goals with_reducible rfl
  try simp only[Act.put,List.setIfInBounds_toArray,List.set_cons_zero,List.set_cons_succ]
  refine take_l 10 (v:=?_) rfl (by kernel_rfl) (by kernel_rfl) (by kernel_rfl) (fun _ _ _ h=>h) (Or.inl ⟨by rfl,?_⟩) (by first|exact below_drewN (Below.refl _ _) 1|exact below_drewN ((Below.refl _ w1).alloc (Nat.le_refl _) _) 1) ?_;rotate_left
  ·intro w' hSw
   clear hSw
   go_simp
   all_goals with_reducible rfl
  try simp only[Act.put,List.setIfInBounds_toArray,List.set_cons_zero,List.set_cons_succ]
  refine take_l 12 (v:=?_) rfl (by kernel_rfl) (by kernel_rfl) (by kernel_rfl) (fun _ _ _ h=>h) (Or.inl ⟨by rfl,?_⟩) (by first|exact below_drewN (Below.refl _ _) 1|exact below_drewN ((Below.refl _ w1).alloc (Nat.le_refl _) _) 1) ?_;rotate_left
  ·intro w' hSw
   clear hSw
   go_simp
   all_goals with_reducible rfl
  try simp only[Act.put,List.setIfInBounds_toArray,List.set_cons_zero,List.set_cons_succ]
  refine take_l 13 (v:=?_) rfl (by kernel_rfl) (by kernel_rfl) (by kernel_rfl) (fun _ _ _ h=>h) (Or.inl ⟨by rfl,?_⟩) (by first|exact below_drewN (Below.refl _ _) 1|exact below_drewN ((Below.refl _ w1).alloc (Nat.le_refl _) _) 1) ?_;rotate_left
  ·intro w' hSw
   have yy0:(w').cell? ⟨w.heap.size+1,0,none⟩=some (.int .i64 a):=((NL.out.below' F1.out).below' hSw).cell_ rfl
   have yy1:(w').cell? ⟨w.heap.size+1,1,none⟩=some (.int .i64 b):=((NL.out.below' F1.out).below' hSw).cell_ rfl
   have yy2:(w').cell? ⟨w.heap.size+1,2,none⟩=some (.int .i64 c):=((NL.out.below' F1.out).below' hSw).cell_ rfl
   have yy3:(w').cell? ⟨w.heap.size+1,3,none⟩=some (.int .i64 d):=((NL.out.below' F1.out).below' hSw).cell_ rfl
   clear hSw
   go_simp
   all_goals with_reducible rfl
  try simp only[Act.put,List.setIfInBounds_toArray,List.set_cons_zero,List.set_cons_succ]
  refine take_l 14 (v:=?_) rfl (by kernel_rfl) (by kernel_rfl) (by kernel_rfl) (fun _ _ _ h=>h) (Or.inl ⟨by rfl,?_⟩) (by first|exact below_drewN (Below.refl _ _) 1|exact below_drewN ((Below.refl _ w1).alloc (Nat.le_refl _) _) 1) ?_;rotate_left
  ·intro w' hSw
   clear hSw
   go_simp
   all_goals with_reducible rfl
  try simp only[Act.put,List.setIfInBounds_toArray,List.set_cons_zero,List.set_cons_succ]
  refine wpAnyH_ready (rs:=[3,17]) (by kernel_rfl) (by simp) ?_
  refine cons_l rfl (fun K0 hK=>?_) (cons_l rfl (fun K0 hK=>?_) AllReadyH.nil)
  ·go_simp
   (go_at_call 48;(refine(HM.out.1 _).mono ?_);rintro e wx ⟨rfl,rfl⟩)
   refine hK.out _ _ (by first|exact below_drewN (Below.refl _ _) 1|exact below_drewN ((Below.refl _ w1).alloc (Nat.le_refl _) _) 1) (fun _=>?_)
   clear hK K0
   try simp only[Act.put,List.setIfInBounds_toArray,List.set_cons_zero,List.set_cons_succ]
   refine wpAnyH_ready (rs:=[7,17]) (by kernel_rfl) (by simp) ?_
   refine cons_l rfl (fun K0 hK=>?_) (cons_l rfl (fun K0 hK=>?_) AllReadyH.nil)
   ·go_simp
    (go_at_call 48;(refine(HM.out.2.1 _).mono ?_);rintro e wx ⟨rfl,rfl⟩)
    refine hK.out _ _ (by first|exact below_drewN (Below.refl _ _) 1|exact below_drewN ((Below.refl _ w1).alloc (Nat.le_refl _) _) 1) (fun _=>?_)
    clear hK K0
    try simp only[Act.put,List.setIfInBounds_toArray,List.set_cons_zero,List.set_cons_succ]
    refine wpAnyH_ready (rs:=[11,17]) (by kernel_rfl) (by simp) ?_
    refine cons_l rfl (fun K0 hK=>?_) (cons_l rfl (fun K0 hK=>?_) AllReadyH.nil)
    ·go_simp
     (go_at_call 48;(refine(HM.out.2.2.1 _).mono ?_);rintro e wx ⟨rfl,rfl⟩)
     refine hK.out _ _ (by first|exact below_drewN (Below.refl _ _) 1|exact below_drewN ((Below.refl _ w1).alloc (Nat.le_refl _) _) 1) (fun _=>?_)
     clear hK K0
     try simp only[Act.put,List.setIfInBounds_toArray,List.set_cons_zero,List.set_cons_succ]
     refine wpAnyH_ready (rs:=[15,17]) (by kernel_rfl) (by simp) ?_
     refine cons_l rfl (fun K0 hK=>?_) (cons_l rfl (fun K0 hK=>?_) AllReadyH.nil)
     ·go_simp
      (go_at_call 48;(refine(HM.out.2.2.2 _).mono ?_);rintro e wx ⟨rfl,rfl⟩)
      refine hK.out _ _ (by first|exact below_drewN (Below.refl _ _) 1|exact below_drewN ((Below.refl _ w1).alloc (Nat.le_refl _) _) 1) (fun _=>?_)
      clear hK K0
      try simp only[Act.put,List.setIfInBounds_toArray,List.set_cons_zero,List.set_cons_succ]
      refine take_l 16 (v:=?_) rfl (by kernel_rfl) (by kernel_rfl) (by kernel_rfl) (fun _ _ _ h=>h) (Or.inl ⟨by rfl,?_⟩) (by first|exact below_drewN (Below.refl _ _) 1|exact below_drewN ((Below.refl _ w1).alloc (Nat.le_refl _) _) 1) ?_;rotate_left
      ·intro w' hSw
       clear hSw
       go_simp
       all_goals with_reducible rfl
      try simp only[Act.put,List.setIfInBounds_toArray,List.set_cons_zero,List.set_cons_succ]
      refine wpAnyH_ready (rs:=[17]) (by kernel_rfl) (by simp) ?_
      refine cons_l rfl (fun K0 hK=>?_) AllReadyH.nil
      go_simp
      refine hK.out _ _ (by first|exact below_drewN (Below.refl _ _) 1|exact below_drewN ((Below.refl _ w1).alloc (Nat.le_refl _) _) 1) (fun _=>?_)
      clear hK K0
      try simp only[Act.put,List.setIfInBounds_toArray,List.set_cons_zero,List.set_cons_succ]
      refine wpAnyH_ready (rs:=[18]) (by kernel_rfl) (by simp) ?_
      refine cons_l rfl (fun K0 hK=>?_) AllReadyH.nil
      go_simp
      refine hK.out _ _ (by first|exact below_drewN (Below.refl _ _) 1|exact below_drewN ((Below.refl _ w1).alloc (Nat.le_refl _) _) 1) (fun _=>?_)
      clear hK K0
      try simp only[Act.put,List.setIfInBounds_toArray,List.set_cons_zero,List.set_cons_succ]
      refine wpAnyH_done (by kernel_rfl) ?_ _
      refine⟨rfl,?_,by first|exact below_drewN (Below.refl _ _) 1|exact below_drewN ((Below.refl _ w1).alloc (Nat.le_refl _) _) 1⟩
      exact Bl.new_ w1 _ _
     ·go_simp
      refine hK.out _ _ (by first|exact below_drewN (Below.refl _ _) 1|exact below_drewN ((Below.refl _ w1).alloc (Nat.le_refl _) _) 1) (fun _=>?_)
      clear hK K0
      try simp only[Act.put,List.setIfInBounds_toArray,List.set_cons_zero,List.set_cons_succ]
      refine wpAnyH_ready (rs:=[15]) (by kernel_rfl) (by simp) ?_
      refine cons_l rfl (fun K0 hK=>?_) AllReadyH.nil
      go_simp
      (go_at_call 48;(refine(HM.out.2.2.2 _).mono ?_);rintro e wx ⟨rfl,rfl⟩)
      refine hK.out _ _ (by first|exact below_drewN (Below.refl _ _) 1|exact below_drewN ((Below.refl _ w1).alloc (Nat.le_refl _) _) 1) (fun _=>?_)
      clear hK K0
      try simp only[Act.put,List.setIfInBounds_toArray,List.set_cons_zero,List.set_cons_succ]
      refine take_l 16 (v:=?_) rfl (by kernel_rfl) (by kernel_rfl) (by kernel_rfl) (fun _ _ _ h=>h) (Or.inl ⟨by rfl,?_⟩) (by first|exact below_drewN (Below.refl _ _) 1|exact below_drewN ((Below.refl _ w1).alloc (Nat.le_refl _) _) 1) ?_;rotate_left
      ·intro w' hSw
       clear hSw
       go_simp
       all_goals with_reducible rfl
      try simp only[Act.put,List.setIfInBounds_toArray,List.set_cons_zero,List.set_cons_succ]
      refine wpAnyH_ready (rs:=[18]) (by kernel_rfl) (by simp) ?_
      refine cons_l rfl (fun K0 hK=>?_) AllReadyH.nil
      go_simp
      refine hK.out _ _ (by first|exact below_drewN (Below.refl _ _) 1|exact below_drewN ((Below.refl _ w1).alloc (Nat.le_refl _) _) 1) (fun _=>?_)
      clear hK K0
      try simp only[Act.put,List.setIfInBounds_toArray,List.set_cons_zero,List.set_cons_succ]
      refine wpAnyH_done (by kernel_rfl) ?_ _
      refine⟨rfl,?_,by first|exact below_drewN (Below.refl _ _) 1|exact below_drewN ((Below.refl _ w1).alloc (Nat.le_refl _) _) 1⟩
      exact Bl.new_ w1 _ _
    ·go_simp
     refine hK.out _ _ (by first|exact below_drewN (Below.refl _ _) 1|exact below_drewN ((Below.refl _ w1).alloc (Nat.le_refl _) _) 1) (fun _=>?_)
     clear hK K0
     try simp only[Act.put,List.setIfInBounds_toArray,List.set_cons_zero,List.set_cons_succ]
     refine wpAnyH_ready (rs:=[11]) (by kernel_rfl) (by simp) ?_
     refine cons_l rfl (fun K0 hK=>?_) AllReadyH.nil
     go_simp
     (go_at_call 48;(refine(HM.out.2.2.1 _).mono ?_);rintro e wx ⟨rfl,rfl⟩)
     refine hK.out _ _ (by first|exact below_drewN (Below.refl _ _) 1|exact below_drewN ((Below.refl _ w1).alloc (Nat.le_refl _) _) 1) (fun _=>?_)
     clear hK K0
     try simp only[Act.put,List.setIfInBounds_toArray,List.set_cons_zero,List.set_cons_succ]
     refine wpAnyH_ready (rs:=[15]) (by kernel_rfl) (by simp) ?_
     refine cons_l rfl (fun K0 hK=>?_) AllReadyH.nil
     go_simp
     (go_at_call 48;(refine(HM.out.2.2.2 _).mono ?_);rintro e wx ⟨rfl,rfl⟩)
     refine hK.out _ _ (by first|exact below_drewN (Below.refl _ _) 1|exact below_drewN ((Below.refl _ w1).alloc (Nat.le_refl _) _) 1) (fun _=>?_)
     clear hK K0
     try simp only[Act.put,List.setIfInBounds_toArray,List.set_cons_zero,List.set_cons_succ]
     refine take_l 16 (v:=?_) rfl (by kernel_rfl) (by kernel_rfl) (by kernel_rfl) (fun _ _ _ h=>h) (Or.inl ⟨by rfl,?_⟩) (by first|exact below_drewN (Below.refl _ _) 1|exact below_drewN ((Below.refl _ w1).alloc (Nat.le_refl _) _) 1) ?_;rotate_left
     ·intro w' hSw
      clear hSw
      go_simp
      all_goals with_reducible rfl
     try simp only[Act.put,List.setIfInBounds_toArray,List.set_cons_zero,List.set_cons_succ]
     refine wpAnyH_ready (rs:=[18]) (by kernel_rfl) (by simp) ?_
     refine cons_l rfl (fun K0 hK=>?_) AllReadyH.nil
     go_simp
     refine hK.out _ _ (by first|exact below_drewN (Below.refl _ _) 1|exact below_drewN ((Below.refl _ w1).alloc (Nat.le_refl _) _) 1) (fun _=>?_)
     clear hK K0
     try simp only[Act.put,List.setIfInBounds_toArray,List.set_cons_zero,List.set_cons_succ]
     refine wpAnyH_done (by kernel_rfl) ?_ _
     refine⟨rfl,?_,by first|exact below_drewN (Below.refl _ _) 1|exact below_drewN ((Below.refl _ w1).alloc (Nat.le_refl _) _) 1⟩
     exact Bl.new_ w1 _ _
   ·go_simp
    refine hK.out _ _ (by first|exact below_drewN (Below.refl _ _) 1|exact below_drewN ((Below.refl _ w1).alloc (Nat.le_refl _) _) 1) (fun _=>?_)
    clear hK K0
    try simp only[Act.put,List.setIfInBounds_toArray,List.set_cons_zero,List.set_cons_succ]
    refine wpAnyH_ready (rs:=[7]) (by kernel_rfl) (by simp) ?_
    refine cons_l rfl (fun K0 hK=>?_) AllReadyH.nil
    go_simp
    (go_at_call 48;(refine(HM.out.2.1 _).mono ?_);rintro e wx ⟨rfl,rfl⟩)
    refine hK.out _ _ (by first|exact below_drewN (Below.refl _ _) 1|exact below_drewN ((Below.refl _ w1).alloc (Nat.le_refl _) _) 1) (fun _=>?_)
    clear hK K0
    try simp only[Act.put,List.setIfInBounds_toArray,List.set_cons_zero,List.set_cons_succ]
    refine wpAnyH_ready (rs:=[11]) (by kernel_rfl) (by simp) ?_
    refine cons_l rfl (fun K0 hK=>?_) AllReadyH.nil
    go_simp
    (go_at_call 48;(refine(HM.out.2.2.1 _).mono ?_);rintro e wx ⟨rfl,rfl⟩)
    refine hK.out _ _ (by first|exact below_drewN (Below.refl _ _) 1|exact below_drewN ((Below.refl _ w1).alloc (Nat.le_refl _) _) 1) (fun _=>?_)
    clear hK K0
    try simp only[Act.put,List.setIfInBounds_toArray,List.set_cons_zero,List.set_cons_succ]
    refine wpAnyH_ready (rs:=[15]) (by kernel_rfl) (by simp) ?_
    refine cons_l rfl (fun K0 hK=>?_) AllReadyH.nil
    go_simp
    (go_at_call 48;(refine(HM.out.2.2.2 _).mono ?_);rintro e wx ⟨rfl,rfl⟩)
    refine hK.out _ _ (by first|exact below_drewN (Below.refl _ _) 1|exact below_drewN ((Below.refl _ w1).alloc (Nat.le_refl _) _) 1) (fun _=>?_)
    clear hK K0
    try simp only[Act.put,List.setIfInBounds_toArray,List.set_cons_zero,List.set_cons_succ]
    refine take_l 16 (v:=?_) rfl (by kernel_rfl) (by kernel_rfl) (by kernel_rfl) (fun _ _ _ h=>h) (Or.inl ⟨by rfl,?_⟩) (by first|exact below_drewN (Below.refl _ _) 1|exact below_drewN ((Below.refl _ w1).alloc (Nat.le_refl _) _) 1) ?_;rotate_left
    ·intro w' hSw
     clear hSw
     go_simp
     all_goals with_reducible rfl
    try simp only[Act.put,List.setIfInBounds_toArray,List.set_cons_zero,List.set_cons_succ]
    refine wpAnyH_ready (rs:=[18]) (by kernel_rfl) (by simp) ?_
    refine cons_l rfl (fun K0 hK=>?_) AllReadyH.nil
    go_simp
    refine hK.out _ _ (by first|exact below_drewN (Below.refl _ _) 1|exact below_drewN ((Below.refl _ w1).alloc (Nat.le_refl _) _) 1) (fun _=>?_)
    clear hK K0
    try simp only[Act.put,List.setIfInBounds_toArray,List.set_cons_zero,List.set_cons_succ]
    refine wpAnyH_done (by kernel_rfl) ?_ _
    refine⟨rfl,?_,by first|exact below_drewN (Below.refl _ _) 1|exact below_drewN ((Below.refl _ w1).alloc (Nat.le_refl _) _) 1⟩
    exact Bl.new_ w1 _ _
  ·go_simp
   refine hK.out _ _ (by first|exact below_drewN (Below.refl _ _) 1|exact below_drewN ((Below.refl _ w1).alloc (Nat.le_refl _) _) 1) (fun _=>?_)
   clear hK K0
   try simp only[Act.put,List.setIfInBounds_toArray,List.set_cons_zero,List.set_cons_succ]
   refine wpAnyH_ready (rs:=[3]) (by kernel_rfl) (by simp) ?_
   refine cons_l rfl (fun K0 hK=>?_) AllReadyH.nil
   go_simp
   (go_at_call 48;(refine(HM.out.1 _).mono ?_);rintro e wx ⟨rfl,rfl⟩)
   refine hK.out _ _ (by first|exact below_drewN (Below.refl _ _) 1|exact below_drewN ((Below.refl _ w1).alloc (Nat.le_refl _) _) 1) (fun _=>?_)
   clear hK K0
   try simp only[Act.put,List.setIfInBounds_toArray,List.set_cons_zero,List.set_cons_succ]
   refine wpAnyH_ready (rs:=[7]) (by kernel_rfl) (by simp) ?_
   refine cons_l rfl (fun K0 hK=>?_) AllReadyH.nil
   go_simp
   (go_at_call 48;(refine(HM.out.2.1 _).mono ?_);rintro e wx ⟨rfl,rfl⟩)
   refine hK.out _ _ (by first|exact below_drewN (Below.refl _ _) 1|exact below_drewN ((Below.refl _ w1).alloc (Nat.le_refl _) _) 1) (fun _=>?_)
   clear hK K0
   try simp only[Act.put,List.setIfInBounds_toArray,List.set_cons_zero,List.set_cons_succ]
   refine wpAnyH_ready (rs:=[11]) (by kernel_rfl) (by simp) ?_
   refine cons_l rfl (fun K0 hK=>?_) AllReadyH.nil
   go_simp
   (go_at_call 48;(refine(HM.out.2.2.1 _).mono ?_);rintro e wx ⟨rfl,rfl⟩)
   refine hK.out _ _ (by first|exact below_drewN (Below.refl _ _) 1|exact below_drewN ((Below.refl _ w1).alloc (Nat.le_refl _) _) 1) (fun _=>?_)
   clear hK K0
   try simp only[Act.put,List.setIfInBounds_toArray,List.set_cons_zero,List.set_cons_succ]
   refine wpAnyH_ready (rs:=[15]) (by kernel_rfl) (by simp) ?_
   refine cons_l rfl (fun K0 hK=>?_) AllReadyH.nil
   go_simp
   (go_at_call 48;(refine(HM.out.2.2.2 _).mono ?_);rintro e wx ⟨rfl,rfl⟩)
   refine hK.out _ _ (by first|exact below_drewN (Below.refl _ _) 1|exact below_drewN ((Below.refl _ w1).alloc (Nat.le_refl _) _) 1) (fun _=>?_)
   clear hK K0
   try simp only[Act.put,List.setIfInBounds_toArray,List.set_cons_zero,List.set_cons_succ]
   refine take_l 16 (v:=?_) rfl (by kernel_rfl) (by kernel_rfl) (by kernel_rfl) (fun _ _ _ h=>h) (Or.inl ⟨by rfl,?_⟩) (by first|exact below_drewN (Below.refl _ _) 1|exact below_drewN ((Below.refl _ w1).alloc (Nat.le_refl _) _) 1) ?_;rotate_left
   ·intro w' hSw
    clear hSw
    go_simp
    all_goals with_reducible rfl
   try simp only[Act.put,List.setIfInBounds_toArray,List.set_cons_zero,List.set_cons_succ]
   refine wpAnyH_ready (rs:=[18]) (by kernel_rfl) (by simp) ?_
   refine cons_l rfl (fun K0 hK=>?_) AllReadyH.nil
   go_simp
   refine hK.out _ _ (by first|exact below_drewN (Below.refl _ _) 1|exact below_drewN ((Below.refl _ w1).alloc (Nat.le_refl _) _) 1) (fun _=>?_)
   clear hK K0
   try simp only[Act.put,List.setIfInBounds_toArray,List.set_cons_zero,List.set_cons_succ]
   refine wpAnyH_done (by kernel_rfl) ?_ _
   refine⟨rfl,?_,by first|exact below_drewN (Below.refl _ _) 1|exact below_drewN ((Below.refl _ w1).alloc (Nat.le_refl _) _) 1⟩
   exact Bl.new_ w1 _ _
 rintro u3 ⟨hm3,hb3⟩
 have NM:=Lib.hid hm3
 have F3:=Lib.hid (show Below U.heap.size U u3 from F1.out.trans (hb3.mono F1.out.size))
 have qU:U.heap.size≤w1.heap.size:=F1.out.size
 obtain⟨qm,hqm⟩:∃qm,w1.heap.size=qm:=⟨_,rfl⟩
 rw[hqm] at NM ⊢
 clear hm3 hb3 hqm HM qU
 go_upto_region 4 with(first
  |(fail))
 refine wp_region_held_drew (S:=fun x=>Below (u3).heap.size (u3) x) (by kernel_rfl) (below_drewN (Below.refl _ _) 1) (fun _=>?_)
 refine take_l 0 (v:=?_) rfl (by kernel_rfl) (by kernel_rfl) (by kernel_rfl) (fun _ _ _ h=>h) (Or.inl ⟨by rfl,?_⟩) (by first|exact BS.out|exact below_drewN (Below.refl _ _) 1) ?_;rotate_left
 ·intro w' hSw
  have zz0:(w').cell? ⟨w.heap.size,0,none⟩=some (.int .i64 K0):=((NV.out.below' F3.out).below' hSw).cell_ rfl
  have zz1:(w').cell? ⟨w.heap.size,1,none⟩=some (.int .u64 (N0:Int)):=((NV.out.below' F3.out).below' hSw).cell_ rfl
  have zz2:(w').cell? ⟨w.heap.size,2,none⟩=some (.slice r0.1 r0.2.1 r0.2.2.1):=((NV.out.below' F3.out).below' hSw).cell_ rfl
  have zz3:(w').cell? ⟨w.heap.size,3,none⟩=some (.slice B0 v0.length c0):=((NV.out.below' F3.out).below' hSw).cell_ rfl
  have yy0:(w').cell? ⟨w.heap.size+1,0,none⟩=some (.int .i64 a):=((NL.out.below' F3.out).below' hSw).cell_ rfl
  have yy1:(w').cell? ⟨w.heap.size+1,1,none⟩=some (.int .i64 b):=((NL.out.below' F3.out).below' hSw).cell_ rfl
  have yy2:(w').cell? ⟨w.heap.size+1,2,none⟩=some (.int .i64 c):=((NL.out.below' F3.out).below' hSw).cell_ rfl
  have yy3:(w').cell? ⟨w.heap.size+1,3,none⟩=some (.int .i64 d):=((NL.out.below' F3.out).below' hSw).cell_ rfl
  clear hSw
  go_simp
  all_goals with_reducible rfl
 try simp only[Act.put,List.setIfInBounds_toArray,List.set_cons_zero,List.set_cons_succ]
 refine take_l 1 (v:=?_) rfl (by kernel_rfl) (by kernel_rfl) (by kernel_rfl) (fun _ _ _ h=>h) (Or.inl ⟨by rfl,?_⟩) (by first|exact BS.out|exact below_drewN (Below.refl _ _) 1) ?_;rotate_left
 ·intro w' hSw
  have zz0:(w').cell? ⟨w.heap.size,0,none⟩=some (.int .i64 K0):=((NV.out.below' F3.out).below' hSw).cell_ rfl
  have zz1:(w').cell? ⟨w.heap.size,1,none⟩=some (.int .u64 (N0:Int)):=((NV.out.below' F3.out).below' hSw).cell_ rfl
  have zz2:(w').cell? ⟨w.heap.size,2,none⟩=some (.slice r0.1 r0.2.1 r0.2.2.1):=((NV.out.below' F3.out).below' hSw).cell_ rfl
  have zz3:(w').cell? ⟨w.heap.size,3,none⟩=some (.slice B0 v0.length c0):=((NV.out.below' F3.out).below' hSw).cell_ rfl
  have yy0:(w').cell? ⟨w.heap.size+1,0,none⟩=some (.int .i64 a):=((NL.out.below' F3.out).below' hSw).cell_ rfl
  have yy1:(w').cell? ⟨w.heap.size+1,1,none⟩=some (.int .i64 b):=((NL.out.below' F3.out).below' hSw).cell_ rfl
  have yy2:(w').cell? ⟨w.heap.size+1,2,none⟩=some (.int .i64 c):=((NL.out.below' F3.out).below' hSw).cell_ rfl
  have yy3:(w').cell? ⟨w.heap.size+1,3,none⟩=some (.int .i64 d):=((NL.out.below' F3.out).below' hSw).cell_ rfl
  clear hSw
  go_simp
  all_goals with_reducible rfl
 try simp only[Act.put,List.setIfInBounds_toArray,List.set_cons_zero,List.set_cons_succ]
 refine wpAnyH_ready (rs:=[2]) (by kernel_rfl) (by simp) ?_
 refine cons_l rfl (fun K0 hK=>?_) AllReadyH.nil
 go_simp
 (go_at_call 13;(refine(OW.out _).mono ?_);rintro e w4a ⟨rfl,hba⟩)
 have BS:=Lib.hid (show Below (u3).heap.size (u3) w4a from(below_drewN (Below.refl _ _) 1).trans (hba.mono (Nat.le_refl _)))
 clear hba
 refine hK.out _ _ (by first|exact BS.out|exact below_drewN (Below.refl _ _) 1) (fun _=>?_)
 clear hK K0
 try simp only[Act.put,List.setIfInBounds_toArray,List.set_cons_zero,List.set_cons_succ]
 refine wpAnyH_ready (rs:=[3]) (by kernel_rfl) (by simp) ?_
 refine cons_l rfl (fun K0 hK=>?_) AllReadyH.nil
 go_simp
 (go_at_call 12;(refine(CW1.out _ (BU.out.trans ((F3.out.trans (BS.out.mono F3.out.size)).mono BU.out.size))).mono ?_);rintro e w4 ⟨hbb,Aw4,cw4,rfl,hpb,hib⟩)
 have BS':=Lib.hid (show Below (u3).heap.size (u3) w4 from BS.out.trans (hbb.mono BS.out.size))
 have BS:=Lib.hid BS'.out
 have Pw4:=Lib.hid hpb
 clear hbb hpb hib
 refine hK.out _ _ (by first|exact BS.out|exact below_drewN (Below.refl _ _) 1) (fun _=>?_)
 clear hK K0
 try simp only[Act.put,List.setIfInBounds_toArray,List.set_cons_zero,List.set_cons_succ]
 refine take_l 4 (v:=?_) rfl (by kernel_rfl) (by kernel_rfl) (by kernel_rfl) (fun _ _ _ h=>h) (Or.inl ⟨by rfl,?_⟩) (by first|exact BS.out|exact below_drewN (Below.refl _ _) 1) ?_;rotate_left
 ·intro w' hSw
  clear hSw
  go_simp
  all_goals with_reducible rfl
 try simp only[Act.put,List.setIfInBounds_toArray,List.set_cons_zero,List.set_cons_succ]
 refine take_l 5 (v:=?_) rfl (by kernel_rfl) (by kernel_rfl) (by kernel_rfl) (fun _ _ _ h=>h) (Or.inl ⟨by rfl,?_⟩) (by first|exact BS.out|exact below_drewN (Below.refl _ _) 1) ?_;rotate_left
 ·intro w' hSw
  clear hSw
  go_simp
  all_goals with_reducible rfl
 try simp only[Act.put,List.setIfInBounds_toArray,List.set_cons_zero,List.set_cons_succ]
 refine take_l 6 (v:=?_) rfl (by kernel_rfl) (by kernel_rfl) (by kernel_rfl) (fun _ _ _ h=>h) (Or.inl ⟨by rfl,?_⟩) (by first|exact BS.out|exact below_drewN (Below.refl _ _) 1) ?_;rotate_left
 ·intro w' hSw
  clear hSw
  go_simp
  all_goals with_reducible rfl
 try simp only[Act.put,List.setIfInBounds_toArray,List.set_cons_zero,List.set_cons_succ]
 refine take_l 7 (v:=?_) rfl (by kernel_rfl) (by kernel_rfl) (by kernel_rfl) (fun _ _ _ h=>h) (Or.inl ⟨by rfl,?_⟩) (by first|exact BS.out|exact below_drewN (Below.refl _ _) 1) ?_;rotate_left
 ·intro w' hSw
  clear hSw
  go_simp
  all_goals with_reducible rfl
 try simp only[Act.put,List.setIfInBounds_toArray,List.set_cons_zero,List.set_cons_succ]
 refine take_l 8 (v:=?_) rfl (by kernel_rfl) (by kernel_rfl) (by kernel_rfl) (fun _ _ _ h=>h) (Or.inl ⟨by rfl,?_⟩) (by first|exact BS.out|exact below_drewN (Below.refl _ _) 1) ?_;rotate_left
 ·intro w' hSw
  clear hSw
  go_simp
  all_goals with_reducible rfl
 try simp only[Act.put,List.setIfInBounds_toArray,List.set_cons_zero,List.set_cons_succ]
 refine wpAnyH_done (by kernel_rfl) ?_ _
 have F4:=Lib.hid (show Below U.heap.size U w4 from F3.out.trans (BS.out.mono F3.out.size))
 have NM4:=Lib.hid (NM.out.below' BS.out)
 go_upto_region 5 with(first
  |(fail))
 refine wp_region_held_drew (S:=fun x=>Below (w4).heap.size (w4) x) (by kernel_rfl) (below_drewN (Below.refl _ _) 1) (fun _=>?_)
 refine take_l 0 (v:=?_) rfl (by kernel_rfl) (by kernel_rfl) (by kernel_rfl) (fun _ _ _ h=>h) (Or.inl ⟨by rfl,?_⟩) (by first|exact BT.out|exact below_drewN (Below.refl _ _) 1) ?_;rotate_left
 ·intro w' hSw
  have zz0:(w').cell? ⟨w.heap.size,0,none⟩=some (.int .i64 K0):=((NV.out.below' F4.out).below' hSw).cell_ rfl
  have zz1:(w').cell? ⟨w.heap.size,1,none⟩=some (.int .u64 (N0:Int)):=((NV.out.below' F4.out).below' hSw).cell_ rfl
  have zz2:(w').cell? ⟨w.heap.size,2,none⟩=some (.slice r0.1 r0.2.1 r0.2.2.1):=((NV.out.below' F4.out).below' hSw).cell_ rfl
  have zz3:(w').cell? ⟨w.heap.size,3,none⟩=some (.slice B0 v0.length c0):=((NV.out.below' F4.out).below' hSw).cell_ rfl
  have yy0:(w').cell? ⟨qm,0,none⟩=some (.int .i64 a'):=((NM4.out).below' hSw).cell_ rfl
  have yy1:(w').cell? ⟨qm,1,none⟩=some (.int .i64 b'):=((NM4.out).below' hSw).cell_ rfl
  have yy2:(w').cell? ⟨qm,2,none⟩=some (.int .i64 c'):=((NM4.out).below' hSw).cell_ rfl
  have yy3:(w').cell? ⟨qm,3,none⟩=some (.int .i64 d'):=((NM4.out).below' hSw).cell_ rfl
  clear hSw
  go_simp
  all_goals with_reducible rfl
 try simp only[Act.put,List.setIfInBounds_toArray,List.set_cons_zero,List.set_cons_succ]
 refine take_l 1 (v:=?_) rfl (by kernel_rfl) (by kernel_rfl) (by kernel_rfl) (fun _ _ _ h=>h) (Or.inl ⟨by rfl,?_⟩) (by first|exact BT.out|exact below_drewN (Below.refl _ _) 1) ?_;rotate_left
 ·intro w' hSw
  have zz0:(w').cell? ⟨w.heap.size,0,none⟩=some (.int .i64 K0):=((NV.out.below' F4.out).below' hSw).cell_ rfl
  have zz1:(w').cell? ⟨w.heap.size,1,none⟩=some (.int .u64 (N0:Int)):=((NV.out.below' F4.out).below' hSw).cell_ rfl
  have zz2:(w').cell? ⟨w.heap.size,2,none⟩=some (.slice r0.1 r0.2.1 r0.2.2.1):=((NV.out.below' F4.out).below' hSw).cell_ rfl
  have zz3:(w').cell? ⟨w.heap.size,3,none⟩=some (.slice B0 v0.length c0):=((NV.out.below' F4.out).below' hSw).cell_ rfl
  have yy0:(w').cell? ⟨qm,0,none⟩=some (.int .i64 a'):=((NM4.out).below' hSw).cell_ rfl
  have yy1:(w').cell? ⟨qm,1,none⟩=some (.int .i64 b'):=((NM4.out).below' hSw).cell_ rfl
  have yy2:(w').cell? ⟨qm,2,none⟩=some (.int .i64 c'):=((NM4.out).below' hSw).cell_ rfl
  have yy3:(w').cell? ⟨qm,3,none⟩=some (.int .i64 d'):=((NM4.out).below' hSw).cell_ rfl
  clear hSw
  go_simp
  all_goals with_reducible rfl
 try simp only[Act.put,List.setIfInBounds_toArray,List.set_cons_zero,List.set_cons_succ]
 refine wpAnyH_ready (rs:=[2]) (by kernel_rfl) (by simp) ?_
 refine cons_l rfl (fun K0 hK=>?_) AllReadyH.nil
 go_simp
 (go_at_call 13;(refine(OM.out _).mono ?_);rintro e w5a ⟨rfl,hba⟩)
 have BT:=Lib.hid (show Below (w4).heap.size (w4) w5a from(below_drewN (Below.refl _ _) 1).trans (hba.mono (Nat.le_refl _)))
 clear hba
 refine hK.out _ _ (by first|exact BT.out|exact below_drewN (Below.refl _ _) 1) (fun _=>?_)
 clear hK K0
 try simp only[Act.put,List.setIfInBounds_toArray,List.set_cons_zero,List.set_cons_succ]
 refine wpAnyH_ready (rs:=[3]) (by kernel_rfl) (by simp) ?_
 refine cons_l rfl (fun K0 hK=>?_) AllReadyH.nil
 go_simp
 (go_at_call 12;(refine(CW2.out _ (BU.out.trans ((F4.out.trans (BT.out.mono F4.out.size)).mono BU.out.size))).mono ?_);rintro e w5 ⟨hbb,Aw5,cw5,rfl,hpb,hib⟩)
 have BT':=Lib.hid (show Below (w4).heap.size (w4) w5 from BT.out.trans (hbb.mono BT.out.size))
 have BT:=Lib.hid BT'.out
 have Pw5:=Lib.hid hpb
 clear hbb hpb hib
 refine hK.out _ _ (by first|exact BT.out|exact below_drewN (Below.refl _ _) 1) (fun _=>?_)
 clear hK K0
 try simp only[Act.put,List.setIfInBounds_toArray,List.set_cons_zero,List.set_cons_succ]
 refine take_l 4 (v:=?_) rfl (by kernel_rfl) (by kernel_rfl) (by kernel_rfl) (fun _ _ _ h=>h) (Or.inl ⟨by rfl,?_⟩) (by first|exact BT.out|exact below_drewN (Below.refl _ _) 1) ?_;rotate_left
 ·intro w' hSw
  clear hSw
  go_simp
  all_goals with_reducible rfl
 try simp only[Act.put,List.setIfInBounds_toArray,List.set_cons_zero,List.set_cons_succ]
 refine take_l 5 (v:=?_) rfl (by kernel_rfl) (by kernel_rfl) (by kernel_rfl) (fun _ _ _ h=>h) (Or.inl ⟨by rfl,?_⟩) (by first|exact BT.out|exact below_drewN (Below.refl _ _) 1) ?_;rotate_left
 ·intro w' hSw
  clear hSw
  go_simp
  all_goals with_reducible rfl
 try simp only[Act.put,List.setIfInBounds_toArray,List.set_cons_zero,List.set_cons_succ]
 refine take_l 6 (v:=?_) rfl (by kernel_rfl) (by kernel_rfl) (by kernel_rfl) (fun _ _ _ h=>h) (Or.inl ⟨by rfl,?_⟩) (by first|exact BT.out|exact below_drewN (Below.refl _ _) 1) ?_;rotate_left
 ·intro w' hSw
  clear hSw
  go_simp
  all_goals with_reducible rfl
 try simp only[Act.put,List.setIfInBounds_toArray,List.set_cons_zero,List.set_cons_succ]
 refine take_l 7 (v:=?_) rfl (by kernel_rfl) (by kernel_rfl) (by kernel_rfl) (fun _ _ _ h=>h) (Or.inl ⟨by rfl,?_⟩) (by first|exact BT.out|exact below_drewN (Below.refl _ _) 1) ?_;rotate_left
 ·intro w' hSw
  clear hSw
  go_simp
  all_goals with_reducible rfl
 try simp only[Act.put,List.setIfInBounds_toArray,List.set_cons_zero,List.set_cons_succ]
 refine take_l 8 (v:=?_) rfl (by kernel_rfl) (by kernel_rfl) (by kernel_rfl) (fun _ _ _ h=>h) (Or.inl ⟨by rfl,?_⟩) (by first|exact BT.out|exact below_drewN (Below.refl _ _) 1) ?_;rotate_left
 ·intro w' hSw
  clear hSw
  go_simp
  all_goals with_reducible rfl
 try simp only[Act.put,List.setIfInBounds_toArray,List.set_cons_zero,List.set_cons_succ]
 refine wpAnyH_done (by kernel_rfl) ?_ _
 have F5:=Lib.hid (show Below U.heap.size U w5 from F4.out.trans (BT.out.mono F4.out.size))
 have NM5:=Lib.hid (NM4.out.below' BT.out)
 by_cases h1:er1=0
 ·obtain⟨rfl,rfl⟩:=E1 h1
  subst h1
  clear E1
  have CS2:=Lib.hid (samebytes_any Aw4 Aw5 L1.length L1.length cw4 cw5 L1 L1 w5 Pw4.out.lt Pw4.out.lt (Pw4.out.below BT.out).row Pw5.out.row)
  rw[beq_self_eq_true] at CS2
  have yy0:(w5).cell? ⟨w.heap.size+1,0,none⟩=some (.int .i64 a):=(NL.out.below' F5.out).cell_ rfl
  have yy1:(w5).cell? ⟨w.heap.size+1,1,none⟩=some (.int .i64 b):=(NL.out.below' F5.out).cell_ rfl
  have yy2:(w5).cell? ⟨w.heap.size+1,2,none⟩=some (.int .i64 c):=(NL.out.below' F5.out).cell_ rfl
  have yy3:(w5).cell? ⟨w.heap.size+1,3,none⟩=some (.int .i64 d):=(NL.out.below' F5.out).cell_ rfl
  go_upto_region 8 with(first
   |(go_at_call 17;(refine CS2.out.mono ?_);rintro e w6 ⟨rfl,rfl⟩))
  go_upto_region 9 with(first
   |(go_at_call 13;(refine(OW.out _).mono ?_);rintro e w8 ⟨rfl,hb8⟩;have F8:=Lib.hid (F5.out.trans (hb8.mono F5.out.size));have NM8:=Lib.hid (NM5.out.below' hb8);clear hb8)
   |(go_at_call 45;(refine(CR1.out _ (BU.out.trans (F8.out.mono BU.out.size))).mono ?_);rintro e w9 ⟨hb9,t9,rfl,hn9,ho9⟩;obtain⟨K6,N6,r6,B6_,c6,v6⟩:=t9;simp only[Tv.val,Tv.row];have B9:=Lib.hid hb9;have O9:=Lib.hid ho9;have D9:=Lib.hid hn9;clear hb9 ho9 hn9))
  have X9:=Lib.hid (below_one w9 (.cells #[.int .i64 K6,.int .u64 (N6:Int),.slice r6.1 r6.2.1 r6.2.2.1,.slice B6_ v6.length c6] 26))
  have G9:=Lib.hid (show Below w8.heap.size w8 (w9.alloc (.cells #[.int .i64 K6,.int .u64 (N6:Int),.slice r6.1 r6.2.1 r6.2.2.1,.slice B6_ v6.length c6] 26)) from B9.out.trans (X9.out.mono B9.out.size))
  have F9:=Lib.hid (show Below U.heap.size U (w9.alloc (.cells #[.int .i64 K6,.int .u64 (N6:Int),.slice r6.1 r6.2.1 r6.2.2.1,.slice B6_ v6.length c6] 26)) from F8.out.trans (G9.out.mono F8.out.size))
  have NP:=Lib.hid (Bl.new_ w9 26 #[.int .i64 K6,.int .u64 (N6:Int),.slice r6.1 r6.2.1 r6.2.2.1,.slice B6_ v6.length c6])
  have OP:=Lib.hid (O9.out.keep X9.out)
  have NM9:=Lib.hid (NM8.out.below' G9.out)
  obtain⟨q9,hq9⟩:∃q9,w9.heap.size=q9:=⟨_,rfl⟩
  rw[hq9] at NP ⊢
  clear X9 G9
  generalize(w9.alloc (.cells #[.int .i64 K6,.int .u64 (N6:Int),.slice r6.1 r6.2.1 r6.2.2.1,.slice B6_ v6.length c6] 26))=u9 at *
  clear hq9
  have zz0:(u9).cell? ⟨qm,0,none⟩=some (.int .i64 a'):=(NM9.out).cell_ rfl
  have zz1:(u9).cell? ⟨qm,1,none⟩=some (.int .i64 b'):=(NM9.out).cell_ rfl
  have zz2:(u9).cell? ⟨qm,2,none⟩=some (.int .i64 c'):=(NM9.out).cell_ rfl
  have zz3:(u9).cell? ⟨qm,3,none⟩=some (.int .i64 d'):=(NM9.out).cell_ rfl
  go_upto_region 10 with(first
   |(go_at_call 13;(refine(OM.out _).mono ?_);rintro e w10 ⟨rfl,hb10⟩;have G10:=Lib.hid hb10;have F10:=Lib.hid (F9.out.trans (hb10.mono F9.out.size));clear hb10)
   |(go_at_call 45;(refine(CR2.out _ (BU.out.trans (F10.out.mono BU.out.size))).mono ?_);rintro e w11 ⟨hb11,t11,rfl,hn11,ho11⟩;obtain⟨K9,N9,r9,B9_,c9,v9⟩:=t11;simp only[Tv.val,Tv.row];have B11:=Lib.hid hb11;have O11:=Lib.hid ho11;have D11:=Lib.hid hn11;clear hb11 ho11 hn11))
  have X11:=Lib.hid (below_one w11 (.cells #[.int .i64 K9,.int .u64 (N9:Int),.slice r9.1 r9.2.1 r9.2.2.1,.slice B9_ v9.length c9] 26))
  have G11:=Lib.hid (show Below u9.heap.size u9 (w11.alloc (.cells #[.int .i64 K9,.int .u64 (N9:Int),.slice r9.1 r9.2.1 r9.2.2.1,.slice B9_ v9.length c9] 26)) from G10.out.trans ((B11.out.trans (X11.out.mono B11.out.size)).mono G10.out.size))
  have F11:=Lib.hid (show Below U.heap.size U (w11.alloc (.cells #[.int .i64 K9,.int .u64 (N9:Int),.slice r9.1 r9.2.1 r9.2.2.1,.slice B9_ v9.length c9] 26)) from F9.out.trans (G11.out.mono F9.out.size))
  have NQ:=Lib.hid (Bl.new_ w11 26 #[.int .i64 K9,.int .u64 (N9:Int),.slice r9.1 r9.2.1 r9.2.2.1,.slice B9_ v9.length c9])
  have NP11:=Lib.hid (NP.out.below' G11.out)
  have OP11:=Lib.hid (OP.out.keep G11.out)
  have OQ11:=Lib.hid (O11.out.keep X11.out)
  obtain⟨q11,hq11⟩:∃q11,w11.heap.size=q11:=⟨_,rfl⟩
  rw[hq11] at NQ ⊢
  clear X11 G11
  generalize(w11.alloc (.cells #[.int .i64 K9,.int .u64 (N9:Int),.slice r9.1 r9.2.1 r9.2.2.1,.slice B9_ v9.length c9] 26))=u11 at *
  clear hq11
  have zz0:(u11).cell? ⟨q9,0,none⟩=some (.int .i64 K6):=(NP11.out).cell_ rfl
  have zz1:(u11).cell? ⟨q9,1,none⟩=some (.int .u64 (N6:Int)):=(NP11.out).cell_ rfl
  have zz2:(u11).cell? ⟨q9,2,none⟩=some (.slice r6.1 r6.2.1 r6.2.2.1):=(NP11.out).cell_ rfl
  have zz3:(u11).cell? ⟨q9,3,none⟩=some (.slice B6_ v6.length c6):=(NP11.out).cell_ rfl
  have yy0:(u11).cell? ⟨q11,0,none⟩=some (.int .i64 K9):=(NQ.out).cell_ rfl
  have yy1:(u11).cell? ⟨q11,1,none⟩=some (.int .u64 (N9:Int)):=(NQ.out).cell_ rfl
  have yy2:(u11).cell? ⟨q11,2,none⟩=some (.slice r9.1 r9.2.1 r9.2.2.1):=(NQ.out).cell_ rfl
  have yy3:(u11).cell? ⟨q11,3,none⟩=some (.slice B9_ v9.length c9):=(NQ.out).cell_ rfl
  by_cases h2:y1=0
  ·obtain⟨rfl,rfl⟩:=E2 h2
   subst h2
   clear E2
   have CSN:=Lib.hid (show Calls _ _ #[.agg #[.int .i64 K6,.int .u64 (N6:Int),.slice r6.1 r6.2.1 r6.2.2.1,.slice B6_ v6.length c6],.agg #[.int .i64 K9,.int .u64 (N9:Int),.slice r9.1 r9.2.1 r9.2.2.1,.slice B9_ v9.length c9]] u11 (SmQ true u11) from by
    have h:=RSame_any OP11.out OQ11.out _ (Below.refl _ _)
    rw[D9.out,D11.out,SV.out] at h;exact h)
   go_wp2_with (first
    |(go_at_call 22;(refine CSN.out.mono ?_);rintro e w12 ⟨rfl,hb12⟩;have F12:=Lib.hid (F11.out.trans (hb12.mono F11.out.size));clear hb12)
    |(go_at_call 11;(refine(KN.out _).mono ?_);rintro e w13 ⟨rfl,hb13⟩;have F13:=Lib.hid hb13;clear hb13))
   go_ret
   exact⟨rfl,BU.out.trans ((F12.out.trans (F13.out.mono F12.out.size)).mono BU.out.size)⟩
  ·clear E2
   go_wp2_with (first
    |(go_at_call 11;(refine(KN.out _).mono ?_);rintro e w13 ⟨rfl,hb13⟩;have F13:=Lib.hid hb13;clear hb13))
   go_ret
   exact⟨rfl,BU.out.trans ((F11.out.trans (F13.out.mono F11.out.size)).mono BU.out.size)⟩
 ·clear E1
  have yy0:(w5).cell? ⟨w.heap.size+1,0,none⟩=some (.int .i64 a):=(NL.out.below' F5.out).cell_ rfl
  have yy1:(w5).cell? ⟨w.heap.size+1,1,none⟩=some (.int .i64 b):=(NL.out.below' F5.out).cell_ rfl
  have yy2:(w5).cell? ⟨w.heap.size+1,2,none⟩=some (.int .i64 c):=(NL.out.below' F5.out).cell_ rfl
  have yy3:(w5).cell? ⟨w.heap.size+1,3,none⟩=some (.int .i64 d):=(NL.out.below' F5.out).cell_ rfl
  go_upto_region 8 with(first
   |(fail))
  go_upto_region 9 with(first
   |(go_at_call 13;(refine(OW.out _).mono ?_);rintro e w8 ⟨rfl,hb8⟩;have F8:=Lib.hid (F5.out.trans (hb8.mono F5.out.size));have NM8:=Lib.hid (NM5.out.below' hb8);clear hb8)
   |(go_at_call 45;(refine(CR1.out _ (BU.out.trans (F8.out.mono BU.out.size))).mono ?_);rintro e w9 ⟨hb9,t9,rfl,hn9,ho9⟩;obtain⟨K6,N6,r6,B6_,c6,v6⟩:=t9;simp only[Tv.val,Tv.row];have B9:=Lib.hid hb9;have O9:=Lib.hid ho9;have D9:=Lib.hid hn9;clear hb9 ho9 hn9))
  have X9:=Lib.hid (below_one w9 (.cells #[.int .i64 K6,.int .u64 (N6:Int),.slice r6.1 r6.2.1 r6.2.2.1,.slice B6_ v6.length c6] 26))
  have G9:=Lib.hid (show Below w8.heap.size w8 (w9.alloc (.cells #[.int .i64 K6,.int .u64 (N6:Int),.slice r6.1 r6.2.1 r6.2.2.1,.slice B6_ v6.length c6] 26)) from B9.out.trans (X9.out.mono B9.out.size))
  have F9:=Lib.hid (show Below U.heap.size U (w9.alloc (.cells #[.int .i64 K6,.int .u64 (N6:Int),.slice r6.1 r6.2.1 r6.2.2.1,.slice B6_ v6.length c6] 26)) from F8.out.trans (G9.out.mono F8.out.size))
  have NP:=Lib.hid (Bl.new_ w9 26 #[.int .i64 K6,.int .u64 (N6:Int),.slice r6.1 r6.2.1 r6.2.2.1,.slice B6_ v6.length c6])
  have OP:=Lib.hid (O9.out.keep X9.out)
  have NM9:=Lib.hid (NM8.out.below' G9.out)
  obtain⟨q9,hq9⟩:∃q9,w9.heap.size=q9:=⟨_,rfl⟩
  rw[hq9] at NP ⊢
  clear X9 G9
  generalize(w9.alloc (.cells #[.int .i64 K6,.int .u64 (N6:Int),.slice r6.1 r6.2.1 r6.2.2.1,.slice B6_ v6.length c6] 26))=u9 at *
  clear hq9
  have zz0:(u9).cell? ⟨qm,0,none⟩=some (.int .i64 a'):=(NM9.out).cell_ rfl
  have zz1:(u9).cell? ⟨qm,1,none⟩=some (.int .i64 b'):=(NM9.out).cell_ rfl
  have zz2:(u9).cell? ⟨qm,2,none⟩=some (.int .i64 c'):=(NM9.out).cell_ rfl
  have zz3:(u9).cell? ⟨qm,3,none⟩=some (.int .i64 d'):=(NM9.out).cell_ rfl
  go_upto_region 10 with(first
   |(go_at_call 13;(refine(OM.out _).mono ?_);rintro e w10 ⟨rfl,hb10⟩;have G10:=Lib.hid hb10;have F10:=Lib.hid (F9.out.trans (hb10.mono F9.out.size));clear hb10)
   |(go_at_call 45;(refine(CR2.out _ (BU.out.trans (F10.out.mono BU.out.size))).mono ?_);rintro e w11 ⟨hb11,t11,rfl,hn11,ho11⟩;obtain⟨K9,N9,r9,B9_,c9,v9⟩:=t11;simp only[Tv.val,Tv.row];have B11:=Lib.hid hb11;have O11:=Lib.hid ho11;have D11:=Lib.hid hn11;clear hb11 ho11 hn11))
  have X11:=Lib.hid (below_one w11 (.cells #[.int .i64 K9,.int .u64 (N9:Int),.slice r9.1 r9.2.1 r9.2.2.1,.slice B9_ v9.length c9] 26))
  have G11:=Lib.hid (show Below u9.heap.size u9 (w11.alloc (.cells #[.int .i64 K9,.int .u64 (N9:Int),.slice r9.1 r9.2.1 r9.2.2.1,.slice B9_ v9.length c9] 26)) from G10.out.trans ((B11.out.trans (X11.out.mono B11.out.size)).mono G10.out.size))
  have F11:=Lib.hid (show Below U.heap.size U (w11.alloc (.cells #[.int .i64 K9,.int .u64 (N9:Int),.slice r9.1 r9.2.1 r9.2.2.1,.slice B9_ v9.length c9] 26)) from F9.out.trans (G11.out.mono F9.out.size))
  have NQ:=Lib.hid (Bl.new_ w11 26 #[.int .i64 K9,.int .u64 (N9:Int),.slice r9.1 r9.2.1 r9.2.2.1,.slice B9_ v9.length c9])
  have NP11:=Lib.hid (NP.out.below' G11.out)
  have OP11:=Lib.hid (OP.out.keep G11.out)
  have OQ11:=Lib.hid (O11.out.keep X11.out)
  obtain⟨q11,hq11⟩:∃q11,w11.heap.size=q11:=⟨_,rfl⟩
  rw[hq11] at NQ ⊢
  clear X11 G11
  generalize(w11.alloc (.cells #[.int .i64 K9,.int .u64 (N9:Int),.slice r9.1 r9.2.1 r9.2.2.1,.slice B9_ v9.length c9] 26))=u11 at *
  clear hq11
  have zz0:(u11).cell? ⟨q9,0,none⟩=some (.int .i64 K6):=(NP11.out).cell_ rfl
  have zz1:(u11).cell? ⟨q9,1,none⟩=some (.int .u64 (N6:Int)):=(NP11.out).cell_ rfl
  have zz2:(u11).cell? ⟨q9,2,none⟩=some (.slice r6.1 r6.2.1 r6.2.2.1):=(NP11.out).cell_ rfl
  have zz3:(u11).cell? ⟨q9,3,none⟩=some (.slice B6_ v6.length c6):=(NP11.out).cell_ rfl
  have yy0:(u11).cell? ⟨q11,0,none⟩=some (.int .i64 K9):=(NQ.out).cell_ rfl
  have yy1:(u11).cell? ⟨q11,1,none⟩=some (.int .u64 (N9:Int)):=(NQ.out).cell_ rfl
  have yy2:(u11).cell? ⟨q11,2,none⟩=some (.slice r9.1 r9.2.1 r9.2.2.1):=(NQ.out).cell_ rfl
  have yy3:(u11).cell? ⟨q11,3,none⟩=some (.slice B9_ v9.length c9):=(NQ.out).cell_ rfl
  by_cases h2:y1=0
  ·obtain⟨rfl,rfl⟩:=E2 h2
   subst h2
   clear E2
   have CSN:=Lib.hid (show Calls _ _ #[.agg #[.int .i64 K6,.int .u64 (N6:Int),.slice r6.1 r6.2.1 r6.2.2.1,.slice B6_ v6.length c6],.agg #[.int .i64 K9,.int .u64 (N9:Int),.slice r9.1 r9.2.1 r9.2.2.1,.slice B9_ v9.length c9]] u11 (SmQ true u11) from by
    have h:=RSame_any OP11.out OQ11.out _ (Below.refl _ _)
    rw[D9.out,D11.out,SV.out] at h;exact h)
   go_wp2_with (first
    |(go_at_call 22;(refine CSN.out.mono ?_);rintro e w12 ⟨rfl,hb12⟩;have F12:=Lib.hid (F11.out.trans (hb12.mono F11.out.size));clear hb12)
    |(go_at_call 11;(refine(KN.out _).mono ?_);rintro e w13 ⟨rfl,hb13⟩;have F13:=Lib.hid hb13;clear hb13))
   go_ret
   exact⟨rfl,BU.out.trans ((F12.out.trans (F13.out.mono F12.out.size)).mono BU.out.size)⟩
  ·clear E2
   go_wp2_with (first
    |(go_at_call 11;(refine(KN.out _).mono ?_);rintro e w13 ⟨rfl,hb13⟩;have F13:=Lib.hid hb13;clear hb13))
   go_ret
   exact⟨rfl,BU.out.trans ((F11.out.trans (F13.out.mono F11.out.size)).mono BU.out.size)⟩
end Go.Proofs.Ytkahelhoaihajaa.Wr
