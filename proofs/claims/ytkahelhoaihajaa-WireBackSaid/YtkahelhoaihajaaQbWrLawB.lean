/- Joined texts. -/
import Derived.Test.YtkahelhoaihajaaQbWrGlue
set_option linter.unusedVariables false
namespace Go.Proofs.Ytkahelhoaihajaa.Wr
open Go.RowKit Go.Proofs.Ytkahelhoaihajaa.Gn Go.Proofs.Ytkahelhoaihajaa.Fd Go.Deep
set_option maxHeartbeats 4000000 in
set_option maxRecDepth 100000 in
theorem walk_wireBack{w:World}{v:Tv}(hv:Ok0 w v)(A:Option Addr)(m cap:Nat)(l:List Nat)(hl:BL w A m cap l)(hin:∀ad,A=some ad→ad.block < w.heap.size)(a b c d:Int)(wd:(Lit.int .i64 d).wf) :
  Calls Try.prog 6 #[v.val,.slice A m cap,.agg #[.int .i64 a,.int .i64 b,.int .i64 c,.int .i64 d]] w fun e w'=>e=.returned (.bool true)∧Below w.heap.size w w':=by
 have hd:=(wf_i64 wd).2
 have HP:=Lib.hid (bl_pc hl)
 have KN:=Lib.hid known_any
 have LGf:=Lib.hid (fun u=>longb_any A m cap u)
 have OW:=Lib.hid (fun u=>own_lim a b c d u)
 have GR:=Lib.hid (fun u hu=>great_any hv u hu)
 clear wd hl
 obtain⟨SZ,hSZ⟩:∃SZ,sz v=SZ:=⟨_,rfl⟩
 have HV:=Lib.hid hv
 have HSZ:=Lib.hid hSZ
 rw[hSZ] at GR
 have hl9:m=l.length:=HP.out.len
 obtain⟨V0,hV0⟩:∃V0,nd v=V0:=⟨_,rfl⟩
 have MAIN:=Lib.hid (show SZ≤2000→m≤2000→Ok w v∧szn V0≤2000 from fun h1 h2=>by
  have h3:=hv.ok v (by omega)
  have h4:=(nd_all v h3).2.2.2
  refine⟨h3,by rw[←hV0,←h4];omega⟩)
 have HV0:=Lib.hid hV0
 clear hv hSZ
 obtain⟨K0,N0,r0,B0,c0,v0⟩:=v
 simp only[Tv.val,Tv.row] at GR ⊢
 obtain⟨U,hU⟩:∃U,((w.alloc (.cells #[.int .i64 K0,.int .u64 (N0:Int),.slice r0.1 r0.2.1 r0.2.2.1,.slice B0 v0.length c0] 26)).alloc (.cells #[.int .i64 a,.int .i64 b,.int .i64 c,.int .i64 d] 28))=U:=⟨_,rfl⟩
 have BU:=Lib.hid (show Below w.heap.size w U from by rw[←hU];exact((Below.refl _ w).alloc (Nat.le_refl _) _).alloc (by simp) _)
 have NV:=Lib.hid (show Bl U w.heap.size 26 #[.int .i64 K0,.int .u64 (N0:Int),.slice r0.1 r0.2.1 r0.2.2.1,.slice B0 v0.length c0] from by rw[←hU];exact(Bl.new_ w _ _).alloc _)
 have NL:=Lib.hid (show Bl U (w.heap.size+1) 28 #[.int .i64 a,.int .i64 b,.int .i64 c,.int .i64 d] from by rw[←hU];exact Bl.new' _ _ (by simp))
 have z0:(U).cell? ⟨w.heap.size,0,none⟩=some (.int .i64 K0):=(NV.out).cell_ rfl
 have z1:(U).cell? ⟨w.heap.size,1,none⟩=some (.int .u64 (N0:Int)):=(NV.out).cell_ rfl
 have z2:(U).cell? ⟨w.heap.size,2,none⟩=some (.slice r0.1 r0.2.1 r0.2.2.1):=(NV.out).cell_ rfl
 have z3:(U).cell? ⟨w.heap.size,3,none⟩=some (.slice B0 v0.length c0):=(NV.out).cell_ rfl
 by_cases g1:2000 < SZ
 ·rw[decide_eq_true g1] at GR
  clear g1 hl9 hd MAIN
  go_enter Try.func6,Try.ntmps6
  go_wp2_with (first
   |(go_at_call 10;(refine(GR.out _ BU.out).mono ?_);rintro e w1 ⟨rfl,hb1⟩;have F1:=Lib.hid hb1;clear hb1)
   |(go_at_call 18;(refine(LGf.out _).mono ?_);rintro e w2 ⟨rfl,rfl⟩)
   |(go_at_call 11;(refine(KN.out _).mono ?_);rintro e w3 ⟨rfl,hb3⟩;have F3:=Lib.hid hb3;clear hb3))
  go_ret
  exact⟨rfl,BU.out.trans ((F1.out.trans (F3.out.mono F1.out.size)).mono BU.out.size)⟩
 rw[decide_eq_false g1] at GR
 by_cases g2:2000 < (m:Int)
 ·rw[decide_eq_true g2] at LGf
  clear g1 g2 hl9 hd MAIN
  go_enter Try.func6,Try.ntmps6
  go_wp2_with (first
   |(go_at_call 10;(refine(GR.out _ BU.out).mono ?_);rintro e w1 ⟨rfl,hb1⟩;have F1:=Lib.hid hb1;clear hb1)
   |(go_at_call 18;(refine(LGf.out _).mono ?_);rintro e w2 ⟨rfl,rfl⟩)
   |(go_at_call 11;(refine(KN.out _).mono ?_);rintro e w3 ⟨rfl,hb3⟩;have F3:=Lib.hid hb3;clear hb3))
  go_ret
  exact⟨rfl,BU.out.trans ((F1.out.trans (F3.out.mono F1.out.size)).mono BU.out.size)⟩
 rw[decide_eq_false g2] at LGf
 obtain⟨hok,hsz⟩:=MAIN.out (by omega) (by omega)
 have hs0:smn V0:=by rw[←hV0];exact smn_ok _ hok (by rw[hV0];omega)
 have e0:(0:Int)≤max d 0:=by omega
 -- what is written of v
 obtain⟨er1,her1⟩:∃er1,wern (max a 0) (max b 0) (max c 0) (max d 0) V0=er1:=⟨_,rfl⟩
 obtain⟨L1,hL1⟩:∃L1,wout (max a 0) (max b 0) (max c 0) (max d 0) V0=L1:=⟨_,rfl⟩
 have l1:L1.length≤20010:=by rw[←hL1,←hV0];exact wout_len hok _ _ _ _ (by rw[hV0];omega)
 have CW1:=Lib.hid (show ∀u,Below w.heap.size w u→Calls Try.prog 12 #[.agg #[.int .i64 K0,.int .u64 (N0:Int),.slice r0.1 r0.2.1 r0.2.2.1,.slice B0 v0.length c0],lim a b c d] u (WpQ er1 L1 u) from fun u hu=>by
  have h:=Write_pc (hok.keep hu) a b c d hd (by rw[hV0];omega)
  rw[hV0,her1,hL1] at h;exact h)
 obtain⟨x1,y1,V1,hr1,hy1,hg1,-, -⟩:=@rdq3 (max a 0) (max b 0) (max c 0) (max d 0) L1
 have CR1:=Lib.hid (show ∀u A1 c1,Pc u (A1,L1.length,c1,L1)→(∀ad,A1=some ad→ad.block < u.heap.size)→Calls Try.prog 45 #[.slice A1 L1.length c1,lim a b c d] u (R3Q x1 y1 V1 u) from fun u A1 c1 h1 h2=>(Read_any h1 a b c d hd (by show L1.length≤900000;omega) h2).mono fun e w' h=>hr1 u e w' h)
 have E1:er1=0→y1=0∧V1=V0:=fun h=>by
  obtain⟨k,hk⟩:=wern_back hs0 (her1.trans h)
  rw[wout,if_pos (her1.trans h)] at hL1
  rw[hL1] at hk
  exact hg1 _ _ _ hk
 -- what is read of the bytes
 obtain⟨x2,y2,V2,hr2,hy2,hg2,-, hz2⟩:=@rdq3 (max a 0) (max b 0) (max c 0) (max d 0) l
 have CR2:=Lib.hid (show ∀u,Below w.heap.size w u→Calls Try.prog 45 #[.slice A m cap,lim a b c d] u (R3Q x2 y2 V2 u) from fun u hu=>(Read_any (HP.out.below hu) a b c d hd (by show m≤900000;omega) (fun ad e=>Nat.lt_of_lt_of_le (hin ad e) hu.size)).mono fun e w' h=>hr2 u e w' h)
 obtain⟨er2,her2⟩:∃er2,wern (max a 0) (max b 0) (max c 0) (max d 0) V2=er2:=⟨_,rfl⟩
 obtain⟨L2,hL2⟩:∃L2,wout (max a 0) (max b 0) (max c 0) (max d 0) V2=L2:=⟨_,rfl⟩
 have CW2:=Lib.hid (show ∀(t:Tv) u,Ok u t→nd t=V2→Calls Try.prog 12 #[t.val,lim a b c d] u (WpQ er2 L2 u) from fun t u h1 h2=>by
  have h:=Write_pc h1 a b c d hd (by rw[h2];omega)
  rw[h2,her2,hL2] at h;exact h)
 have E2:y2=0→er2=0∧L2=l:=fun h=>by
  obtain⟨p,k,hk⟩:=hy2 h
  obtain⟨h1,h2,-⟩:=rdw_inv HP.out.lt hk
  rw[h2] at her2
  rw[wout,if_pos h2,h1] at hL2
  exact⟨her2.symm,hL2.symm⟩
 have OK0:=Lib.hid hok
 have SV:=Lib.hid ((sn_eq V0 V0).2 rfl)
 have LT:=Lib.hid HP.out.lt
 have LM:=Lib.hid hl9
 have HIN:=Lib.hid hin
 clear hr1 hr2 hy1 hy2 hg1 hg2 hz2 her1 her2 hL1 hL2 l1 hs0 e0 hsz hok g1 g2 hl9 MAIN hd HSZ hV0 hin
 by_cases h1:er1=0
 ·obtain⟨rfl,rfl⟩:=E1 h1
  subst h1
  clear E1
  by_cases h2:y2=0
  ·obtain⟨rfl,e2⟩:=E2 h2
   have L2l:=Lib.hid e2
   subst h2
   clear E2 e2
   go_enter Try.func6,Try.ntmps6
   go_upto_region 3 with(first
    |(go_at_call 10;(refine(GR.out _ BU.out).mono ?_);rintro e w1 ⟨rfl,hb1⟩;have F1:=Lib.hid hb1;clear hb1)
    |(go_at_call 18;(refine(LGf.out _).mono ?_);rintro e w2 ⟨rfl,rfl⟩))
   refine wp_region_held_drew (S:=fun x=>Below (w1).heap.size (w1) x) (by kernel_rfl) (below_drewN (Below.refl _ _) 1) (fun _=>?_)
   refine take_l 0 (v:=?_) rfl (by kernel_rfl) (by kernel_rfl) (by kernel_rfl) (fun _ _ _ h=>h) (Or.inl ⟨by rfl,?_⟩) (by first|exact BS.out|exact below_drewN (Below.refl _ _) 1) ?_;rotate_left
   ·intro w' hSw
    have z0:(w').cell? ⟨w.heap.size,0,none⟩=some (.int .i64 K0):=((NV.out.below' F1.out).below' hSw).cell_ rfl
    have z1:(w').cell? ⟨w.heap.size,1,none⟩=some (.int .u64 (N0:Int)):=((NV.out.below' F1.out).below' hSw).cell_ rfl
    have z2:(w').cell? ⟨w.heap.size,2,none⟩=some (.slice r0.1 r0.2.1 r0.2.2.1):=((NV.out.below' F1.out).below' hSw).cell_ rfl
    have z3:(w').cell? ⟨w.heap.size,3,none⟩=some (.slice B0 v0.length c0):=((NV.out.below' F1.out).below' hSw).cell_ rfl
    have y0:(w').cell? ⟨w.heap.size+1,0,none⟩=some (.int .i64 a):=((NL.out.below' F1.out).below' hSw).cell_ rfl
    have y1:(w').cell? ⟨w.heap.size+1,1,none⟩=some (.int .i64 b):=((NL.out.below' F1.out).below' hSw).cell_ rfl
    have y2:(w').cell? ⟨w.heap.size+1,2,none⟩=some (.int .i64 c):=((NL.out.below' F1.out).below' hSw).cell_ rfl
    have y3:(w').cell? ⟨w.heap.size+1,3,none⟩=some (.int .i64 d):=((NL.out.below' F1.out).below' hSw).cell_ rfl
    clear hSw
    go_simp
    all_goals with_reducible rfl
   try simp only[Act.put,List.setIfInBounds_toArray,List.set_cons_zero,List.set_cons_succ]
   refine take_l 1 (v:=?_) rfl (by kernel_rfl) (by kernel_rfl) (by kernel_rfl) (fun _ _ _ h=>h) (Or.inl ⟨by rfl,?_⟩) (by first|exact BS.out|exact below_drewN (Below.refl _ _) 1) ?_;rotate_left
   ·intro w' hSw
    have z0:(w').cell? ⟨w.heap.size,0,none⟩=some (.int .i64 K0):=((NV.out.below' F1.out).below' hSw).cell_ rfl
    have z1:(w').cell? ⟨w.heap.size,1,none⟩=some (.int .u64 (N0:Int)):=((NV.out.below' F1.out).below' hSw).cell_ rfl
    have z2:(w').cell? ⟨w.heap.size,2,none⟩=some (.slice r0.1 r0.2.1 r0.2.2.1):=((NV.out.below' F1.out).below' hSw).cell_ rfl
    have z3:(w').cell? ⟨w.heap.size,3,none⟩=some (.slice B0 v0.length c0):=((NV.out.below' F1.out).below' hSw).cell_ rfl
    have y0:(w').cell? ⟨w.heap.size+1,0,none⟩=some (.int .i64 a):=((NL.out.below' F1.out).below' hSw).cell_ rfl
    have y1:(w').cell? ⟨w.heap.size+1,1,none⟩=some (.int .i64 b):=((NL.out.below' F1.out).below' hSw).cell_ rfl
    have y2:(w').cell? ⟨w.heap.size+1,2,none⟩=some (.int .i64 c):=((NL.out.below' F1.out).below' hSw).cell_ rfl
    have y3:(w').cell? ⟨w.heap.size+1,3,none⟩=some (.int .i64 d):=((NL.out.below' F1.out).below' hSw).cell_ rfl
    clear hSw
    go_simp
    all_goals with_reducible rfl
   try simp only[Act.put,List.setIfInBounds_toArray,List.set_cons_zero,List.set_cons_succ]
   refine wpAnyH_ready (rs:=[2]) (by kernel_rfl) (by simp) ?_
   refine cons_l rfl (fun K0 hK=>?_) AllReadyH.nil
   go_simp
   (go_at_call 13;(refine(OW.out _).mono ?_);rintro e w3 ⟨rfl,hb3⟩)
   have BS:=Lib.hid (show Below w1.heap.size w1 w3 from(below_drewN (Below.refl _ _) 1).trans (hb3.mono (Nat.le_refl _)))
   clear hb3
   refine hK.out _ _ (by first|exact BS.out|exact below_drewN (Below.refl _ _) 1) (fun _=>?_)
   clear hK K0
   try simp only[Act.put,List.setIfInBounds_toArray,List.set_cons_zero,List.set_cons_succ]
   refine wpAnyH_ready (rs:=[3]) (by kernel_rfl) (by simp) ?_
   refine cons_l rfl (fun K0 hK=>?_) AllReadyH.nil
   go_simp
   (go_at_call 12;(refine(CW1.out _ (BU.out.trans ((F1.out.trans (BS.out.mono F1.out.size)).mono BU.out.size))).mono ?_);rintro e w4 ⟨hb4,A4,c4,rfl,hp4,hi4⟩)
   have B4':=Lib.hid (show Below w1.heap.size w1 w4 from BS.out.trans (hb4.mono BS.out.size))
   have BS:=Lib.hid B4'.out
   have P4:=Lib.hid hp4
   have I4:=Lib.hid hi4
   clear hb4 hp4 hi4
   refine hK.out _ _ (by first|exact BS.out|exact below_drewN (Below.refl _ _) 1) (fun _=>?_)
   clear hK K0
   try simp only[Act.put,List.setIfInBounds_toArray,List.set_cons_zero,List.set_cons_succ]
   refine take_l 4 (v:=?_) rfl (by kernel_rfl) (by kernel_rfl) (by kernel_rfl) (fun _ _ _ h=>h) (Or.inl ⟨by rfl,?_⟩) (by first|exact BS.out|exact below_drewN (Below.refl _ _) 1) ?_;rotate_left
   ·intro w' hSw
    clear hSw
    go_simp
    all_goals with_reducible rfl
   try simp only[Act.put,List.setIfInBounds_toArray,List.set_cons_zero,List.set_cons_succ]
   refine take_l 5 (v:=?_) rfl (by kernel_rfl) (by kernel_rfl) (by kernel_rfl) (fun _ _ _ h=>h) (Or.inl ⟨by rfl,?_⟩) (by first|exact BS.out|exact below_drewN (Below.refl _ _) 1) ?_;rotate_left
   ·intro w' hSw
    clear hSw
    go_simp
    all_goals with_reducible rfl
   try simp only[Act.put,List.setIfInBounds_toArray,List.set_cons_zero,List.set_cons_succ]
   refine take_l 6 (v:=?_) rfl (by kernel_rfl) (by kernel_rfl) (by kernel_rfl) (fun _ _ _ h=>h) (Or.inl ⟨by rfl,?_⟩) (by first|exact BS.out|exact below_drewN (Below.refl _ _) 1) ?_;rotate_left
   ·intro w' hSw
    clear hSw
    go_simp
    all_goals with_reducible rfl
   try simp only[Act.put,List.setIfInBounds_toArray,List.set_cons_zero,List.set_cons_succ]
   refine take_l 7 (v:=?_) rfl (by kernel_rfl) (by kernel_rfl) (by kernel_rfl) (fun _ _ _ h=>h) (Or.inl ⟨by rfl,?_⟩) (by first|exact BS.out|exact below_drewN (Below.refl _ _) 1) ?_;rotate_left
   ·intro w' hSw
    clear hSw
    go_simp
    all_goals with_reducible rfl
   try simp only[Act.put,List.setIfInBounds_toArray,List.set_cons_zero,List.set_cons_succ]
   refine take_l 8 (v:=?_) rfl (by kernel_rfl) (by kernel_rfl) (by kernel_rfl) (fun _ _ _ h=>h) (Or.inl ⟨by rfl,?_⟩) (by first|exact BS.out|exact below_drewN (Below.refl _ _) 1) ?_;rotate_left
   ·intro w' hSw
    clear hSw
    go_simp
    all_goals with_reducible rfl
   try simp only[Act.put,List.setIfInBounds_toArray,List.set_cons_zero,List.set_cons_succ]
   refine wpAnyH_done (by kernel_rfl) ?_ _
   have F4:=Lib.hid (show Below U.heap.size U w4 from F1.out.trans (BS.out.mono F1.out.size))
   have y0:(w4).cell? ⟨w.heap.size+1,0,none⟩=some (.int .i64 a):=(NL.out.below' F4.out).cell_ rfl
   have y1:(w4).cell? ⟨w.heap.size+1,1,none⟩=some (.int .i64 b):=(NL.out.below' F4.out).cell_ rfl
   have y2:(w4).cell? ⟨w.heap.size+1,2,none⟩=some (.int .i64 c):=(NL.out.below' F4.out).cell_ rfl
   have y3:(w4).cell? ⟨w.heap.size+1,3,none⟩=some (.int .i64 d):=(NL.out.below' F4.out).cell_ rfl
   go_upto_region 5 with(first
    |(go_at_call 13;(refine(OW.out _).mono ?_);rintro e w5 ⟨rfl,hb5⟩;have B5:=Lib.hid hb5;clear hb5)
    |(go_at_call 45;(refine(CR1.out _ _ _ (P4.out.below B5.out) (fun ad e=>Nat.lt_of_lt_of_le (I4.out ad e) B5.out.size)).mono ?_);rintro e w6 ⟨hb6,t6,rfl,hn6,ho6⟩;obtain⟨K6,N6,r6,B6_,c6,v6⟩:=t6;simp only[Tv.val,Tv.row];have B6:=Lib.hid hb6;have O6:=Lib.hid ho6;have D6:=Lib.hid hn6;clear hb6 ho6 hn6))
   have X6:=Lib.hid (below_one w6 (.cells #[.int .i64 K6,.int .u64 (N6:Int),.slice r6.1 r6.2.1 r6.2.2.1,.slice B6_ v6.length c6] 26))
   have F6:=Lib.hid (show Below U.heap.size U (w6.alloc (.cells #[.int .i64 K6,.int .u64 (N6:Int),.slice r6.1 r6.2.1 r6.2.2.1,.slice B6_ v6.length c6] 26)) from F4.out.trans ((B5.out.trans ((B6.out.trans (X6.out.mono B6.out.size)).mono B5.out.size)).mono F4.out.size))
   have NW:=Lib.hid (Bl.new_ w6 26 #[.int .i64 K6,.int .u64 (N6:Int),.slice r6.1 r6.2.1 r6.2.2.1,.slice B6_ v6.length c6])
   have OW6:=Lib.hid (O6.out.keep X6.out)
   have OV6:=Lib.hid ((OK0.out.keep BU.out).keep F6.out)
   obtain⟨q6,hq6⟩:∃q6,w6.heap.size=q6:=⟨_,rfl⟩
   rw[hq6] at NW ⊢
   clear X6
   generalize(w6.alloc (.cells #[.int .i64 K6,.int .u64 (N6:Int),.slice r6.1 r6.2.1 r6.2.2.1,.slice B6_ v6.length c6] 26))=u6 at *
   clear hq6
   have z0:(u6).cell? ⟨w.heap.size,0,none⟩=some (.int .i64 K0):=(NV.out.below' F6.out).cell_ rfl
   have z1:(u6).cell? ⟨w.heap.size,1,none⟩=some (.int .u64 (N0:Int)):=(NV.out.below' F6.out).cell_ rfl
   have z2:(u6).cell? ⟨w.heap.size,2,none⟩=some (.slice r0.1 r0.2.1 r0.2.2.1):=(NV.out.below' F6.out).cell_ rfl
   have z3:(u6).cell? ⟨w.heap.size,3,none⟩=some (.slice B0 v0.length c0):=(NV.out.below' F6.out).cell_ rfl
   have y0:(u6).cell? ⟨w.heap.size+1,0,none⟩=some (.int .i64 a):=(NL.out.below' F6.out).cell_ rfl
   have y1:(u6).cell? ⟨w.heap.size+1,1,none⟩=some (.int .i64 b):=(NL.out.below' F6.out).cell_ rfl
   have y2:(u6).cell? ⟨w.heap.size+1,2,none⟩=some (.int .i64 c):=(NL.out.below' F6.out).cell_ rfl
   have y3:(u6).cell? ⟨w.heap.size+1,3,none⟩=some (.int .i64 d):=(NL.out.below' F6.out).cell_ rfl
   have x0:(u6).cell? ⟨q6,0,none⟩=some (.int .i64 K6):=(NW.out).cell_ rfl
   have x1:(u6).cell? ⟨q6,1,none⟩=some (.int .u64 (N6:Int)):=(NW.out).cell_ rfl
   have x2:(u6).cell? ⟨q6,2,none⟩=some (.slice r6.1 r6.2.1 r6.2.2.1):=(NW.out).cell_ rfl
   have x3:(u6).cell? ⟨q6,3,none⟩=some (.slice B6_ v6.length c6):=(NW.out).cell_ rfl
   have CS:=Lib.hid (show Calls _ _ #[.agg #[.int .i64 K0,.int .u64 (N0:Int),.slice r0.1 r0.2.1 r0.2.2.1,.slice B0 v0.length c0],.agg #[.int .i64 K6,.int .u64 (N6:Int),.slice r6.1 r6.2.1 r6.2.2.1,.slice B6_ v6.length c6]] u6 (SmQ true u6) from by
    have h:=RSame_any OV6.out OW6.out _ (Below.refl _ _)
    rw[HV0.out,D6.out,SV.out] at h;exact h)
   go_upto_region 7 with(first
    |(go_at_call 22;(refine CS.out.mono ?_);rintro e w7 ⟨rfl,hb7⟩;have B7:=Lib.hid hb7;clear hb7))
   have F7:=Lib.hid (show Below U.heap.size U w7 from F6.out.trans (B7.out.mono F6.out.size))
   have y0:(w7).cell? ⟨w.heap.size+1,0,none⟩=some (.int .i64 a):=(NL.out.below' F7.out).cell_ rfl
   have y1:(w7).cell? ⟨w.heap.size+1,1,none⟩=some (.int .i64 b):=(NL.out.below' F7.out).cell_ rfl
   have y2:(w7).cell? ⟨w.heap.size+1,2,none⟩=some (.int .i64 c):=(NL.out.below' F7.out).cell_ rfl
   have y3:(w7).cell? ⟨w.heap.size+1,3,none⟩=some (.int .i64 d):=(NL.out.below' F7.out).cell_ rfl
   go_upto_region 8 with(first
    |(go_at_call 13;(refine(OW.out _).mono ?_);rintro e w8 ⟨rfl,hb8⟩;have F8:=Lib.hid (F7.out.trans (hb8.mono F7.out.size));clear hb8)
    |(go_at_call 45;(refine(CR2.out _ (BU.out.trans (F8.out.mono BU.out.size))).mono ?_);rintro e w9 ⟨hb9,t9,rfl,hn9,ho9⟩;obtain⟨K9,N9,r9,B9_,c9,v9⟩:=t9;simp only[Tv.val,Tv.row];have B9:=Lib.hid hb9;have O9:=Lib.hid ho9;have D9:=Lib.hid hn9;clear hb9 ho9 hn9))
   have X9:=Lib.hid (below_one w9 (.cells #[.int .i64 K9,.int .u64 (N9:Int),.slice r9.1 r9.2.1 r9.2.2.1,.slice B9_ v9.length c9] 26))
   have F9:=Lib.hid (show Below U.heap.size U (w9.alloc (.cells #[.int .i64 K9,.int .u64 (N9:Int),.slice r9.1 r9.2.1 r9.2.2.1,.slice B9_ v9.length c9] 26)) from F8.out.trans ((B9.out.trans (X9.out.mono B9.out.size)).mono F8.out.size))
   have NX:=Lib.hid (Bl.new_ w9 26 #[.int .i64 K9,.int .u64 (N9:Int),.slice r9.1 r9.2.1 r9.2.2.1,.slice B9_ v9.length c9])
   have OX9:=Lib.hid (O9.out.keep X9.out)
   obtain⟨q9,hq9⟩:∃q9,w9.heap.size=q9:=⟨_,rfl⟩
   rw[hq9] at NX ⊢
   clear X9
   generalize(w9.alloc (.cells #[.int .i64 K9,.int .u64 (N9:Int),.slice r9.1 r9.2.1 r9.2.2.1,.slice B9_ v9.length c9] 26))=u9 at *
   clear hq9
   refine wp_region_held_drew (S:=fun x=>Below (u9).heap.size (u9) x) (by kernel_rfl) (below_drewN (Below.refl _ _) 1) (fun _=>?_)
   refine take_l 0 (v:=?_) rfl (by kernel_rfl) (by kernel_rfl) (by kernel_rfl) (fun _ _ _ h=>h) (Or.inl ⟨by rfl,?_⟩) (by first|exact BT.out|exact below_drewN (Below.refl _ _) 1) ?_;rotate_left
   ·intro w' hSw
    have z0:(w').cell? ⟨q9,0,none⟩=some (.int .i64 K9):=(NX.out.below' hSw).cell_ rfl
    have z1:(w').cell? ⟨q9,1,none⟩=some (.int .u64 (N9:Int)):=(NX.out.below' hSw).cell_ rfl
    have z2:(w').cell? ⟨q9,2,none⟩=some (.slice r9.1 r9.2.1 r9.2.2.1):=(NX.out.below' hSw).cell_ rfl
    have z3:(w').cell? ⟨q9,3,none⟩=some (.slice B9_ v9.length c9):=(NX.out.below' hSw).cell_ rfl
    have y0:(w').cell? ⟨w.heap.size+1,0,none⟩=some (.int .i64 a):=((NL.out.below' F9.out).below' hSw).cell_ rfl
    have y1:(w').cell? ⟨w.heap.size+1,1,none⟩=some (.int .i64 b):=((NL.out.below' F9.out).below' hSw).cell_ rfl
    have y2:(w').cell? ⟨w.heap.size+1,2,none⟩=some (.int .i64 c):=((NL.out.below' F9.out).below' hSw).cell_ rfl
    have y3:(w').cell? ⟨w.heap.size+1,3,none⟩=some (.int .i64 d):=((NL.out.below' F9.out).below' hSw).cell_ rfl
    clear hSw
    go_simp
    all_goals with_reducible rfl
   try simp only[Act.put,List.setIfInBounds_toArray,List.set_cons_zero,List.set_cons_succ]
   refine take_l 1 (v:=?_) rfl (by kernel_rfl) (by kernel_rfl) (by kernel_rfl) (fun _ _ _ h=>h) (Or.inl ⟨by rfl,?_⟩) (by first|exact BT.out|exact below_drewN (Below.refl _ _) 1) ?_;rotate_left
   ·intro w' hSw
    have z0:(w').cell? ⟨q9,0,none⟩=some (.int .i64 K9):=(NX.out.below' hSw).cell_ rfl
    have z1:(w').cell? ⟨q9,1,none⟩=some (.int .u64 (N9:Int)):=(NX.out.below' hSw).cell_ rfl
    have z2:(w').cell? ⟨q9,2,none⟩=some (.slice r9.1 r9.2.1 r9.2.2.1):=(NX.out.below' hSw).cell_ rfl
    have z3:(w').cell? ⟨q9,3,none⟩=some (.slice B9_ v9.length c9):=(NX.out.below' hSw).cell_ rfl
    have y0:(w').cell? ⟨w.heap.size+1,0,none⟩=some (.int .i64 a):=((NL.out.below' F9.out).below' hSw).cell_ rfl
    have y1:(w').cell? ⟨w.heap.size+1,1,none⟩=some (.int .i64 b):=((NL.out.below' F9.out).below' hSw).cell_ rfl
    have y2:(w').cell? ⟨w.heap.size+1,2,none⟩=some (.int .i64 c):=((NL.out.below' F9.out).below' hSw).cell_ rfl
    have y3:(w').cell? ⟨w.heap.size+1,3,none⟩=some (.int .i64 d):=((NL.out.below' F9.out).below' hSw).cell_ rfl
    clear hSw
    go_simp
    all_goals with_reducible rfl
   try simp only[Act.put,List.setIfInBounds_toArray,List.set_cons_zero,List.set_cons_succ]
   refine wpAnyH_ready (rs:=[2]) (by kernel_rfl) (by simp) ?_
   refine cons_l rfl (fun K0 hK=>?_) AllReadyH.nil
   go_simp
   (go_at_call 13;(refine(OW.out _).mono ?_);rintro e w10 ⟨rfl,hb10⟩)
   have BT:=Lib.hid (show Below u9.heap.size u9 w10 from(below_drewN (Below.refl _ _) 1).trans (hb10.mono (Nat.le_refl _)))
   clear hb10
   refine hK.out _ _ (by first|exact BT.out|exact below_drewN (Below.refl _ _) 1) (fun _=>?_)
   clear hK K0
   try simp only[Act.put,List.setIfInBounds_toArray,List.set_cons_zero,List.set_cons_succ]
   refine wpAnyH_ready (rs:=[3]) (by kernel_rfl) (by simp) ?_
   refine cons_l rfl (fun K0 hK=>?_) AllReadyH.nil
   go_simp
   (go_at_call 12;(refine(CW2.out (.mk K9 N9 r9 B9_ c9 v9) _ (OX9.out.keep BT.out) D9.out).mono ?_);rintro e w11 ⟨hb11,A11,c11,rfl,hp11,hi11⟩)
   have B11':=Lib.hid (show Below u9.heap.size u9 w11 from BT.out.trans (hb11.mono BT.out.size))
   have BT:=Lib.hid B11'.out
   have P11:=Lib.hid hp11
   clear hb11 hp11 hi11
   refine hK.out _ _ (by first|exact BT.out|exact below_drewN (Below.refl _ _) 1) (fun _=>?_)
   clear hK K0
   try simp only[Act.put,List.setIfInBounds_toArray,List.set_cons_zero,List.set_cons_succ]
   refine take_l 4 (v:=?_) rfl (by kernel_rfl) (by kernel_rfl) (by kernel_rfl) (fun _ _ _ h=>h) (Or.inl ⟨by rfl,?_⟩) (by first|exact BT.out|exact below_drewN (Below.refl _ _) 1) ?_;rotate_left
   ·intro w' hSw
    clear hSw
    go_simp
    all_goals with_reducible rfl
   try simp only[Act.put,List.setIfInBounds_toArray,List.set_cons_zero,List.set_cons_succ]
   refine take_l 5 (v:=?_) rfl (by kernel_rfl) (by kernel_rfl) (by kernel_rfl) (fun _ _ _ h=>h) (Or.inl ⟨by rfl,?_⟩) (by first|exact BT.out|exact below_drewN (Below.refl _ _) 1) ?_;rotate_left
   ·intro w' hSw
    clear hSw
    go_simp
    all_goals with_reducible rfl
   try simp only[Act.put,List.setIfInBounds_toArray,List.set_cons_zero,List.set_cons_succ]
   refine take_l 6 (v:=?_) rfl (by kernel_rfl) (by kernel_rfl) (by kernel_rfl) (fun _ _ _ h=>h) (Or.inl ⟨by rfl,?_⟩) (by first|exact BT.out|exact below_drewN (Below.refl _ _) 1) ?_;rotate_left
   ·intro w' hSw
    clear hSw
    go_simp
    all_goals with_reducible rfl
   try simp only[Act.put,List.setIfInBounds_toArray,List.set_cons_zero,List.set_cons_succ]
   refine take_l 7 (v:=?_) rfl (by kernel_rfl) (by kernel_rfl) (by kernel_rfl) (fun _ _ _ h=>h) (Or.inl ⟨by rfl,?_⟩) (by first|exact BT.out|exact below_drewN (Below.refl _ _) 1) ?_;rotate_left
   ·intro w' hSw
    clear hSw
    go_simp
    all_goals with_reducible rfl
   try simp only[Act.put,List.setIfInBounds_toArray,List.set_cons_zero,List.set_cons_succ]
   refine take_l 8 (v:=?_) rfl (by kernel_rfl) (by kernel_rfl) (by kernel_rfl) (fun _ _ _ h=>h) (Or.inl ⟨by rfl,?_⟩) (by first|exact BT.out|exact below_drewN (Below.refl _ _) 1) ?_;rotate_left
   ·intro w' hSw
    clear hSw
    go_simp
    all_goals with_reducible rfl
   try simp only[Act.put,List.setIfInBounds_toArray,List.set_cons_zero,List.set_cons_succ]
   refine wpAnyH_done (by kernel_rfl) ?_ _
   have F11:=Lib.hid (show Below U.heap.size U w11 from F9.out.trans (BT.out.mono F9.out.size))
   have CS2:=Lib.hid (samebytes_any A A11 m L2.length cap c11 l L2 w11 LT.out P11.out.lt (by have h:=(HP.out.below (BU.out.trans (F11.out.mono BU.out.size))).row;rw[show((A,m,cap,l):Rw).2.2.2.length=m from LM.out.symm] at h;exact h) P11.out.row)
   rw[L2l.out,beq_self_eq_true] at CS2
   try rw[L2l.out]
   go_wp2_with (first
    |(go_at_call 17;(refine CS2.out.mono ?_);rintro e w12 ⟨rfl,rfl⟩)
    |(go_at_call 11;(refine(KN.out _).mono ?_);rintro e w13 ⟨rfl,hb13⟩;have F13:=Lib.hid hb13;clear hb13))
   go_ret
   exact⟨rfl,BU.out.trans ((F11.out.trans (F13.out.mono F11.out.size)).mono BU.out.size)⟩
  ·clear E2
   go_enter Try.func6,Try.ntmps6
   go_upto_region 3 with(first
    |(go_at_call 10;(refine(GR.out _ BU.out).mono ?_);rintro e w1 ⟨rfl,hb1⟩;have F1:=Lib.hid hb1;clear hb1)
    |(go_at_call 18;(refine(LGf.out _).mono ?_);rintro e w2 ⟨rfl,rfl⟩))
   refine wp_region_held_drew (S:=fun x=>Below (w1).heap.size (w1) x) (by kernel_rfl) (below_drewN (Below.refl _ _) 1) (fun _=>?_)
   refine take_l 0 (v:=?_) rfl (by kernel_rfl) (by kernel_rfl) (by kernel_rfl) (fun _ _ _ h=>h) (Or.inl ⟨by rfl,?_⟩) (by first|exact BS.out|exact below_drewN (Below.refl _ _) 1) ?_;rotate_left
   ·intro w' hSw
    have z0:(w').cell? ⟨w.heap.size,0,none⟩=some (.int .i64 K0):=((NV.out.below' F1.out).below' hSw).cell_ rfl
    have z1:(w').cell? ⟨w.heap.size,1,none⟩=some (.int .u64 (N0:Int)):=((NV.out.below' F1.out).below' hSw).cell_ rfl
    have z2:(w').cell? ⟨w.heap.size,2,none⟩=some (.slice r0.1 r0.2.1 r0.2.2.1):=((NV.out.below' F1.out).below' hSw).cell_ rfl
    have z3:(w').cell? ⟨w.heap.size,3,none⟩=some (.slice B0 v0.length c0):=((NV.out.below' F1.out).below' hSw).cell_ rfl
    have y0:(w').cell? ⟨w.heap.size+1,0,none⟩=some (.int .i64 a):=((NL.out.below' F1.out).below' hSw).cell_ rfl
    have y1:(w').cell? ⟨w.heap.size+1,1,none⟩=some (.int .i64 b):=((NL.out.below' F1.out).below' hSw).cell_ rfl
    have y2:(w').cell? ⟨w.heap.size+1,2,none⟩=some (.int .i64 c):=((NL.out.below' F1.out).below' hSw).cell_ rfl
    have y3:(w').cell? ⟨w.heap.size+1,3,none⟩=some (.int .i64 d):=((NL.out.below' F1.out).below' hSw).cell_ rfl
    clear hSw
    go_simp
    all_goals with_reducible rfl
   try simp only[Act.put,List.setIfInBounds_toArray,List.set_cons_zero,List.set_cons_succ]
   refine take_l 1 (v:=?_) rfl (by kernel_rfl) (by kernel_rfl) (by kernel_rfl) (fun _ _ _ h=>h) (Or.inl ⟨by rfl,?_⟩) (by first|exact BS.out|exact below_drewN (Below.refl _ _) 1) ?_;rotate_left
   ·intro w' hSw
    have z0:(w').cell? ⟨w.heap.size,0,none⟩=some (.int .i64 K0):=((NV.out.below' F1.out).below' hSw).cell_ rfl
    have z1:(w').cell? ⟨w.heap.size,1,none⟩=some (.int .u64 (N0:Int)):=((NV.out.below' F1.out).below' hSw).cell_ rfl
    have z2:(w').cell? ⟨w.heap.size,2,none⟩=some (.slice r0.1 r0.2.1 r0.2.2.1):=((NV.out.below' F1.out).below' hSw).cell_ rfl
    have z3:(w').cell? ⟨w.heap.size,3,none⟩=some (.slice B0 v0.length c0):=((NV.out.below' F1.out).below' hSw).cell_ rfl
    have y0:(w').cell? ⟨w.heap.size+1,0,none⟩=some (.int .i64 a):=((NL.out.below' F1.out).below' hSw).cell_ rfl
    have y1:(w').cell? ⟨w.heap.size+1,1,none⟩=some (.int .i64 b):=((NL.out.below' F1.out).below' hSw).cell_ rfl
    have y2:(w').cell? ⟨w.heap.size+1,2,none⟩=some (.int .i64 c):=((NL.out.below' F1.out).below' hSw).cell_ rfl
    have y3:(w').cell? ⟨w.heap.size+1,3,none⟩=some (.int .i64 d):=((NL.out.below' F1.out).below' hSw).cell_ rfl
    clear hSw
    go_simp
    all_goals with_reducible rfl
   try simp only[Act.put,List.setIfInBounds_toArray,List.set_cons_zero,List.set_cons_succ]
   refine wpAnyH_ready (rs:=[2]) (by kernel_rfl) (by simp) ?_
   refine cons_l rfl (fun K0 hK=>?_) AllReadyH.nil
   go_simp
   (go_at_call 13;(refine(OW.out _).mono ?_);rintro e w3 ⟨rfl,hb3⟩)
   have BS:=Lib.hid (show Below w1.heap.size w1 w3 from(below_drewN (Below.refl _ _) 1).trans (hb3.mono (Nat.le_refl _)))
   clear hb3
   refine hK.out _ _ (by first|exact BS.out|exact below_drewN (Below.refl _ _) 1) (fun _=>?_)
   clear hK K0
   try simp only[Act.put,List.setIfInBounds_toArray,List.set_cons_zero,List.set_cons_succ]
   refine wpAnyH_ready (rs:=[3]) (by kernel_rfl) (by simp) ?_
   refine cons_l rfl (fun K0 hK=>?_) AllReadyH.nil
   go_simp
   (go_at_call 12;(refine(CW1.out _ (BU.out.trans ((F1.out.trans (BS.out.mono F1.out.size)).mono BU.out.size))).mono ?_);rintro e w4 ⟨hb4,A4,c4,rfl,hp4,hi4⟩)
   have B4':=Lib.hid (show Below w1.heap.size w1 w4 from BS.out.trans (hb4.mono BS.out.size))
   have BS:=Lib.hid B4'.out
   have P4:=Lib.hid hp4
   have I4:=Lib.hid hi4
   clear hb4 hp4 hi4
   refine hK.out _ _ (by first|exact BS.out|exact below_drewN (Below.refl _ _) 1) (fun _=>?_)
   clear hK K0
   try simp only[Act.put,List.setIfInBounds_toArray,List.set_cons_zero,List.set_cons_succ]
   refine take_l 4 (v:=?_) rfl (by kernel_rfl) (by kernel_rfl) (by kernel_rfl) (fun _ _ _ h=>h) (Or.inl ⟨by rfl,?_⟩) (by first|exact BS.out|exact below_drewN (Below.refl _ _) 1) ?_;rotate_left
   ·intro w' hSw
    clear hSw
    go_simp
    all_goals with_reducible rfl
   try simp only[Act.put,List.setIfInBounds_toArray,List.set_cons_zero,List.set_cons_succ]
   refine take_l 5 (v:=?_) rfl (by kernel_rfl) (by kernel_rfl) (by kernel_rfl) (fun _ _ _ h=>h) (Or.inl ⟨by rfl,?_⟩) (by first|exact BS.out|exact below_drewN (Below.refl _ _) 1) ?_;rotate_left
   ·intro w' hSw
    clear hSw
    go_simp
    all_goals with_reducible rfl
   try simp only[Act.put,List.setIfInBounds_toArray,List.set_cons_zero,List.set_cons_succ]
   refine take_l 6 (v:=?_) rfl (by kernel_rfl) (by kernel_rfl) (by kernel_rfl) (fun _ _ _ h=>h) (Or.inl ⟨by rfl,?_⟩) (by first|exact BS.out|exact below_drewN (Below.refl _ _) 1) ?_;rotate_left
   ·intro w' hSw
    clear hSw
    go_simp
    all_goals with_reducible rfl
   try simp only[Act.put,List.setIfInBounds_toArray,List.set_cons_zero,List.set_cons_succ]
   refine take_l 7 (v:=?_) rfl (by kernel_rfl) (by kernel_rfl) (by kernel_rfl) (fun _ _ _ h=>h) (Or.inl ⟨by rfl,?_⟩) (by first|exact BS.out|exact below_drewN (Below.refl _ _) 1) ?_;rotate_left
   ·intro w' hSw
    clear hSw
    go_simp
    all_goals with_reducible rfl
   try simp only[Act.put,List.setIfInBounds_toArray,List.set_cons_zero,List.set_cons_succ]
   refine take_l 8 (v:=?_) rfl (by kernel_rfl) (by kernel_rfl) (by kernel_rfl) (fun _ _ _ h=>h) (Or.inl ⟨by rfl,?_⟩) (by first|exact BS.out|exact below_drewN (Below.refl _ _) 1) ?_;rotate_left
   ·intro w' hSw
    clear hSw
    go_simp
    all_goals with_reducible rfl
   try simp only[Act.put,List.setIfInBounds_toArray,List.set_cons_zero,List.set_cons_succ]
   refine wpAnyH_done (by kernel_rfl) ?_ _
   have F4:=Lib.hid (show Below U.heap.size U w4 from F1.out.trans (BS.out.mono F1.out.size))
   have y0:(w4).cell? ⟨w.heap.size+1,0,none⟩=some (.int .i64 a):=(NL.out.below' F4.out).cell_ rfl
   have y1:(w4).cell? ⟨w.heap.size+1,1,none⟩=some (.int .i64 b):=(NL.out.below' F4.out).cell_ rfl
   have y2:(w4).cell? ⟨w.heap.size+1,2,none⟩=some (.int .i64 c):=(NL.out.below' F4.out).cell_ rfl
   have y3:(w4).cell? ⟨w.heap.size+1,3,none⟩=some (.int .i64 d):=(NL.out.below' F4.out).cell_ rfl
   go_upto_region 5 with(first
    |(go_at_call 13;(refine(OW.out _).mono ?_);rintro e w5 ⟨rfl,hb5⟩;have B5:=Lib.hid hb5;clear hb5)
    |(go_at_call 45;(refine(CR1.out _ _ _ (P4.out.below B5.out) (fun ad e=>Nat.lt_of_lt_of_le (I4.out ad e) B5.out.size)).mono ?_);rintro e w6 ⟨hb6,t6,rfl,hn6,ho6⟩;obtain⟨K6,N6,r6,B6_,c6,v6⟩:=t6;simp only[Tv.val,Tv.row];have B6:=Lib.hid hb6;have O6:=Lib.hid ho6;have D6:=Lib.hid hn6;clear hb6 ho6 hn6))
   have X6:=Lib.hid (below_one w6 (.cells #[.int .i64 K6,.int .u64 (N6:Int),.slice r6.1 r6.2.1 r6.2.2.1,.slice B6_ v6.length c6] 26))
   have F6:=Lib.hid (show Below U.heap.size U (w6.alloc (.cells #[.int .i64 K6,.int .u64 (N6:Int),.slice r6.1 r6.2.1 r6.2.2.1,.slice B6_ v6.length c6] 26)) from F4.out.trans ((B5.out.trans ((B6.out.trans (X6.out.mono B6.out.size)).mono B5.out.size)).mono F4.out.size))
   have NW:=Lib.hid (Bl.new_ w6 26 #[.int .i64 K6,.int .u64 (N6:Int),.slice r6.1 r6.2.1 r6.2.2.1,.slice B6_ v6.length c6])
   have OW6:=Lib.hid (O6.out.keep X6.out)
   have OV6:=Lib.hid ((OK0.out.keep BU.out).keep F6.out)
   obtain⟨q6,hq6⟩:∃q6,w6.heap.size=q6:=⟨_,rfl⟩
   rw[hq6] at NW ⊢
   clear X6
   generalize(w6.alloc (.cells #[.int .i64 K6,.int .u64 (N6:Int),.slice r6.1 r6.2.1 r6.2.2.1,.slice B6_ v6.length c6] 26))=u6 at *
   clear hq6
   have z0:(u6).cell? ⟨w.heap.size,0,none⟩=some (.int .i64 K0):=(NV.out.below' F6.out).cell_ rfl
   have z1:(u6).cell? ⟨w.heap.size,1,none⟩=some (.int .u64 (N0:Int)):=(NV.out.below' F6.out).cell_ rfl
   have z2:(u6).cell? ⟨w.heap.size,2,none⟩=some (.slice r0.1 r0.2.1 r0.2.2.1):=(NV.out.below' F6.out).cell_ rfl
   have z3:(u6).cell? ⟨w.heap.size,3,none⟩=some (.slice B0 v0.length c0):=(NV.out.below' F6.out).cell_ rfl
   have y0:(u6).cell? ⟨w.heap.size+1,0,none⟩=some (.int .i64 a):=(NL.out.below' F6.out).cell_ rfl
   have y1:(u6).cell? ⟨w.heap.size+1,1,none⟩=some (.int .i64 b):=(NL.out.below' F6.out).cell_ rfl
   have y2:(u6).cell? ⟨w.heap.size+1,2,none⟩=some (.int .i64 c):=(NL.out.below' F6.out).cell_ rfl
   have y3:(u6).cell? ⟨w.heap.size+1,3,none⟩=some (.int .i64 d):=(NL.out.below' F6.out).cell_ rfl
   have x0:(u6).cell? ⟨q6,0,none⟩=some (.int .i64 K6):=(NW.out).cell_ rfl
   have x1:(u6).cell? ⟨q6,1,none⟩=some (.int .u64 (N6:Int)):=(NW.out).cell_ rfl
   have x2:(u6).cell? ⟨q6,2,none⟩=some (.slice r6.1 r6.2.1 r6.2.2.1):=(NW.out).cell_ rfl
   have x3:(u6).cell? ⟨q6,3,none⟩=some (.slice B6_ v6.length c6):=(NW.out).cell_ rfl
   have CS:=Lib.hid (show Calls _ _ #[.agg #[.int .i64 K0,.int .u64 (N0:Int),.slice r0.1 r0.2.1 r0.2.2.1,.slice B0 v0.length c0],.agg #[.int .i64 K6,.int .u64 (N6:Int),.slice r6.1 r6.2.1 r6.2.2.1,.slice B6_ v6.length c6]] u6 (SmQ true u6) from by
    have h:=RSame_any OV6.out OW6.out _ (Below.refl _ _)
    rw[HV0.out,D6.out,SV.out] at h;exact h)
   go_upto_region 7 with(first
    |(go_at_call 22;(refine CS.out.mono ?_);rintro e w7 ⟨rfl,hb7⟩;have B7:=Lib.hid hb7;clear hb7))
   have F7:=Lib.hid (show Below U.heap.size U w7 from F6.out.trans (B7.out.mono F6.out.size))
   have y0:(w7).cell? ⟨w.heap.size+1,0,none⟩=some (.int .i64 a):=(NL.out.below' F7.out).cell_ rfl
   have y1:(w7).cell? ⟨w.heap.size+1,1,none⟩=some (.int .i64 b):=(NL.out.below' F7.out).cell_ rfl
   have y2:(w7).cell? ⟨w.heap.size+1,2,none⟩=some (.int .i64 c):=(NL.out.below' F7.out).cell_ rfl
   have y3:(w7).cell? ⟨w.heap.size+1,3,none⟩=some (.int .i64 d):=(NL.out.below' F7.out).cell_ rfl
   go_upto_region 8 with(first
    |(go_at_call 13;(refine(OW.out _).mono ?_);rintro e w8 ⟨rfl,hb8⟩;have F8:=Lib.hid (F7.out.trans (hb8.mono F7.out.size));clear hb8)
    |(go_at_call 45;(refine(CR2.out _ (BU.out.trans (F8.out.mono BU.out.size))).mono ?_);rintro e w9 ⟨hb9,t9,rfl,hn9,ho9⟩;obtain⟨K9,N9,r9,B9_,c9,v9⟩:=t9;simp only[Tv.val,Tv.row];have B9:=Lib.hid hb9;have O9:=Lib.hid ho9;have D9:=Lib.hid hn9;clear hb9 ho9 hn9))
   have X9:=Lib.hid (below_one w9 (.cells #[.int .i64 K9,.int .u64 (N9:Int),.slice r9.1 r9.2.1 r9.2.2.1,.slice B9_ v9.length c9] 26))
   have F9:=Lib.hid (show Below U.heap.size U (w9.alloc (.cells #[.int .i64 K9,.int .u64 (N9:Int),.slice r9.1 r9.2.1 r9.2.2.1,.slice B9_ v9.length c9] 26)) from F8.out.trans ((B9.out.trans (X9.out.mono B9.out.size)).mono F8.out.size))
   have NX:=Lib.hid (Bl.new_ w9 26 #[.int .i64 K9,.int .u64 (N9:Int),.slice r9.1 r9.2.1 r9.2.2.1,.slice B9_ v9.length c9])
   have OX9:=Lib.hid (O9.out.keep X9.out)
   obtain⟨q9,hq9⟩:∃q9,w9.heap.size=q9:=⟨_,rfl⟩
   rw[hq9] at NX ⊢
   clear X9
   generalize(w9.alloc (.cells #[.int .i64 K9,.int .u64 (N9:Int),.slice r9.1 r9.2.1 r9.2.2.1,.slice B9_ v9.length c9] 26))=u9 at *
   clear hq9
   refine wp_region_held_drew (S:=fun x=>Below (u9).heap.size (u9) x) (by kernel_rfl) (below_drewN (Below.refl _ _) 1) (fun _=>?_)
   refine take_l 0 (v:=?_) rfl (by kernel_rfl) (by kernel_rfl) (by kernel_rfl) (fun _ _ _ h=>h) (Or.inl ⟨by rfl,?_⟩) (by first|exact BT.out|exact below_drewN (Below.refl _ _) 1) ?_;rotate_left
   ·intro w' hSw
    have z0:(w').cell? ⟨q9,0,none⟩=some (.int .i64 K9):=(NX.out.below' hSw).cell_ rfl
    have z1:(w').cell? ⟨q9,1,none⟩=some (.int .u64 (N9:Int)):=(NX.out.below' hSw).cell_ rfl
    have z2:(w').cell? ⟨q9,2,none⟩=some (.slice r9.1 r9.2.1 r9.2.2.1):=(NX.out.below' hSw).cell_ rfl
    have z3:(w').cell? ⟨q9,3,none⟩=some (.slice B9_ v9.length c9):=(NX.out.below' hSw).cell_ rfl
    have y0:(w').cell? ⟨w.heap.size+1,0,none⟩=some (.int .i64 a):=((NL.out.below' F9.out).below' hSw).cell_ rfl
    have y1:(w').cell? ⟨w.heap.size+1,1,none⟩=some (.int .i64 b):=((NL.out.below' F9.out).below' hSw).cell_ rfl
    have y2:(w').cell? ⟨w.heap.size+1,2,none⟩=some (.int .i64 c):=((NL.out.below' F9.out).below' hSw).cell_ rfl
    have y3:(w').cell? ⟨w.heap.size+1,3,none⟩=some (.int .i64 d):=((NL.out.below' F9.out).below' hSw).cell_ rfl
    clear hSw
    go_simp
    all_goals with_reducible rfl
   try simp only[Act.put,List.setIfInBounds_toArray,List.set_cons_zero,List.set_cons_succ]
   refine take_l 1 (v:=?_) rfl (by kernel_rfl) (by kernel_rfl) (by kernel_rfl) (fun _ _ _ h=>h) (Or.inl ⟨by rfl,?_⟩) (by first|exact BT.out|exact below_drewN (Below.refl _ _) 1) ?_;rotate_left
   ·intro w' hSw
    have z0:(w').cell? ⟨q9,0,none⟩=some (.int .i64 K9):=(NX.out.below' hSw).cell_ rfl
    have z1:(w').cell? ⟨q9,1,none⟩=some (.int .u64 (N9:Int)):=(NX.out.below' hSw).cell_ rfl
    have z2:(w').cell? ⟨q9,2,none⟩=some (.slice r9.1 r9.2.1 r9.2.2.1):=(NX.out.below' hSw).cell_ rfl
    have z3:(w').cell? ⟨q9,3,none⟩=some (.slice B9_ v9.length c9):=(NX.out.below' hSw).cell_ rfl
    have y0:(w').cell? ⟨w.heap.size+1,0,none⟩=some (.int .i64 a):=((NL.out.below' F9.out).below' hSw).cell_ rfl
    have y1:(w').cell? ⟨w.heap.size+1,1,none⟩=some (.int .i64 b):=((NL.out.below' F9.out).below' hSw).cell_ rfl
    have y2:(w').cell? ⟨w.heap.size+1,2,none⟩=some (.int .i64 c):=((NL.out.below' F9.out).below' hSw).cell_ rfl
    have y3:(w').cell? ⟨w.heap.size+1,3,none⟩=some (.int .i64 d):=((NL.out.below' F9.out).below' hSw).cell_ rfl
    clear hSw
    go_simp
    all_goals with_reducible rfl
   try simp only[Act.put,List.setIfInBounds_toArray,List.set_cons_zero,List.set_cons_succ]
   refine wpAnyH_ready (rs:=[2]) (by kernel_rfl) (by simp) ?_
   refine cons_l rfl (fun K0 hK=>?_) AllReadyH.nil
   go_simp
   (go_at_call 13;(refine(OW.out _).mono ?_);rintro e w10 ⟨rfl,hb10⟩)
   have BT:=Lib.hid (show Below u9.heap.size u9 w10 from(below_drewN (Below.refl _ _) 1).trans (hb10.mono (Nat.le_refl _)))
   clear hb10
   refine hK.out _ _ (by first|exact BT.out|exact below_drewN (Below.refl _ _) 1) (fun _=>?_)
   clear hK K0
   try simp only[Act.put,List.setIfInBounds_toArray,List.set_cons_zero,List.set_cons_succ]
   refine wpAnyH_ready (rs:=[3]) (by kernel_rfl) (by simp) ?_
   refine cons_l rfl (fun K0 hK=>?_) AllReadyH.nil
   go_simp
   (go_at_call 12;(refine(CW2.out (.mk K9 N9 r9 B9_ c9 v9) _ (OX9.out.keep BT.out) D9.out).mono ?_);rintro e w11 ⟨hb11,A11,c11,rfl,hp11,hi11⟩)
   have B11':=Lib.hid (show Below u9.heap.size u9 w11 from BT.out.trans (hb11.mono BT.out.size))
   have BT:=Lib.hid B11'.out
   have P11:=Lib.hid hp11
   clear hb11 hp11 hi11
   refine hK.out _ _ (by first|exact BT.out|exact below_drewN (Below.refl _ _) 1) (fun _=>?_)
   clear hK K0
   try simp only[Act.put,List.setIfInBounds_toArray,List.set_cons_zero,List.set_cons_succ]
   refine take_l 4 (v:=?_) rfl (by kernel_rfl) (by kernel_rfl) (by kernel_rfl) (fun _ _ _ h=>h) (Or.inl ⟨by rfl,?_⟩) (by first|exact BT.out|exact below_drewN (Below.refl _ _) 1) ?_;rotate_left
   ·intro w' hSw
    clear hSw
    go_simp
    all_goals with_reducible rfl
   try simp only[Act.put,List.setIfInBounds_toArray,List.set_cons_zero,List.set_cons_succ]
   refine take_l 5 (v:=?_) rfl (by kernel_rfl) (by kernel_rfl) (by kernel_rfl) (fun _ _ _ h=>h) (Or.inl ⟨by rfl,?_⟩) (by first|exact BT.out|exact below_drewN (Below.refl _ _) 1) ?_;rotate_left
   ·intro w' hSw
    clear hSw
    go_simp
    all_goals with_reducible rfl
   try simp only[Act.put,List.setIfInBounds_toArray,List.set_cons_zero,List.set_cons_succ]
   refine take_l 6 (v:=?_) rfl (by kernel_rfl) (by kernel_rfl) (by kernel_rfl) (fun _ _ _ h=>h) (Or.inl ⟨by rfl,?_⟩) (by first|exact BT.out|exact below_drewN (Below.refl _ _) 1) ?_;rotate_left
   ·intro w' hSw
    clear hSw
    go_simp
    all_goals with_reducible rfl
   try simp only[Act.put,List.setIfInBounds_toArray,List.set_cons_zero,List.set_cons_succ]
   refine take_l 7 (v:=?_) rfl (by kernel_rfl) (by kernel_rfl) (by kernel_rfl) (fun _ _ _ h=>h) (Or.inl ⟨by rfl,?_⟩) (by first|exact BT.out|exact below_drewN (Below.refl _ _) 1) ?_;rotate_left
   ·intro w' hSw
    clear hSw
    go_simp
    all_goals with_reducible rfl
   try simp only[Act.put,List.setIfInBounds_toArray,List.set_cons_zero,List.set_cons_succ]
   refine take_l 8 (v:=?_) rfl (by kernel_rfl) (by kernel_rfl) (by kernel_rfl) (fun _ _ _ h=>h) (Or.inl ⟨by rfl,?_⟩) (by first|exact BT.out|exact below_drewN (Below.refl _ _) 1) ?_;rotate_left
   ·intro w' hSw
    clear hSw
    go_simp
    all_goals with_reducible rfl
   try simp only[Act.put,List.setIfInBounds_toArray,List.set_cons_zero,List.set_cons_succ]
   refine wpAnyH_done (by kernel_rfl) ?_ _
   have F11:=Lib.hid (show Below U.heap.size U w11 from F9.out.trans (BT.out.mono F9.out.size))
   go_wp2_with (first
    |(go_at_call 11;(refine(KN.out _).mono ?_);rintro e w13 ⟨rfl,hb13⟩;have F13:=Lib.hid hb13;clear hb13))
   go_ret
   exact⟨rfl,BU.out.trans ((F11.out.trans (F13.out.mono F11.out.size)).mono BU.out.size)⟩
 ·clear E1
  by_cases h2:y2=0
  ·obtain⟨rfl,e2⟩:=E2 h2
   have L2l:=Lib.hid e2
   subst h2
   clear E2 e2
   go_enter Try.func6,Try.ntmps6
   go_upto_region 3 with(first
    |(go_at_call 10;(refine(GR.out _ BU.out).mono ?_);rintro e w1 ⟨rfl,hb1⟩;have F1:=Lib.hid hb1;clear hb1)
    |(go_at_call 18;(refine(LGf.out _).mono ?_);rintro e w2 ⟨rfl,rfl⟩))
   refine wp_region_held_drew (S:=fun x=>Below (w1).heap.size (w1) x) (by kernel_rfl) (below_drewN (Below.refl _ _) 1) (fun _=>?_)
   refine take_l 0 (v:=?_) rfl (by kernel_rfl) (by kernel_rfl) (by kernel_rfl) (fun _ _ _ h=>h) (Or.inl ⟨by rfl,?_⟩) (by first|exact BS.out|exact below_drewN (Below.refl _ _) 1) ?_;rotate_left
   ·intro w' hSw
    have z0:(w').cell? ⟨w.heap.size,0,none⟩=some (.int .i64 K0):=((NV.out.below' F1.out).below' hSw).cell_ rfl
    have z1:(w').cell? ⟨w.heap.size,1,none⟩=some (.int .u64 (N0:Int)):=((NV.out.below' F1.out).below' hSw).cell_ rfl
    have z2:(w').cell? ⟨w.heap.size,2,none⟩=some (.slice r0.1 r0.2.1 r0.2.2.1):=((NV.out.below' F1.out).below' hSw).cell_ rfl
    have z3:(w').cell? ⟨w.heap.size,3,none⟩=some (.slice B0 v0.length c0):=((NV.out.below' F1.out).below' hSw).cell_ rfl
    have y0:(w').cell? ⟨w.heap.size+1,0,none⟩=some (.int .i64 a):=((NL.out.below' F1.out).below' hSw).cell_ rfl
    have y1:(w').cell? ⟨w.heap.size+1,1,none⟩=some (.int .i64 b):=((NL.out.below' F1.out).below' hSw).cell_ rfl
    have y2:(w').cell? ⟨w.heap.size+1,2,none⟩=some (.int .i64 c):=((NL.out.below' F1.out).below' hSw).cell_ rfl
    have y3:(w').cell? ⟨w.heap.size+1,3,none⟩=some (.int .i64 d):=((NL.out.below' F1.out).below' hSw).cell_ rfl
    clear hSw
    go_simp
    all_goals with_reducible rfl
   try simp only[Act.put,List.setIfInBounds_toArray,List.set_cons_zero,List.set_cons_succ]
   refine take_l 1 (v:=?_) rfl (by kernel_rfl) (by kernel_rfl) (by kernel_rfl) (fun _ _ _ h=>h) (Or.inl ⟨by rfl,?_⟩) (by first|exact BS.out|exact below_drewN (Below.refl _ _) 1) ?_;rotate_left
   ·intro w' hSw
    have z0:(w').cell? ⟨w.heap.size,0,none⟩=some (.int .i64 K0):=((NV.out.below' F1.out).below' hSw).cell_ rfl
    have z1:(w').cell? ⟨w.heap.size,1,none⟩=some (.int .u64 (N0:Int)):=((NV.out.below' F1.out).below' hSw).cell_ rfl
    have z2:(w').cell? ⟨w.heap.size,2,none⟩=some (.slice r0.1 r0.2.1 r0.2.2.1):=((NV.out.below' F1.out).below' hSw).cell_ rfl
    have z3:(w').cell? ⟨w.heap.size,3,none⟩=some (.slice B0 v0.length c0):=((NV.out.below' F1.out).below' hSw).cell_ rfl
    have y0:(w').cell? ⟨w.heap.size+1,0,none⟩=some (.int .i64 a):=((NL.out.below' F1.out).below' hSw).cell_ rfl
    have y1:(w').cell? ⟨w.heap.size+1,1,none⟩=some (.int .i64 b):=((NL.out.below' F1.out).below' hSw).cell_ rfl
    have y2:(w').cell? ⟨w.heap.size+1,2,none⟩=some (.int .i64 c):=((NL.out.below' F1.out).below' hSw).cell_ rfl
    have y3:(w').cell? ⟨w.heap.size+1,3,none⟩=some (.int .i64 d):=((NL.out.below' F1.out).below' hSw).cell_ rfl
    clear hSw
    go_simp
    all_goals with_reducible rfl
   try simp only[Act.put,List.setIfInBounds_toArray,List.set_cons_zero,List.set_cons_succ]
   refine wpAnyH_ready (rs:=[2]) (by kernel_rfl) (by simp) ?_
   refine cons_l rfl (fun K0 hK=>?_) AllReadyH.nil
   go_simp
   (go_at_call 13;(refine(OW.out _).mono ?_);rintro e w3 ⟨rfl,hb3⟩)
   have BS:=Lib.hid (show Below w1.heap.size w1 w3 from(below_drewN (Below.refl _ _) 1).trans (hb3.mono (Nat.le_refl _)))
   clear hb3
   refine hK.out _ _ (by first|exact BS.out|exact below_drewN (Below.refl _ _) 1) (fun _=>?_)
   clear hK K0
   try simp only[Act.put,List.setIfInBounds_toArray,List.set_cons_zero,List.set_cons_succ]
   refine wpAnyH_ready (rs:=[3]) (by kernel_rfl) (by simp) ?_
   refine cons_l rfl (fun K0 hK=>?_) AllReadyH.nil
   go_simp
   (go_at_call 12;(refine(CW1.out _ (BU.out.trans ((F1.out.trans (BS.out.mono F1.out.size)).mono BU.out.size))).mono ?_);rintro e w4 ⟨hb4,A4,c4,rfl,hp4,hi4⟩)
   have B4':=Lib.hid (show Below w1.heap.size w1 w4 from BS.out.trans (hb4.mono BS.out.size))
   have BS:=Lib.hid B4'.out
   have P4:=Lib.hid hp4
   have I4:=Lib.hid hi4
   clear hb4 hp4 hi4
   refine hK.out _ _ (by first|exact BS.out|exact below_drewN (Below.refl _ _) 1) (fun _=>?_)
   clear hK K0
   try simp only[Act.put,List.setIfInBounds_toArray,List.set_cons_zero,List.set_cons_succ]
   refine take_l 4 (v:=?_) rfl (by kernel_rfl) (by kernel_rfl) (by kernel_rfl) (fun _ _ _ h=>h) (Or.inl ⟨by rfl,?_⟩) (by first|exact BS.out|exact below_drewN (Below.refl _ _) 1) ?_;rotate_left
   ·intro w' hSw
    clear hSw
    go_simp
    all_goals with_reducible rfl
   try simp only[Act.put,List.setIfInBounds_toArray,List.set_cons_zero,List.set_cons_succ]
   refine take_l 5 (v:=?_) rfl (by kernel_rfl) (by kernel_rfl) (by kernel_rfl) (fun _ _ _ h=>h) (Or.inl ⟨by rfl,?_⟩) (by first|exact BS.out|exact below_drewN (Below.refl _ _) 1) ?_;rotate_left
   ·intro w' hSw
    clear hSw
    go_simp
    all_goals with_reducible rfl
   try simp only[Act.put,List.setIfInBounds_toArray,List.set_cons_zero,List.set_cons_succ]
   refine take_l 6 (v:=?_) rfl (by kernel_rfl) (by kernel_rfl) (by kernel_rfl) (fun _ _ _ h=>h) (Or.inl ⟨by rfl,?_⟩) (by first|exact BS.out|exact below_drewN (Below.refl _ _) 1) ?_;rotate_left
   ·intro w' hSw
    clear hSw
    go_simp
    all_goals with_reducible rfl
   try simp only[Act.put,List.setIfInBounds_toArray,List.set_cons_zero,List.set_cons_succ]
   refine take_l 7 (v:=?_) rfl (by kernel_rfl) (by kernel_rfl) (by kernel_rfl) (fun _ _ _ h=>h) (Or.inl ⟨by rfl,?_⟩) (by first|exact BS.out|exact below_drewN (Below.refl _ _) 1) ?_;rotate_left
   ·intro w' hSw
    clear hSw
    go_simp
    all_goals with_reducible rfl
   try simp only[Act.put,List.setIfInBounds_toArray,List.set_cons_zero,List.set_cons_succ]
   refine take_l 8 (v:=?_) rfl (by kernel_rfl) (by kernel_rfl) (by kernel_rfl) (fun _ _ _ h=>h) (Or.inl ⟨by rfl,?_⟩) (by first|exact BS.out|exact below_drewN (Below.refl _ _) 1) ?_;rotate_left
   ·intro w' hSw
    clear hSw
    go_simp
    all_goals with_reducible rfl
   try simp only[Act.put,List.setIfInBounds_toArray,List.set_cons_zero,List.set_cons_succ]
   refine wpAnyH_done (by kernel_rfl) ?_ _
   have F4:=Lib.hid (show Below U.heap.size U w4 from F1.out.trans (BS.out.mono F1.out.size))
   have y0:(w4).cell? ⟨w.heap.size+1,0,none⟩=some (.int .i64 a):=(NL.out.below' F4.out).cell_ rfl
   have y1:(w4).cell? ⟨w.heap.size+1,1,none⟩=some (.int .i64 b):=(NL.out.below' F4.out).cell_ rfl
   have y2:(w4).cell? ⟨w.heap.size+1,2,none⟩=some (.int .i64 c):=(NL.out.below' F4.out).cell_ rfl
   have y3:(w4).cell? ⟨w.heap.size+1,3,none⟩=some (.int .i64 d):=(NL.out.below' F4.out).cell_ rfl
   go_upto_region 5 with(first
    |(go_at_call 13;(refine(OW.out _).mono ?_);rintro e w5 ⟨rfl,hb5⟩;have B5:=Lib.hid hb5;clear hb5)
    |(go_at_call 45;(refine(CR1.out _ _ _ (P4.out.below B5.out) (fun ad e=>Nat.lt_of_lt_of_le (I4.out ad e) B5.out.size)).mono ?_);rintro e w6 ⟨hb6,t6,rfl,hn6,ho6⟩;obtain⟨K6,N6,r6,B6_,c6,v6⟩:=t6;simp only[Tv.val,Tv.row];have B6:=Lib.hid hb6;have O6:=Lib.hid ho6;have D6:=Lib.hid hn6;clear hb6 ho6 hn6))
   have X6:=Lib.hid (below_one w6 (.cells #[.int .i64 K6,.int .u64 (N6:Int),.slice r6.1 r6.2.1 r6.2.2.1,.slice B6_ v6.length c6] 26))
   have F6:=Lib.hid (show Below U.heap.size U (w6.alloc (.cells #[.int .i64 K6,.int .u64 (N6:Int),.slice r6.1 r6.2.1 r6.2.2.1,.slice B6_ v6.length c6] 26)) from F4.out.trans ((B5.out.trans ((B6.out.trans (X6.out.mono B6.out.size)).mono B5.out.size)).mono F4.out.size))
   have NW:=Lib.hid (Bl.new_ w6 26 #[.int .i64 K6,.int .u64 (N6:Int),.slice r6.1 r6.2.1 r6.2.2.1,.slice B6_ v6.length c6])
   have OW6:=Lib.hid (O6.out.keep X6.out)
   have OV6:=Lib.hid ((OK0.out.keep BU.out).keep F6.out)
   obtain⟨q6,hq6⟩:∃q6,w6.heap.size=q6:=⟨_,rfl⟩
   rw[hq6] at NW ⊢
   clear X6
   generalize(w6.alloc (.cells #[.int .i64 K6,.int .u64 (N6:Int),.slice r6.1 r6.2.1 r6.2.2.1,.slice B6_ v6.length c6] 26))=u6 at *
   clear hq6
   have z0:(u6).cell? ⟨w.heap.size,0,none⟩=some (.int .i64 K0):=(NV.out.below' F6.out).cell_ rfl
   have z1:(u6).cell? ⟨w.heap.size,1,none⟩=some (.int .u64 (N0:Int)):=(NV.out.below' F6.out).cell_ rfl
   have z2:(u6).cell? ⟨w.heap.size,2,none⟩=some (.slice r0.1 r0.2.1 r0.2.2.1):=(NV.out.below' F6.out).cell_ rfl
   have z3:(u6).cell? ⟨w.heap.size,3,none⟩=some (.slice B0 v0.length c0):=(NV.out.below' F6.out).cell_ rfl
   have y0:(u6).cell? ⟨w.heap.size+1,0,none⟩=some (.int .i64 a):=(NL.out.below' F6.out).cell_ rfl
   have y1:(u6).cell? ⟨w.heap.size+1,1,none⟩=some (.int .i64 b):=(NL.out.below' F6.out).cell_ rfl
   have y2:(u6).cell? ⟨w.heap.size+1,2,none⟩=some (.int .i64 c):=(NL.out.below' F6.out).cell_ rfl
   have y3:(u6).cell? ⟨w.heap.size+1,3,none⟩=some (.int .i64 d):=(NL.out.below' F6.out).cell_ rfl
   have x0:(u6).cell? ⟨q6,0,none⟩=some (.int .i64 K6):=(NW.out).cell_ rfl
   have x1:(u6).cell? ⟨q6,1,none⟩=some (.int .u64 (N6:Int)):=(NW.out).cell_ rfl
   have x2:(u6).cell? ⟨q6,2,none⟩=some (.slice r6.1 r6.2.1 r6.2.2.1):=(NW.out).cell_ rfl
   have x3:(u6).cell? ⟨q6,3,none⟩=some (.slice B6_ v6.length c6):=(NW.out).cell_ rfl
   go_upto_region 7 with(first
    |(fail))
   have F7:=F6
   go_upto_region 8 with(first
    |(go_at_call 13;(refine(OW.out _).mono ?_);rintro e w8 ⟨rfl,hb8⟩;have F8:=Lib.hid (F7.out.trans (hb8.mono F7.out.size));clear hb8)
    |(go_at_call 45;(refine(CR2.out _ (BU.out.trans (F8.out.mono BU.out.size))).mono ?_);rintro e w9 ⟨hb9,t9,rfl,hn9,ho9⟩;obtain⟨K9,N9,r9,B9_,c9,v9⟩:=t9;simp only[Tv.val,Tv.row];have B9:=Lib.hid hb9;have O9:=Lib.hid ho9;have D9:=Lib.hid hn9;clear hb9 ho9 hn9))
   have X9:=Lib.hid (below_one w9 (.cells #[.int .i64 K9,.int .u64 (N9:Int),.slice r9.1 r9.2.1 r9.2.2.1,.slice B9_ v9.length c9] 26))
   have F9:=Lib.hid (show Below U.heap.size U (w9.alloc (.cells #[.int .i64 K9,.int .u64 (N9:Int),.slice r9.1 r9.2.1 r9.2.2.1,.slice B9_ v9.length c9] 26)) from F8.out.trans ((B9.out.trans (X9.out.mono B9.out.size)).mono F8.out.size))
   have NX:=Lib.hid (Bl.new_ w9 26 #[.int .i64 K9,.int .u64 (N9:Int),.slice r9.1 r9.2.1 r9.2.2.1,.slice B9_ v9.length c9])
   have OX9:=Lib.hid (O9.out.keep X9.out)
   obtain⟨q9,hq9⟩:∃q9,w9.heap.size=q9:=⟨_,rfl⟩
   rw[hq9] at NX ⊢
   clear X9
   generalize(w9.alloc (.cells #[.int .i64 K9,.int .u64 (N9:Int),.slice r9.1 r9.2.1 r9.2.2.1,.slice B9_ v9.length c9] 26))=u9 at *
   clear hq9
   refine wp_region_held_drew (S:=fun x=>Below (u9).heap.size (u9) x) (by kernel_rfl) (below_drewN (Below.refl _ _) 1) (fun _=>?_)
   refine take_l 0 (v:=?_) rfl (by kernel_rfl) (by kernel_rfl) (by kernel_rfl) (fun _ _ _ h=>h) (Or.inl ⟨by rfl,?_⟩) (by first|exact BT.out|exact below_drewN (Below.refl _ _) 1) ?_;rotate_left
   ·intro w' hSw
    have z0:(w').cell? ⟨q9,0,none⟩=some (.int .i64 K9):=(NX.out.below' hSw).cell_ rfl
    have z1:(w').cell? ⟨q9,1,none⟩=some (.int .u64 (N9:Int)):=(NX.out.below' hSw).cell_ rfl
    have z2:(w').cell? ⟨q9,2,none⟩=some (.slice r9.1 r9.2.1 r9.2.2.1):=(NX.out.below' hSw).cell_ rfl
    have z3:(w').cell? ⟨q9,3,none⟩=some (.slice B9_ v9.length c9):=(NX.out.below' hSw).cell_ rfl
    have y0:(w').cell? ⟨w.heap.size+1,0,none⟩=some (.int .i64 a):=((NL.out.below' F9.out).below' hSw).cell_ rfl
    have y1:(w').cell? ⟨w.heap.size+1,1,none⟩=some (.int .i64 b):=((NL.out.below' F9.out).below' hSw).cell_ rfl
    have y2:(w').cell? ⟨w.heap.size+1,2,none⟩=some (.int .i64 c):=((NL.out.below' F9.out).below' hSw).cell_ rfl
    have y3:(w').cell? ⟨w.heap.size+1,3,none⟩=some (.int .i64 d):=((NL.out.below' F9.out).below' hSw).cell_ rfl
    clear hSw
    go_simp
    all_goals with_reducible rfl
   try simp only[Act.put,List.setIfInBounds_toArray,List.set_cons_zero,List.set_cons_succ]
   refine take_l 1 (v:=?_) rfl (by kernel_rfl) (by kernel_rfl) (by kernel_rfl) (fun _ _ _ h=>h) (Or.inl ⟨by rfl,?_⟩) (by first|exact BT.out|exact below_drewN (Below.refl _ _) 1) ?_;rotate_left
   ·intro w' hSw
    have z0:(w').cell? ⟨q9,0,none⟩=some (.int .i64 K9):=(NX.out.below' hSw).cell_ rfl
    have z1:(w').cell? ⟨q9,1,none⟩=some (.int .u64 (N9:Int)):=(NX.out.below' hSw).cell_ rfl
    have z2:(w').cell? ⟨q9,2,none⟩=some (.slice r9.1 r9.2.1 r9.2.2.1):=(NX.out.below' hSw).cell_ rfl
    have z3:(w').cell? ⟨q9,3,none⟩=some (.slice B9_ v9.length c9):=(NX.out.below' hSw).cell_ rfl
    have y0:(w').cell? ⟨w.heap.size+1,0,none⟩=some (.int .i64 a):=((NL.out.below' F9.out).below' hSw).cell_ rfl
    have y1:(w').cell? ⟨w.heap.size+1,1,none⟩=some (.int .i64 b):=((NL.out.below' F9.out).below' hSw).cell_ rfl
    have y2:(w').cell? ⟨w.heap.size+1,2,none⟩=some (.int .i64 c):=((NL.out.below' F9.out).below' hSw).cell_ rfl
    have y3:(w').cell? ⟨w.heap.size+1,3,none⟩=some (.int .i64 d):=((NL.out.below' F9.out).below' hSw).cell_ rfl
    clear hSw
    go_simp
    all_goals with_reducible rfl
   try simp only[Act.put,List.setIfInBounds_toArray,List.set_cons_zero,List.set_cons_succ]
   refine wpAnyH_ready (rs:=[2]) (by kernel_rfl) (by simp) ?_
   refine cons_l rfl (fun K0 hK=>?_) AllReadyH.nil
   go_simp
   (go_at_call 13;(refine(OW.out _).mono ?_);rintro e w10 ⟨rfl,hb10⟩)
   have BT:=Lib.hid (show Below u9.heap.size u9 w10 from(below_drewN (Below.refl _ _) 1).trans (hb10.mono (Nat.le_refl _)))
   clear hb10
   refine hK.out _ _ (by first|exact BT.out|exact below_drewN (Below.refl _ _) 1) (fun _=>?_)
   clear hK K0
   try simp only[Act.put,List.setIfInBounds_toArray,List.set_cons_zero,List.set_cons_succ]
   refine wpAnyH_ready (rs:=[3]) (by kernel_rfl) (by simp) ?_
   refine cons_l rfl (fun K0 hK=>?_) AllReadyH.nil
   go_simp
   (go_at_call 12;(refine(CW2.out (.mk K9 N9 r9 B9_ c9 v9) _ (OX9.out.keep BT.out) D9.out).mono ?_);rintro e w11 ⟨hb11,A11,c11,rfl,hp11,hi11⟩)
   have B11':=Lib.hid (show Below u9.heap.size u9 w11 from BT.out.trans (hb11.mono BT.out.size))
   have BT:=Lib.hid B11'.out
   have P11:=Lib.hid hp11
   clear hb11 hp11 hi11
   refine hK.out _ _ (by first|exact BT.out|exact below_drewN (Below.refl _ _) 1) (fun _=>?_)
   clear hK K0
   try simp only[Act.put,List.setIfInBounds_toArray,List.set_cons_zero,List.set_cons_succ]
   refine take_l 4 (v:=?_) rfl (by kernel_rfl) (by kernel_rfl) (by kernel_rfl) (fun _ _ _ h=>h) (Or.inl ⟨by rfl,?_⟩) (by first|exact BT.out|exact below_drewN (Below.refl _ _) 1) ?_;rotate_left
   ·intro w' hSw
    clear hSw
    go_simp
    all_goals with_reducible rfl
   try simp only[Act.put,List.setIfInBounds_toArray,List.set_cons_zero,List.set_cons_succ]
   refine take_l 5 (v:=?_) rfl (by kernel_rfl) (by kernel_rfl) (by kernel_rfl) (fun _ _ _ h=>h) (Or.inl ⟨by rfl,?_⟩) (by first|exact BT.out|exact below_drewN (Below.refl _ _) 1) ?_;rotate_left
   ·intro w' hSw
    clear hSw
    go_simp
    all_goals with_reducible rfl
   try simp only[Act.put,List.setIfInBounds_toArray,List.set_cons_zero,List.set_cons_succ]
   refine take_l 6 (v:=?_) rfl (by kernel_rfl) (by kernel_rfl) (by kernel_rfl) (fun _ _ _ h=>h) (Or.inl ⟨by rfl,?_⟩) (by first|exact BT.out|exact below_drewN (Below.refl _ _) 1) ?_;rotate_left
   ·intro w' hSw
    clear hSw
    go_simp
    all_goals with_reducible rfl
   try simp only[Act.put,List.setIfInBounds_toArray,List.set_cons_zero,List.set_cons_succ]
   refine take_l 7 (v:=?_) rfl (by kernel_rfl) (by kernel_rfl) (by kernel_rfl) (fun _ _ _ h=>h) (Or.inl ⟨by rfl,?_⟩) (by first|exact BT.out|exact below_drewN (Below.refl _ _) 1) ?_;rotate_left
   ·intro w' hSw
    clear hSw
    go_simp
    all_goals with_reducible rfl
   try simp only[Act.put,List.setIfInBounds_toArray,List.set_cons_zero,List.set_cons_succ]
   refine take_l 8 (v:=?_) rfl (by kernel_rfl) (by kernel_rfl) (by kernel_rfl) (fun _ _ _ h=>h) (Or.inl ⟨by rfl,?_⟩) (by first|exact BT.out|exact below_drewN (Below.refl _ _) 1) ?_;rotate_left
   ·intro w' hSw
    clear hSw
    go_simp
    all_goals with_reducible rfl
   try simp only[Act.put,List.setIfInBounds_toArray,List.set_cons_zero,List.set_cons_succ]
   refine wpAnyH_done (by kernel_rfl) ?_ _
   have F11:=Lib.hid (show Below U.heap.size U w11 from F9.out.trans (BT.out.mono F9.out.size))
   have CS2:=Lib.hid (samebytes_any A A11 m L2.length cap c11 l L2 w11 LT.out P11.out.lt (by have h:=(HP.out.below (BU.out.trans (F11.out.mono BU.out.size))).row;rw[show((A,m,cap,l):Rw).2.2.2.length=m from LM.out.symm] at h;exact h) P11.out.row)
   rw[L2l.out,beq_self_eq_true] at CS2
   try rw[L2l.out]
   go_wp2_with (first
    |(go_at_call 17;(refine CS2.out.mono ?_);rintro e w12 ⟨rfl,rfl⟩)
    |(go_at_call 11;(refine(KN.out _).mono ?_);rintro e w13 ⟨rfl,hb13⟩;have F13:=Lib.hid hb13;clear hb13))
   go_ret
   exact⟨rfl,BU.out.trans ((F11.out.trans (F13.out.mono F11.out.size)).mono BU.out.size)⟩
  ·clear E2
   go_enter Try.func6,Try.ntmps6
   go_upto_region 3 with(first
    |(go_at_call 10;(refine(GR.out _ BU.out).mono ?_);rintro e w1 ⟨rfl,hb1⟩;have F1:=Lib.hid hb1;clear hb1)
    |(go_at_call 18;(refine(LGf.out _).mono ?_);rintro e w2 ⟨rfl,rfl⟩))
   refine wp_region_held_drew (S:=fun x=>Below (w1).heap.size (w1) x) (by kernel_rfl) (below_drewN (Below.refl _ _) 1) (fun _=>?_)
   refine take_l 0 (v:=?_) rfl (by kernel_rfl) (by kernel_rfl) (by kernel_rfl) (fun _ _ _ h=>h) (Or.inl ⟨by rfl,?_⟩) (by first|exact BS.out|exact below_drewN (Below.refl _ _) 1) ?_;rotate_left
   ·intro w' hSw
    have z0:(w').cell? ⟨w.heap.size,0,none⟩=some (.int .i64 K0):=((NV.out.below' F1.out).below' hSw).cell_ rfl
    have z1:(w').cell? ⟨w.heap.size,1,none⟩=some (.int .u64 (N0:Int)):=((NV.out.below' F1.out).below' hSw).cell_ rfl
    have z2:(w').cell? ⟨w.heap.size,2,none⟩=some (.slice r0.1 r0.2.1 r0.2.2.1):=((NV.out.below' F1.out).below' hSw).cell_ rfl
    have z3:(w').cell? ⟨w.heap.size,3,none⟩=some (.slice B0 v0.length c0):=((NV.out.below' F1.out).below' hSw).cell_ rfl
    have y0:(w').cell? ⟨w.heap.size+1,0,none⟩=some (.int .i64 a):=((NL.out.below' F1.out).below' hSw).cell_ rfl
    have y1:(w').cell? ⟨w.heap.size+1,1,none⟩=some (.int .i64 b):=((NL.out.below' F1.out).below' hSw).cell_ rfl
    have y2:(w').cell? ⟨w.heap.size+1,2,none⟩=some (.int .i64 c):=((NL.out.below' F1.out).below' hSw).cell_ rfl
    have y3:(w').cell? ⟨w.heap.size+1,3,none⟩=some (.int .i64 d):=((NL.out.below' F1.out).below' hSw).cell_ rfl
    clear hSw
    go_simp
    all_goals with_reducible rfl
   try simp only[Act.put,List.setIfInBounds_toArray,List.set_cons_zero,List.set_cons_succ]
   refine take_l 1 (v:=?_) rfl (by kernel_rfl) (by kernel_rfl) (by kernel_rfl) (fun _ _ _ h=>h) (Or.inl ⟨by rfl,?_⟩) (by first|exact BS.out|exact below_drewN (Below.refl _ _) 1) ?_;rotate_left
   ·intro w' hSw
    have z0:(w').cell? ⟨w.heap.size,0,none⟩=some (.int .i64 K0):=((NV.out.below' F1.out).below' hSw).cell_ rfl
    have z1:(w').cell? ⟨w.heap.size,1,none⟩=some (.int .u64 (N0:Int)):=((NV.out.below' F1.out).below' hSw).cell_ rfl
    have z2:(w').cell? ⟨w.heap.size,2,none⟩=some (.slice r0.1 r0.2.1 r0.2.2.1):=((NV.out.below' F1.out).below' hSw).cell_ rfl
    have z3:(w').cell? ⟨w.heap.size,3,none⟩=some (.slice B0 v0.length c0):=((NV.out.below' F1.out).below' hSw).cell_ rfl
    have y0:(w').cell? ⟨w.heap.size+1,0,none⟩=some (.int .i64 a):=((NL.out.below' F1.out).below' hSw).cell_ rfl
    have y1:(w').cell? ⟨w.heap.size+1,1,none⟩=some (.int .i64 b):=((NL.out.below' F1.out).below' hSw).cell_ rfl
    have y2:(w').cell? ⟨w.heap.size+1,2,none⟩=some (.int .i64 c):=((NL.out.below' F1.out).below' hSw).cell_ rfl
    have y3:(w').cell? ⟨w.heap.size+1,3,none⟩=some (.int .i64 d):=((NL.out.below' F1.out).below' hSw).cell_ rfl
    clear hSw
    go_simp
    all_goals with_reducible rfl
   try simp only[Act.put,List.setIfInBounds_toArray,List.set_cons_zero,List.set_cons_succ]
   refine wpAnyH_ready (rs:=[2]) (by kernel_rfl) (by simp) ?_
   refine cons_l rfl (fun K0 hK=>?_) AllReadyH.nil
   go_simp
   (go_at_call 13;(refine(OW.out _).mono ?_);rintro e w3 ⟨rfl,hb3⟩)
   have BS:=Lib.hid (show Below w1.heap.size w1 w3 from(below_drewN (Below.refl _ _) 1).trans (hb3.mono (Nat.le_refl _)))
   clear hb3
   refine hK.out _ _ (by first|exact BS.out|exact below_drewN (Below.refl _ _) 1) (fun _=>?_)
   clear hK K0
   try simp only[Act.put,List.setIfInBounds_toArray,List.set_cons_zero,List.set_cons_succ]
   refine wpAnyH_ready (rs:=[3]) (by kernel_rfl) (by simp) ?_
   refine cons_l rfl (fun K0 hK=>?_) AllReadyH.nil
   go_simp
   (go_at_call 12;(refine(CW1.out _ (BU.out.trans ((F1.out.trans (BS.out.mono F1.out.size)).mono BU.out.size))).mono ?_);rintro e w4 ⟨hb4,A4,c4,rfl,hp4,hi4⟩)
   have B4':=Lib.hid (show Below w1.heap.size w1 w4 from BS.out.trans (hb4.mono BS.out.size))
   have BS:=Lib.hid B4'.out
   have P4:=Lib.hid hp4
   have I4:=Lib.hid hi4
   clear hb4 hp4 hi4
   refine hK.out _ _ (by first|exact BS.out|exact below_drewN (Below.refl _ _) 1) (fun _=>?_)
   clear hK K0
   try simp only[Act.put,List.setIfInBounds_toArray,List.set_cons_zero,List.set_cons_succ]
   refine take_l 4 (v:=?_) rfl (by kernel_rfl) (by kernel_rfl) (by kernel_rfl) (fun _ _ _ h=>h) (Or.inl ⟨by rfl,?_⟩) (by first|exact BS.out|exact below_drewN (Below.refl _ _) 1) ?_;rotate_left
   ·intro w' hSw
    clear hSw
    go_simp
    all_goals with_reducible rfl
   try simp only[Act.put,List.setIfInBounds_toArray,List.set_cons_zero,List.set_cons_succ]
   refine take_l 5 (v:=?_) rfl (by kernel_rfl) (by kernel_rfl) (by kernel_rfl) (fun _ _ _ h=>h) (Or.inl ⟨by rfl,?_⟩) (by first|exact BS.out|exact below_drewN (Below.refl _ _) 1) ?_;rotate_left
   ·intro w' hSw
    clear hSw
    go_simp
    all_goals with_reducible rfl
   try simp only[Act.put,List.setIfInBounds_toArray,List.set_cons_zero,List.set_cons_succ]
   refine take_l 6 (v:=?_) rfl (by kernel_rfl) (by kernel_rfl) (by kernel_rfl) (fun _ _ _ h=>h) (Or.inl ⟨by rfl,?_⟩) (by first|exact BS.out|exact below_drewN (Below.refl _ _) 1) ?_;rotate_left
   ·intro w' hSw
    clear hSw
    go_simp
    all_goals with_reducible rfl
   try simp only[Act.put,List.setIfInBounds_toArray,List.set_cons_zero,List.set_cons_succ]
   refine take_l 7 (v:=?_) rfl (by kernel_rfl) (by kernel_rfl) (by kernel_rfl) (fun _ _ _ h=>h) (Or.inl ⟨by rfl,?_⟩) (by first|exact BS.out|exact below_drewN (Below.refl _ _) 1) ?_;rotate_left
   ·intro w' hSw
    clear hSw
    go_simp
    all_goals with_reducible rfl
   try simp only[Act.put,List.setIfInBounds_toArray,List.set_cons_zero,List.set_cons_succ]
   refine take_l 8 (v:=?_) rfl (by kernel_rfl) (by kernel_rfl) (by kernel_rfl) (fun _ _ _ h=>h) (Or.inl ⟨by rfl,?_⟩) (by first|exact BS.out|exact below_drewN (Below.refl _ _) 1) ?_;rotate_left
   ·intro w' hSw
    clear hSw
    go_simp
    all_goals with_reducible rfl
   try simp only[Act.put,List.setIfInBounds_toArray,List.set_cons_zero,List.set_cons_succ]
   refine wpAnyH_done (by kernel_rfl) ?_ _
   have F4:=Lib.hid (show Below U.heap.size U w4 from F1.out.trans (BS.out.mono F1.out.size))
   have y0:(w4).cell? ⟨w.heap.size+1,0,none⟩=some (.int .i64 a):=(NL.out.below' F4.out).cell_ rfl
   have y1:(w4).cell? ⟨w.heap.size+1,1,none⟩=some (.int .i64 b):=(NL.out.below' F4.out).cell_ rfl
   have y2:(w4).cell? ⟨w.heap.size+1,2,none⟩=some (.int .i64 c):=(NL.out.below' F4.out).cell_ rfl
   have y3:(w4).cell? ⟨w.heap.size+1,3,none⟩=some (.int .i64 d):=(NL.out.below' F4.out).cell_ rfl
   go_upto_region 5 with(first
    |(go_at_call 13;(refine(OW.out _).mono ?_);rintro e w5 ⟨rfl,hb5⟩;have B5:=Lib.hid hb5;clear hb5)
    |(go_at_call 45;(refine(CR1.out _ _ _ (P4.out.below B5.out) (fun ad e=>Nat.lt_of_lt_of_le (I4.out ad e) B5.out.size)).mono ?_);rintro e w6 ⟨hb6,t6,rfl,hn6,ho6⟩;obtain⟨K6,N6,r6,B6_,c6,v6⟩:=t6;simp only[Tv.val,Tv.row];have B6:=Lib.hid hb6;have O6:=Lib.hid ho6;have D6:=Lib.hid hn6;clear hb6 ho6 hn6))
   have X6:=Lib.hid (below_one w6 (.cells #[.int .i64 K6,.int .u64 (N6:Int),.slice r6.1 r6.2.1 r6.2.2.1,.slice B6_ v6.length c6] 26))
   have F6:=Lib.hid (show Below U.heap.size U (w6.alloc (.cells #[.int .i64 K6,.int .u64 (N6:Int),.slice r6.1 r6.2.1 r6.2.2.1,.slice B6_ v6.length c6] 26)) from F4.out.trans ((B5.out.trans ((B6.out.trans (X6.out.mono B6.out.size)).mono B5.out.size)).mono F4.out.size))
   have NW:=Lib.hid (Bl.new_ w6 26 #[.int .i64 K6,.int .u64 (N6:Int),.slice r6.1 r6.2.1 r6.2.2.1,.slice B6_ v6.length c6])
   have OW6:=Lib.hid (O6.out.keep X6.out)
   have OV6:=Lib.hid ((OK0.out.keep BU.out).keep F6.out)
   obtain⟨q6,hq6⟩:∃q6,w6.heap.size=q6:=⟨_,rfl⟩
   rw[hq6] at NW ⊢
   clear X6
   generalize(w6.alloc (.cells #[.int .i64 K6,.int .u64 (N6:Int),.slice r6.1 r6.2.1 r6.2.2.1,.slice B6_ v6.length c6] 26))=u6 at *
   clear hq6
   have z0:(u6).cell? ⟨w.heap.size,0,none⟩=some (.int .i64 K0):=(NV.out.below' F6.out).cell_ rfl
   have z1:(u6).cell? ⟨w.heap.size,1,none⟩=some (.int .u64 (N0:Int)):=(NV.out.below' F6.out).cell_ rfl
   have z2:(u6).cell? ⟨w.heap.size,2,none⟩=some (.slice r0.1 r0.2.1 r0.2.2.1):=(NV.out.below' F6.out).cell_ rfl
   have z3:(u6).cell? ⟨w.heap.size,3,none⟩=some (.slice B0 v0.length c0):=(NV.out.below' F6.out).cell_ rfl
   have y0:(u6).cell? ⟨w.heap.size+1,0,none⟩=some (.int .i64 a):=(NL.out.below' F6.out).cell_ rfl
   have y1:(u6).cell? ⟨w.heap.size+1,1,none⟩=some (.int .i64 b):=(NL.out.below' F6.out).cell_ rfl
   have y2:(u6).cell? ⟨w.heap.size+1,2,none⟩=some (.int .i64 c):=(NL.out.below' F6.out).cell_ rfl
   have y3:(u6).cell? ⟨w.heap.size+1,3,none⟩=some (.int .i64 d):=(NL.out.below' F6.out).cell_ rfl
   have x0:(u6).cell? ⟨q6,0,none⟩=some (.int .i64 K6):=(NW.out).cell_ rfl
   have x1:(u6).cell? ⟨q6,1,none⟩=some (.int .u64 (N6:Int)):=(NW.out).cell_ rfl
   have x2:(u6).cell? ⟨q6,2,none⟩=some (.slice r6.1 r6.2.1 r6.2.2.1):=(NW.out).cell_ rfl
   have x3:(u6).cell? ⟨q6,3,none⟩=some (.slice B6_ v6.length c6):=(NW.out).cell_ rfl
   go_upto_region 7 with(first
    |(fail))
   have F7:=F6
   go_upto_region 8 with(first
    |(go_at_call 13;(refine(OW.out _).mono ?_);rintro e w8 ⟨rfl,hb8⟩;have F8:=Lib.hid (F7.out.trans (hb8.mono F7.out.size));clear hb8)
    |(go_at_call 45;(refine(CR2.out _ (BU.out.trans (F8.out.mono BU.out.size))).mono ?_);rintro e w9 ⟨hb9,t9,rfl,hn9,ho9⟩;obtain⟨K9,N9,r9,B9_,c9,v9⟩:=t9;simp only[Tv.val,Tv.row];have B9:=Lib.hid hb9;have O9:=Lib.hid ho9;have D9:=Lib.hid hn9;clear hb9 ho9 hn9))
   have X9:=Lib.hid (below_one w9 (.cells #[.int .i64 K9,.int .u64 (N9:Int),.slice r9.1 r9.2.1 r9.2.2.1,.slice B9_ v9.length c9] 26))
   have F9:=Lib.hid (show Below U.heap.size U (w9.alloc (.cells #[.int .i64 K9,.int .u64 (N9:Int),.slice r9.1 r9.2.1 r9.2.2.1,.slice B9_ v9.length c9] 26)) from F8.out.trans ((B9.out.trans (X9.out.mono B9.out.size)).mono F8.out.size))
   have NX:=Lib.hid (Bl.new_ w9 26 #[.int .i64 K9,.int .u64 (N9:Int),.slice r9.1 r9.2.1 r9.2.2.1,.slice B9_ v9.length c9])
   have OX9:=Lib.hid (O9.out.keep X9.out)
   obtain⟨q9,hq9⟩:∃q9,w9.heap.size=q9:=⟨_,rfl⟩
   rw[hq9] at NX ⊢
   clear X9
   generalize(w9.alloc (.cells #[.int .i64 K9,.int .u64 (N9:Int),.slice r9.1 r9.2.1 r9.2.2.1,.slice B9_ v9.length c9] 26))=u9 at *
   clear hq9
   refine wp_region_held_drew (S:=fun x=>Below (u9).heap.size (u9) x) (by kernel_rfl) (below_drewN (Below.refl _ _) 1) (fun _=>?_)
   refine take_l 0 (v:=?_) rfl (by kernel_rfl) (by kernel_rfl) (by kernel_rfl) (fun _ _ _ h=>h) (Or.inl ⟨by rfl,?_⟩) (by first|exact BT.out|exact below_drewN (Below.refl _ _) 1) ?_;rotate_left
   ·intro w' hSw
    have z0:(w').cell? ⟨q9,0,none⟩=some (.int .i64 K9):=(NX.out.below' hSw).cell_ rfl
    have z1:(w').cell? ⟨q9,1,none⟩=some (.int .u64 (N9:Int)):=(NX.out.below' hSw).cell_ rfl
    have z2:(w').cell? ⟨q9,2,none⟩=some (.slice r9.1 r9.2.1 r9.2.2.1):=(NX.out.below' hSw).cell_ rfl
    have z3:(w').cell? ⟨q9,3,none⟩=some (.slice B9_ v9.length c9):=(NX.out.below' hSw).cell_ rfl
    have y0:(w').cell? ⟨w.heap.size+1,0,none⟩=some (.int .i64 a):=((NL.out.below' F9.out).below' hSw).cell_ rfl
    have y1:(w').cell? ⟨w.heap.size+1,1,none⟩=some (.int .i64 b):=((NL.out.below' F9.out).below' hSw).cell_ rfl
    have y2:(w').cell? ⟨w.heap.size+1,2,none⟩=some (.int .i64 c):=((NL.out.below' F9.out).below' hSw).cell_ rfl
    have y3:(w').cell? ⟨w.heap.size+1,3,none⟩=some (.int .i64 d):=((NL.out.below' F9.out).below' hSw).cell_ rfl
    clear hSw
    go_simp
    all_goals with_reducible rfl
   try simp only[Act.put,List.setIfInBounds_toArray,List.set_cons_zero,List.set_cons_succ]
   refine take_l 1 (v:=?_) rfl (by kernel_rfl) (by kernel_rfl) (by kernel_rfl) (fun _ _ _ h=>h) (Or.inl ⟨by rfl,?_⟩) (by first|exact BT.out|exact below_drewN (Below.refl _ _) 1) ?_;rotate_left
   ·intro w' hSw
    have z0:(w').cell? ⟨q9,0,none⟩=some (.int .i64 K9):=(NX.out.below' hSw).cell_ rfl
    have z1:(w').cell? ⟨q9,1,none⟩=some (.int .u64 (N9:Int)):=(NX.out.below' hSw).cell_ rfl
    have z2:(w').cell? ⟨q9,2,none⟩=some (.slice r9.1 r9.2.1 r9.2.2.1):=(NX.out.below' hSw).cell_ rfl
    have z3:(w').cell? ⟨q9,3,none⟩=some (.slice B9_ v9.length c9):=(NX.out.below' hSw).cell_ rfl
    have y0:(w').cell? ⟨w.heap.size+1,0,none⟩=some (.int .i64 a):=((NL.out.below' F9.out).below' hSw).cell_ rfl
    have y1:(w').cell? ⟨w.heap.size+1,1,none⟩=some (.int .i64 b):=((NL.out.below' F9.out).below' hSw).cell_ rfl
    have y2:(w').cell? ⟨w.heap.size+1,2,none⟩=some (.int .i64 c):=((NL.out.below' F9.out).below' hSw).cell_ rfl
    have y3:(w').cell? ⟨w.heap.size+1,3,none⟩=some (.int .i64 d):=((NL.out.below' F9.out).below' hSw).cell_ rfl
    clear hSw
    go_simp
    all_goals with_reducible rfl
   try simp only[Act.put,List.setIfInBounds_toArray,List.set_cons_zero,List.set_cons_succ]
   refine wpAnyH_ready (rs:=[2]) (by kernel_rfl) (by simp) ?_
   refine cons_l rfl (fun K0 hK=>?_) AllReadyH.nil
   go_simp
   (go_at_call 13;(refine(OW.out _).mono ?_);rintro e w10 ⟨rfl,hb10⟩)
   have BT:=Lib.hid (show Below u9.heap.size u9 w10 from(below_drewN (Below.refl _ _) 1).trans (hb10.mono (Nat.le_refl _)))
   clear hb10
   refine hK.out _ _ (by first|exact BT.out|exact below_drewN (Below.refl _ _) 1) (fun _=>?_)
   clear hK K0
   try simp only[Act.put,List.setIfInBounds_toArray,List.set_cons_zero,List.set_cons_succ]
   refine wpAnyH_ready (rs:=[3]) (by kernel_rfl) (by simp) ?_
   refine cons_l rfl (fun K0 hK=>?_) AllReadyH.nil
   go_simp
   (go_at_call 12;(refine(CW2.out (.mk K9 N9 r9 B9_ c9 v9) _ (OX9.out.keep BT.out) D9.out).mono ?_);rintro e w11 ⟨hb11,A11,c11,rfl,hp11,hi11⟩)
   have B11':=Lib.hid (show Below u9.heap.size u9 w11 from BT.out.trans (hb11.mono BT.out.size))
   have BT:=Lib.hid B11'.out
   have P11:=Lib.hid hp11
   clear hb11 hp11 hi11
   refine hK.out _ _ (by first|exact BT.out|exact below_drewN (Below.refl _ _) 1) (fun _=>?_)
   clear hK K0
   try simp only[Act.put,List.setIfInBounds_toArray,List.set_cons_zero,List.set_cons_succ]
   refine take_l 4 (v:=?_) rfl (by kernel_rfl) (by kernel_rfl) (by kernel_rfl) (fun _ _ _ h=>h) (Or.inl ⟨by rfl,?_⟩) (by first|exact BT.out|exact below_drewN (Below.refl _ _) 1) ?_;rotate_left
   ·intro w' hSw
    clear hSw
    go_simp
    all_goals with_reducible rfl
   try simp only[Act.put,List.setIfInBounds_toArray,List.set_cons_zero,List.set_cons_succ]
   refine take_l 5 (v:=?_) rfl (by kernel_rfl) (by kernel_rfl) (by kernel_rfl) (fun _ _ _ h=>h) (Or.inl ⟨by rfl,?_⟩) (by first|exact BT.out|exact below_drewN (Below.refl _ _) 1) ?_;rotate_left
   ·intro w' hSw
    clear hSw
    go_simp
    all_goals with_reducible rfl
   try simp only[Act.put,List.setIfInBounds_toArray,List.set_cons_zero,List.set_cons_succ]
   refine take_l 6 (v:=?_) rfl (by kernel_rfl) (by kernel_rfl) (by kernel_rfl) (fun _ _ _ h=>h) (Or.inl ⟨by rfl,?_⟩) (by first|exact BT.out|exact below_drewN (Below.refl _ _) 1) ?_;rotate_left
   ·intro w' hSw
    clear hSw
    go_simp
    all_goals with_reducible rfl
   try simp only[Act.put,List.setIfInBounds_toArray,List.set_cons_zero,List.set_cons_succ]
   refine take_l 7 (v:=?_) rfl (by kernel_rfl) (by kernel_rfl) (by kernel_rfl) (fun _ _ _ h=>h) (Or.inl ⟨by rfl,?_⟩) (by first|exact BT.out|exact below_drewN (Below.refl _ _) 1) ?_;rotate_left
   ·intro w' hSw
    clear hSw
    go_simp
    all_goals with_reducible rfl
   try simp only[Act.put,List.setIfInBounds_toArray,List.set_cons_zero,List.set_cons_succ]
   refine take_l 8 (v:=?_) rfl (by kernel_rfl) (by kernel_rfl) (by kernel_rfl) (fun _ _ _ h=>h) (Or.inl ⟨by rfl,?_⟩) (by first|exact BT.out|exact below_drewN (Below.refl _ _) 1) ?_;rotate_left
   ·intro w' hSw
    clear hSw
    go_simp
    all_goals with_reducible rfl
   try simp only[Act.put,List.setIfInBounds_toArray,List.set_cons_zero,List.set_cons_succ]
   refine wpAnyH_done (by kernel_rfl) ?_ _
   have F11:=Lib.hid (show Below U.heap.size U w11 from F9.out.trans (BT.out.mono F9.out.size))
   go_wp2_with (first
    |(go_at_call 11;(refine(KN.out _).mono ?_);rintro e w13 ⟨rfl,hb13⟩;have F13:=Lib.hid hb13;clear hb13))
   go_ret
   exact⟨rfl,BU.out.trans ((F11.out.trans (F13.out.mono F11.out.size)).mono BU.out.size)⟩
end Go.Proofs.Ytkahelhoaihajaa.Wr
