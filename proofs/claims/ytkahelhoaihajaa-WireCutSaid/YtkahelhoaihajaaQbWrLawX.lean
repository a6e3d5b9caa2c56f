/- Joined texts. -/
import Derived.Test.YtkahelhoaihajaaQbWrMoreC
set_option linter.unusedVariables false
namespace Go.Proofs.Ytkahelhoaihajaa.Wr
open Go.RowKit Go.Proofs.Ytkahelhoaihajaa.Gn Go.Proofs.Ytkahelhoaihajaa.Fd Go.Deep
theorem below_st4q{B:Nat}{w w3:World}(h:Below B w w3){q:Nat}(hq:B≤q)(v0 v1 v2 v3:Value):Below B w (st4 w3 q v0 v1 v2 v3):=below_st4' h hq v0 v1 v2 v3
theorem pc_cutoff{w:World}{A:Option Addr}{n c:Nat}{l:List Nat}(h:Pc w (A,n,c,l)){k:Nat}(hk:k≤n):Pc w (A,k,c,l.take k):=by
 have hl:n=l.length:=h.len
 have h1:(l.take k).length=k:=by rw[List.length_take];omega
 refine⟨h1.symm,⟨by simp[bl],fun j v hj=>?_⟩,fun x hx=>h.lt x (List.mem_of_mem_take hx),?_,h.nil⟩
 ·refine h.row.2 j v ?_
  have h2:bl (l.take k)=(bl l).take k:=by simp[bl,List.map_take]
  rw[show(((A,k,c,l.take k):Rw).2.2.2)=l.take k from rfl,h2,List.getElem?_take] at hj
  split at hj
  ·exact hj
  ·cases hj
 ·show(l.take k).length≤c
  have:=h.cap
  have h3:l.length≤c:=h.cap
  omega
set_option maxHeartbeats 4000000 in
set_option maxRecDepth 100000 in
theorem walk_wireCut{w:World}{v:Tv}(hv:Ok0 w v)(p:Int)(wp:(Lit.int .i64 p).wf) :
  Calls Try.prog 7 #[v.val,.int .i64 p] w fun e w'=>e=.returned (.bool true)∧Below w.heap.size w w':=by
 have hp:=wf_i64 wp
 have KN:=Lib.hid known_any
 have CW:=Lib.hid (fun u=>Whole_any u)
 have GR:=Lib.hid (fun u hu=>great_any hv u hu)
 clear wp
 obtain⟨SZ,hSZ⟩:∃SZ,sz v=SZ:=⟨_,rfl⟩
 rw[hSZ] at GR
 obtain⟨V0,hV0⟩:∃V0,nd v=V0:=⟨_,rfl⟩
 have MAIN:=Lib.hid (show SZ≤2000→Ok w v∧szn V0≤2000 from fun h1=>by
  have h3:=hv.ok v (by omega)
  have h4:=(nd_all v h3).2.2.2
  refine⟨h3,by rw[←hV0,←h4];omega⟩)
 clear hv hSZ
 obtain⟨K0,N0,r0,B0,c0,v0⟩:=v
 simp only[Tv.val,Tv.row] at GR ⊢
 obtain⟨U,hU⟩:∃U,(w.alloc (.cells #[.int .i64 K0,.int .u64 (N0:Int),.slice r0.1 r0.2.1 r0.2.2.1,.slice B0 v0.length c0] 26))=U:=⟨_,rfl⟩
 have BU:=Lib.hid (show Below w.heap.size w U from by rw[←hU];exact(Below.refl _ w).alloc (Nat.le_refl _) _)
 have NV:=Lib.hid (show Bl U w.heap.size 26 #[.int .i64 K0,.int .u64 (N0:Int),.slice r0.1 r0.2.1 r0.2.2.1,.slice B0 v0.length c0] from by rw[←hU];exact Bl.new_ w _ _)
 have z0:(U).cell? ⟨w.heap.size,0,none⟩=some (.int .i64 K0):=(NV.out).cell_ rfl
 have z1:(U).cell? ⟨w.heap.size,1,none⟩=some (.int .u64 (N0:Int)):=(NV.out).cell_ rfl
 have z2:(U).cell? ⟨w.heap.size,2,none⟩=some (.slice r0.1 r0.2.1 r0.2.2.1):=(NV.out).cell_ rfl
 have z3:(U).cell? ⟨w.heap.size,3,none⟩=some (.slice B0 v0.length c0):=(NV.out).cell_ rfl
 by_cases g1:2000 < SZ
 ·rw[decide_eq_true g1] at GR
  clear g1 MAIN hp
  go_enter Try.func7,Try.ntmps7
  go_wp2_with (first
   |(go_at_call 10;(refine(GR.out _ BU.out).mono ?_);rintro e w1 ⟨rfl,hb1⟩;have F1:=Lib.hid hb1;clear hb1)
   |(go_at_call 11;(refine(KN.out _).mono ?_);rintro e w3 ⟨rfl,hb3⟩;have F3:=Lib.hid hb3;clear hb3))
  go_ret
  exact⟨rfl,BU.out.trans ((F1.out.trans (F3.out.mono F1.out.size)).mono BU.out.size)⟩
 rw[decide_eq_false g1] at GR
 obtain⟨hok,hsz⟩:=MAIN.out (by omega)
 have hs0:smn V0:=by rw[←hV0];exact smn_ok _ hok (by rw[hV0];omega)
 obtain⟨er1,her1⟩:∃er1,wern (max 65536 0) (max 16 0) (max 16384 0) (max 65536 0) V0=er1:=⟨_,rfl⟩
 obtain⟨L1,hL1⟩:∃L1,wout (max 65536 0) (max 16 0) (max 16384 0) (max 65536 0) V0=L1:=⟨_,rfl⟩
 have l1:L1.length≤20010:=by rw[←hL1,←hV0];exact wout_len hok _ _ _ _ (by rw[hV0];omega)
 have CW1:=Lib.hid (show ∀u,Below w.heap.size w u→Calls Try.prog 12 #[.agg #[.int .i64 K0,.int .u64 (N0:Int),.slice r0.1 r0.2.1 r0.2.2.1,.slice B0 v0.length c0],lim 65536 16 16384 65536] u (WpQ er1 L1 u) from fun u hu=>by
  have h:=Write_pc (hok.keep hu) 65536 16 16384 65536 (by decide) (by rw[hV0];omega)
  rw[hV0,her1,hL1] at h;exact h)
 by_cases h1:er1=0
 rotate_left
 ·clear g1 MAIN hp hok hsz hs0 her1 hL1 hV0 l1
  go_enter Try.func7,Try.ntmps7
  go_upto_region 3 with(first
   |(go_at_call 10;(refine(GR.out _ BU.out).mono ?_);rintro e w1 ⟨rfl,hb1⟩;have F1:=Lib.hid hb1;clear hb1))
  refine wp_region_held_drew (S:=fun x=>Below (w1).heap.size (w1) x) (by kernel_rfl) (below_drewN (Below.refl _ _) 1) (fun _=>?_)
  refine take_l 0 (v:=?_) rfl (by kernel_rfl) (by kernel_rfl) (by kernel_rfl) (fun _ _ _ h=>h) (Or.inl ⟨by rfl,?_⟩) (by first|exact BS.out|exact below_drewN (Below.refl _ _) 1) ?_;rotate_left
  ·intro w' hSw
   have z0:(w').cell? ⟨w.heap.size,0,none⟩=some (.int .i64 K0):=((NV.out.below' F1.out).below' hSw).cell_ rfl
   have z1:(w').cell? ⟨w.heap.size,1,none⟩=some (.int .u64 (N0:Int)):=((NV.out.below' F1.out).below' hSw).cell_ rfl
   have z2:(w').cell? ⟨w.heap.size,2,none⟩=some (.slice r0.1 r0.2.1 r0.2.2.1):=((NV.out.below' F1.out).below' hSw).cell_ rfl
   have z3:(w').cell? ⟨w.heap.size,3,none⟩=some (.slice B0 v0.length c0):=((NV.out.below' F1.out).below' hSw).cell_ rfl
   clear hSw
   go_simp
   all_goals with_reducible rfl
  try simp only[Act.put,List.setIfInBounds_toArray,List.set_cons_zero,List.set_cons_succ]
  refine wpAnyH_ready (rs:=[1]) (by kernel_rfl) (by simp) ?_
  refine cons_l rfl (fun K0 hK=>?_) AllReadyH.nil
  go_simp
  (go_at_call 46;(refine(CW.out _).mono ?_);rintro e w3 ⟨rfl,hb3⟩)
  have BS:=Lib.hid (show Below w1.heap.size w1 w3 from(below_drewN (Below.refl _ _) 1).trans (hb3.mono (Nat.le_refl _)))
  clear hb3
  refine hK.out _ _ (by first|exact BS.out|exact below_drewN (Below.refl _ _) 1) (fun _=>?_)
  clear hK K0
  try simp only[Act.put,List.setIfInBounds_toArray,List.set_cons_zero,List.set_cons_succ]
  refine wpAnyH_ready (rs:=[2]) (by kernel_rfl) (by simp) ?_
  refine cons_l rfl (fun K0 hK=>?_) AllReadyH.nil
  go_simp
  (go_at_call 12;(refine(CW1.out _ (BU.out.trans ((F1.out.trans (BS.out.mono F1.out.size)).mono BU.out.size))).mono ?_);rintro e w4 ⟨hb4,A4,c4,rfl,hp4,hi4⟩)
  have B4':=Lib.hid (show Below w1.heap.size w1 w4 from BS.out.trans (hb4.mono BS.out.size))
  have BS:=Lib.hid B4'.out
  have P4:=Lib.hid hp4
  have I4:=Lib.hid hi4
  clear hb4 hp4 hi4
  refine hK.out _ _ (by first|exact BS.out|exact below_drewN (Below.refl _ _) 1) (fun _=>?_)
  clear hK K0
  try simp only[Act.put,List.setIfInBounds_toArray,List.set_cons_zero,List.set_cons_succ]
  refine take_l 3 (v:=?_) rfl (by kernel_rfl) (by kernel_rfl) (by kernel_rfl) (fun _ _ _ h=>h) (Or.inl ⟨by rfl,?_⟩) (by first|exact BS.out|exact below_drewN (Below.refl _ _) 1) ?_;rotate_left
  ·intro w' hSw
   clear hSw
   go_simp
   all_goals with_reducible rfl
  try simp only[Act.put,List.setIfInBounds_toArray,List.set_cons_zero,List.set_cons_succ]
  refine take_l 4 (v:=?_) rfl (by kernel_rfl) (by kernel_rfl) (by kernel_rfl) (fun _ _ _ h=>h) (Or.inl ⟨by rfl,?_⟩) (by first|exact BS.out|exact below_drewN (Below.refl _ _) 1) ?_;rotate_left
  ·intro w' hSw
   clear hSw
   go_simp
   all_goals with_reducible rfl
  try simp only[Act.put,List.setIfInBounds_toArray,List.set_cons_zero,List.set_cons_succ]
  refine take_l 5 (v:=?_) rfl (by kernel_rfl) (by kernel_rfl) (by kernel_rfl) (fun _ _ _ h=>h) (Or.inl ⟨by rfl,?_⟩) (by first|exact BS.out|exact below_drewN (Below.refl _ _) 1) ?_;rotate_left
  ·intro w' hSw
   clear hSw
   go_simp
   all_goals with_reducible rfl
  try simp only[Act.put,List.setIfInBounds_toArray,List.set_cons_zero,List.set_cons_succ]
  refine take_l 6 (v:=?_) rfl (by kernel_rfl) (by kernel_rfl) (by kernel_rfl) (fun _ _ _ h=>h) (Or.inl ⟨by rfl,?_⟩) (by first|exact BS.out|exact below_drewN (Below.refl _ _) 1) ?_;rotate_left
  ·intro w' hSw
   clear hSw
   go_simp
   all_goals with_reducible rfl
  try simp only[Act.put,List.setIfInBounds_toArray,List.set_cons_zero,List.set_cons_succ]
  refine take_l 7 (v:=?_) rfl (by kernel_rfl) (by kernel_rfl) (by kernel_rfl) (fun _ _ _ h=>h) (Or.inl ⟨by rfl,?_⟩) (by first|exact BS.out|exact below_drewN (Below.refl _ _) 1) ?_;rotate_left
  ·intro w' hSw
   clear hSw
   go_simp
   all_goals with_reducible rfl
  try simp only[Act.put,List.setIfInBounds_toArray,List.set_cons_zero,List.set_cons_succ]
  refine wpAnyH_done (by kernel_rfl) ?_ _
  have F4:=Lib.hid (show Below U.heap.size U w4 from F1.out.trans (BS.out.mono F1.out.size))
  go_wp2_with (first
   |(go_at_call 11;(refine(KN.out _).mono ?_);rintro e w3 ⟨rfl,hb3⟩;have F3:=Lib.hid hb3;clear hb3))
  go_ret
  exact⟨rfl,BU.out.trans ((F4.out.trans (F3.out.mono F4.out.size)).mono BU.out.size)⟩
 have hw:=her1.trans h1
 have hr0:=wern_rn hw
 rw[wout,if_pos hw] at hL1
 have hpos:1≤L1.length:=by rw[←hL1];cases V0;rw[wbn];simp
 obtain⟨M,hM⟩:∃M,L1.length=M:=⟨_,rfl⟩
 have k0:=Int.emod_nonneg p (show(M:Int)≠0 by omega)
 have k1:=Int.emod_lt_of_pos p (show(0:Int) < (M:Int) by omega)
 obtain⟨k,hk⟩:∃k:Nat,p%(M:Int)=(k:Int):=⟨(p%(M:Int)).toNat,by omega⟩
 have hkM:k < M:=by omega
 have CA:=Lib.hid (show ∀u,Calls Try.prog 47 #[.int .i64 p,.int .i64 (M:Int)] u (fun e w'=>e=.returned (.int .i64 (k:Int))∧u=w') from fun u=>hk▸among_any p (M:Int) u (by omega) (by omega) hp.1 hp.2)
 obtain⟨q,hq,hqk⟩:∃q,rdw (max 65536 0) (max 16 0) (max 16384 0) (max 65536 0) (L1.take k)=.bad q 20∧q≤k:=by
  have hw2:=hw
  unfold wern at hw2
  rw[if_pos hr0] at hw2
  split at hw2
  ·rename_i hg
   split at hw2
   ·cases hw2
   ·rename_i ha
    rw[←hL1]
    exact rdw_cut hr0 hs0 hg (by omega) (by rw[hL1,hM];exact hkM)
  ·rename_i hg;exact(hg hw2).elim
 have CR1:=Lib.hid (show ∀u A1 c1,Pc u (A1,k,c1,L1.take k)→(∀ad,A1=some ad→ad.block < u.heap.size)→Calls Try.prog 45 #[.slice A1 k c1,lim 65536 16 16384 65536] u (fun e w'=>Below u.heap.size u w'∧e=.returned (.tuple #[.agg #[.int .i64 0,.int .u64 0,.slice none 0 0,.slice none 0 0],.int .i64 (q:Int),.int .i64 20])) from fun u A1 c1 h1 h2=>by
  have h:=Read_any h1 65536 16 16384 65536 (by decide) (by show k≤900000;omega) h2
  rw[show((A1,k,c1,L1.take k):Rw).2.2.2=L1.take k from rfl,hq] at h
  exact h)
 have CW1:=Lib.hid (by have h:=CW1.out;unfold WpQ at h;rw[hM] at h;exact h)
 have qk:(q:Int)≤(k:Int):=by omega
 have M0:¬(M:Int)=0:=by omega
 have ML:=Lib.hid hM
 have KM:=Lib.hid hkM
 subst h1
 clear hw hr0 hL1 hs0 hpos k0 k1 hk hq hqk her1 hM hV0 hok hsz l1 g1 hp MAIN
 go_enter Try.func7,Try.ntmps7
 go_upto_region 3 with(first
  |(go_at_call 10;(refine(GR.out _ BU.out).mono ?_);rintro e w1 ⟨rfl,hb1⟩;have F1:=Lib.hid hb1;clear hb1))
 refine wp_region_held_drew (S:=fun x=>Below (w1).heap.size (w1) x) (by kernel_rfl) (below_drewN (Below.refl _ _) 1) (fun _=>?_)
 refine take_l 0 (v:=?_) rfl (by kernel_rfl) (by kernel_rfl) (by kernel_rfl) (fun _ _ _ h=>h) (Or.inl ⟨by rfl,?_⟩) (by first|exact BS.out|exact below_drewN (Below.refl _ _) 1) ?_;rotate_left
 ·intro w' hSw
  have z0:(w').cell? ⟨w.heap.size,0,none⟩=some (.int .i64 K0):=((NV.out.below' F1.out).below' hSw).cell_ rfl
  have z1:(w').cell? ⟨w.heap.size,1,none⟩=some (.int .u64 (N0:Int)):=((NV.out.below' F1.out).below' hSw).cell_ rfl
  have z2:(w').cell? ⟨w.heap.size,2,none⟩=some (.slice r0.1 r0.2.1 r0.2.2.1):=((NV.out.below' F1.out).below' hSw).cell_ rfl
  have z3:(w').cell? ⟨w.heap.size,3,none⟩=some (.slice B0 v0.length c0):=((NV.out.below' F1.out).below' hSw).cell_ rfl
  clear hSw
  go_simp
  all_goals with_reducible rfl
 try simp only[Act.put,List.setIfInBounds_toArray,List.set_cons_zero,List.set_cons_succ]
 refine wpAnyH_ready (rs:=[1]) (by kernel_rfl) (by simp) ?_
 refine cons_l rfl (fun K0 hK=>?_) AllReadyH.nil
 go_simp
 (go_at_call 46;(refine(CW.out _).mono ?_);rintro e w3 ⟨rfl,hb3⟩)
 have BS:=Lib.hid (show Below w1.heap.size w1 w3 from(below_drewN (Below.refl _ _) 1).trans (hb3.mono (Nat.le_refl _)))
 clear hb3
 refine hK.out _ _ (by first|exact BS.out|exact below_drewN (Below.refl _ _) 1) (fun _=>?_)
 clear hK K0
 try simp only[Act.put,List.setIfInBounds_toArray,List.set_cons_zero,List.set_cons_succ]
 refine wpAnyH_ready (rs:=[2]) (by kernel_rfl) (by simp) ?_
 refine cons_l rfl (fun K0 hK=>?_) AllReadyH.nil
 go_simp
 (go_at_call 12;(refine(CW1.out _ (BU.out.trans ((F1.out.trans (BS.out.mono F1.out.size)).mono BU.out.size))).mono ?_);rintro e w4 ⟨hb4,A4,c4,rfl,hp4,hi4⟩)
 have B4':=Lib.hid (show Below w1.heap.size w1 w4 from BS.out.trans (hb4.mono BS.out.size))
 have BS:=Lib.hid B4'.out
 have P4:=Lib.hid hp4
 have I4:=Lib.hid hi4
 clear hb4 hp4 hi4
 refine hK.out _ _ (by first|exact BS.out|exact below_drewN (Below.refl _ _) 1) (fun _=>?_)
 clear hK K0
 try simp only[Act.put,List.setIfInBounds_toArray,List.set_cons_zero,List.set_cons_succ]
 refine take_l 3 (v:=?_) rfl (by kernel_rfl) (by kernel_rfl) (by kernel_rfl) (fun _ _ _ h=>h) (Or.inl ⟨by rfl,?_⟩) (by first|exact BS.out|exact below_drewN (Below.refl _ _) 1) ?_;rotate_left
 ·intro w' hSw
  clear hSw
  go_simp
  all_goals with_reducible rfl
 try simp only[Act.put,List.setIfInBounds_toArray,List.set_cons_zero,List.set_cons_succ]
 refine take_l 4 (v:=?_) rfl (by kernel_rfl) (by kernel_rfl) (by kernel_rfl) (fun _ _ _ h=>h) (Or.inl ⟨by rfl,?_⟩) (by first|exact BS.out|exact below_drewN (Below.refl _ _) 1) ?_;rotate_left
 ·intro w' hSw
  clear hSw
  go_simp
  all_goals with_reducible rfl
 try simp only[Act.put,List.setIfInBounds_toArray,List.set_cons_zero,List.set_cons_succ]
 refine take_l 5 (v:=?_) rfl (by kernel_rfl) (by kernel_rfl) (by kernel_rfl) (fun _ _ _ h=>h) (Or.inl ⟨by rfl,?_⟩) (by first|exact BS.out|exact below_drewN (Below.refl _ _) 1) ?_;rotate_left
 ·intro w' hSw
  clear hSw
  go_simp
  all_goals with_reducible rfl
 try simp only[Act.put,List.setIfInBounds_toArray,List.set_cons_zero,List.set_cons_succ]
 refine take_l 6 (v:=?_) rfl (by kernel_rfl) (by kernel_rfl) (by kernel_rfl) (fun _ _ _ h=>h) (Or.inl ⟨by rfl,?_⟩) (by first|exact BS.out|exact below_drewN (Below.refl _ _) 1) ?_;rotate_left
 ·intro w' hSw
  clear hSw
  go_simp
  all_goals with_reducible rfl
 try simp only[Act.put,List.setIfInBounds_toArray,List.set_cons_zero,List.set_cons_succ]
 refine take_l 7 (v:=?_) rfl (by kernel_rfl) (by kernel_rfl) (by kernel_rfl) (fun _ _ _ h=>h) (Or.inl ⟨by rfl,?_⟩) (by first|exact BS.out|exact below_drewN (Below.refl _ _) 1) ?_;rotate_left
 ·intro w' hSw
  clear hSw
  go_simp
  all_goals with_reducible rfl
 try simp only[Act.put,List.setIfInBounds_toArray,List.set_cons_zero,List.set_cons_succ]
 refine wpAnyH_done (by kernel_rfl) ?_ _
 have F4:=Lib.hid (show Below U.heap.size U w4 from F1.out.trans (BS.out.mono F1.out.size))
 have hcap:M≤c4:=by have h:=P4.out.cap;rw[show((A4,M,c4,L1):Rw).2.2.2.length=M from ML.out] at h;exact h
 have kc:(k:Int)≤(c4:Int):=by have:=KM.out;omega
 have PK:=Lib.hid (pc_cutoff P4.out (k:=k) (Nat.le_of_lt KM.out))
 clear hcap
 go_upto_region 9 with(first
  |(go_at_call 47;(refine(CA.out _).mono ?_);rintro e w5 ⟨rfl,rfl⟩))
 apply region_cut1 (I:=fun g w'=>Bl w' g 26 #[.int .i64 0,.int .u64 0,.slice none 0 0,.slice none 0 0]∧Below w4.heap.size w4 w')
 ·refine wp_region_held_drew (S:=fun x=>Below (w4).heap.size (w4) x) (by kernel_rfl) (below_drewN (Below.refl _ _) 1) (fun _=>?_)
  refine take_l 0 (v:=?_) rfl (by kernel_rfl) (by kernel_rfl) (by kernel_rfl) (fun _ _ _ h=>h) (Or.inl ⟨by rfl,?_⟩) (by first|exact BT.out|exact below_drewN (Below.refl _ _) 1) ?_;rotate_left
  ·intro w' hSw
   clear hSw
   go_simp
   all_goals with_reducible rfl
  try simp only[Act.put,List.setIfInBounds_toArray,List.set_cons_zero,List.set_cons_succ]
  refine take_l 1 (v:=?_) rfl (by kernel_rfl) (by kernel_rfl) (by kernel_rfl) (fun _ _ _ h=>h) (Or.inl ⟨by rfl,?_⟩) (by first|exact BT.out|exact below_drewN (Below.refl _ _) 1) ?_;rotate_left
  ·intro w' hSw
   clear hSw
   go_simp
   all_goals with_reducible rfl
  try simp only[Act.put,List.setIfInBounds_toArray,List.set_cons_zero,List.set_cons_succ]
  refine take_l 2 (v:=?_) rfl (by kernel_rfl) (by kernel_rfl) (by kernel_rfl) (fun _ _ _ h=>h) (Or.inl ⟨by rfl,?_⟩) (by first|exact BT.out|exact below_drewN (Below.refl _ _) 1) ?_;rotate_left
  ·intro w' hSw
   clear hSw
   go_simp
   all_goals with_reducible rfl
  try simp only[Act.put,List.setIfInBounds_toArray,List.set_cons_zero,List.set_cons_succ]
  refine wpAnyH_ready (rs:=[3,9]) (by kernel_rfl) (by simp) ?_
  refine cons_l rfl (fun K0 hK=>?_) (cons_l rfl (fun K0 hK=>?_) AllReadyH.nil)
  ·go_simp
   (go_at_call 46;(refine(CW.out _).mono ?_);rintro e v5 ⟨rfl,hb5⟩)
   have BT':=Lib.hid (show Below w4.heap.size w4 v5 from(by first|exact BT.out|exact below_drewN (Below.refl _ _) 1:Below w4.heap.size w4 _).trans (hb5.mono (Nat.le_refl _)))
   have BT:=Lib.hid BT'.out
   clear hb5
   refine hK.out _ _ (by first|exact BT.out|exact below_drewN (Below.refl _ _) 1) (fun _=>?_)
   clear hK K0
   try simp only[Act.put,List.setIfInBounds_toArray,List.set_cons_zero,List.set_cons_succ]
   refine wpAnyH_ready (rs:=[4,9]) (by kernel_rfl) (by simp) ?_
   refine cons_l rfl (fun K0 hK=>?_) (cons_l rfl (fun K0 hK=>?_) AllReadyH.nil)
   ·go_simp
    (go_at_call 45;(refine(CR1.out _ _ _ (PK.out.below BT.out) (fun ad e=>Nat.lt_of_lt_of_le (I4.out ad e) BT.out.size)).mono ?_);rintro e v6 ⟨hb6,rfl⟩)
    have BT':=Lib.hid (show Below w4.heap.size w4 v6 from BT.out.trans (hb6.mono BT.out.size))
    have BT:=Lib.hid BT'.out
    clear hb6
    refine hK.out _ _ (by first|exact BT.out|exact below_drewN (Below.refl _ _) 1) (fun _=>?_)
    clear hK K0
    try simp only[Act.put,List.setIfInBounds_toArray,List.set_cons_zero,List.set_cons_succ]
    refine take_l 5 (v:=?_) rfl (by kernel_rfl) (by kernel_rfl) (by kernel_rfl) (fun _ _ _ h=>h) (Or.inl ⟨by rfl,?_⟩) (by first|exact BT.out|exact below_drewN (Below.refl _ _) 1) ?_;rotate_left
    ·intro w' hSw
     clear hSw
     go_simp
     all_goals with_reducible rfl
    try simp only[Act.put,List.setIfInBounds_toArray,List.set_cons_zero,List.set_cons_succ]
    refine take_l 6 (v:=?_) rfl (by kernel_rfl) (by kernel_rfl) (by kernel_rfl) (fun _ _ _ h=>h) (Or.inl ⟨by rfl,?_⟩) (by first|exact BT.out|exact below_drewN (Below.refl _ _) 1) ?_;rotate_left
    ·intro w' hSw
     clear hSw
     go_simp
     all_goals with_reducible rfl
    try simp only[Act.put,List.setIfInBounds_toArray,List.set_cons_zero,List.set_cons_succ]
    refine take_l 7 (v:=?_) rfl (by kernel_rfl) (by kernel_rfl) (by kernel_rfl) (fun _ _ _ h=>h) (Or.inl ⟨by rfl,?_⟩) (by first|exact BT.out|exact below_drewN (Below.refl _ _) 1) ?_;rotate_left
    ·intro w' hSw
     clear hSw
     go_simp
     all_goals with_reducible rfl
    try simp only[Act.put,List.setIfInBounds_toArray,List.set_cons_zero,List.set_cons_succ]
    refine take_l 8 (v:=?_) rfl (by kernel_rfl) (by kernel_rfl) (by kernel_rfl) (fun _ _ _ h=>h) (Or.inl ⟨by rfl,?_⟩) (by first|exact BT.out|exact below_drewN (Below.refl _ _) 1) ?_;rotate_left
    ·intro w' hSw
     clear hSw
     go_simp
     all_goals with_reducible rfl
    try simp only[Act.put,List.setIfInBounds_toArray,List.set_cons_zero,List.set_cons_succ]
    refine wpAnyH_ready (rs:=[9]) (by kernel_rfl) (by simp) ?_
    refine cons_l rfl (fun K0 hK=>?_) AllReadyH.nil
    go_simp
    obtain⟨g,hg⟩:∃g,v6.heap.size=g:=⟨_,rfl⟩
    have qg:=Lib.hid (show w4.heap.size≤g from by rw[←hg];exact BT.out.size)
    have BT':=Lib.hid (show Below w4.heap.size w4 (v6.alloc nod0) from BT.out.alloc BT.out.size _)
    have BT:=Lib.hid BT'.out
    have NG:=Lib.hid (show Bl (v6.alloc nod0) g 26 #[.int .i64 0,.int .u64 0,.slice none 0 0,.slice none 0 0] from by rw[←hg];exact Bl.new_ v6 _ _)
    refine hK.out _ _ (by first|exact BT.out|exact below_drewN (Below.refl _ _) 1) (fun _=>?_)
    clear hK K0
    try simp only[Act.put,List.setIfInBounds_toArray,List.set_cons_zero,List.set_cons_succ]
    refine wpAnyH_ready (rs:=[10]) (by kernel_rfl) (by simp) ?_
    refine cons_l rfl (fun K0 hK=>?_) AllReadyH.nil
    go_simp
    refine hK.out _ _ (by first|exact below_st4q BT.out qg.out _ _ _ _|exact BT.out) (fun _=>?_)
    clear hK K0
    try simp only[Act.put,List.setIfInBounds_toArray,List.set_cons_zero,List.set_cons_succ]
    refine take_l 11 (v:=?_) rfl (by kernel_rfl) (by kernel_rfl) (by kernel_rfl) (fun _ _ _ h=>h) (Or.inl ⟨by rfl,?_⟩) (by first|exact below_st4q BT.out qg.out _ _ _ _|exact BT.out) ?_;rotate_left
    ·intro w' hSw
     clear hSw
     go_simp
     all_goals with_reducible rfl
    try simp only[Act.put,List.setIfInBounds_toArray,List.set_cons_zero,List.set_cons_succ]
    refine take_l 12 (v:=?_) rfl (by kernel_rfl) (by kernel_rfl) (by kernel_rfl) (fun _ _ _ h=>h) (Or.inl ⟨by rfl,?_⟩) (by first|exact below_st4q BT.out qg.out _ _ _ _|exact BT.out) ?_;rotate_left
    ·intro w' hSw
     clear hSw
     go_simp
     all_goals with_reducible rfl
    try simp only[Act.put,List.setIfInBounds_toArray,List.set_cons_zero,List.set_cons_succ]
    refine wpAnyH_done (by kernel_rfl) ?_ _
    first|exact⟨g,rfl,NG.out,BT.out⟩|exact⟨g,rfl,st4_bl NG.out _ _ _ _,below_st4q BT.out qg.out _ _ _ _⟩
   ·go_simp
    obtain⟨g,hg⟩:∃g,v5.heap.size=g:=⟨_,rfl⟩
    have qg:=Lib.hid (show w4.heap.size≤g from by rw[←hg];exact BT.out.size)
    have BT':=Lib.hid (show Below w4.heap.size w4 (v5.alloc nod0) from BT.out.alloc BT.out.size _)
    have BT:=Lib.hid BT'.out
    have NG:=Lib.hid (show Bl (v5.alloc nod0) g 26 #[.int .i64 0,.int .u64 0,.slice none 0 0,.slice none 0 0] from by rw[←hg];exact Bl.new_ v5 _ _)
    refine hK.out _ _ (by first|exact BT.out|exact below_drewN (Below.refl _ _) 1) (fun _=>?_)
    clear hK K0
    try simp only[Act.put,List.setIfInBounds_toArray,List.set_cons_zero,List.set_cons_succ]
    refine wpAnyH_ready (rs:=[4]) (by kernel_rfl) (by simp) ?_
    refine cons_l rfl (fun K0 hK=>?_) AllReadyH.nil
    go_simp
    (go_at_call 45;(refine(CR1.out _ _ _ (PK.out.below BT.out) (fun ad e=>Nat.lt_of_lt_of_le (I4.out ad e) BT.out.size)).mono ?_);rintro e v6 ⟨hb6,rfl⟩)
    have BT':=Lib.hid (show Below w4.heap.size w4 v6 from BT.out.trans (hb6.mono BT.out.size))
    have NG:=Lib.hid (NG.out.below' hb6)
    have z0:(v6).cell? ⟨g,0,none⟩=some (.int .i64 0):=(NG.out).cell_ rfl
    have z1:(v6).cell? ⟨g,1,none⟩=some (.int .u64 0):=(NG.out).cell_ rfl
    have z2:(v6).cell? ⟨g,2,none⟩=some (.slice none 0 0):=(NG.out).cell_ rfl
    have z3:(v6).cell? ⟨g,3,none⟩=some (.slice none 0 0):=(NG.out).cell_ rfl
    have f0:=NG.out.frozen 0
    have f1:=NG.out.frozen 1
    have f2:=NG.out.frozen 2
    have f3:=NG.out.frozen 3
    have BT:=Lib.hid BT'.out
    clear hb6
    refine hK.out _ _ (by first|exact BT.out|exact below_drewN (Below.refl _ _) 1) (fun _=>?_)
    clear hK K0
    try simp only[Act.put,List.setIfInBounds_toArray,List.set_cons_zero,List.set_cons_succ]
    refine take_l 5 (v:=?_) rfl (by kernel_rfl) (by kernel_rfl) (by kernel_rfl) (fun _ _ _ h=>h) (Or.inl ⟨by rfl,?_⟩) (by first|exact BT.out|exact below_drewN (Below.refl _ _) 1) ?_;rotate_left
    ·intro w' hSw
     clear hSw
     go_simp
     all_goals with_reducible rfl
    try simp only[Act.put,List.setIfInBounds_toArray,List.set_cons_zero,List.set_cons_succ]
    refine take_l 6 (v:=?_) rfl (by kernel_rfl) (by kernel_rfl) (by kernel_rfl) (fun _ _ _ h=>h) (Or.inl ⟨by rfl,?_⟩) (by first|exact BT.out|exact below_drewN (Below.refl _ _) 1) ?_;rotate_left
    ·intro w' hSw
     clear hSw
     go_simp
     all_goals with_reducible rfl
    try simp only[Act.put,List.setIfInBounds_toArray,List.set_cons_zero,List.set_cons_succ]
    refine take_l 7 (v:=?_) rfl (by kernel_rfl) (by kernel_rfl) (by kernel_rfl) (fun _ _ _ h=>h) (Or.inl ⟨by rfl,?_⟩) (by first|exact BT.out|exact below_drewN (Below.refl _ _) 1) ?_;rotate_left
    ·intro w' hSw
     clear hSw
     go_simp
     all_goals with_reducible rfl
    try simp only[Act.put,List.setIfInBounds_toArray,List.set_cons_zero,List.set_cons_succ]
    refine take_l 8 (v:=?_) rfl (by kernel_rfl) (by kernel_rfl) (by kernel_rfl) (fun _ _ _ h=>h) (Or.inl ⟨by rfl,?_⟩) (by first|exact BT.out|exact below_drewN (Below.refl _ _) 1) ?_;rotate_left
    ·intro w' hSw
     clear hSw
     go_simp
     all_goals with_reducible rfl
    try simp only[Act.put,List.setIfInBounds_toArray,List.set_cons_zero,List.set_cons_succ]
    refine wpAnyH_ready (rs:=[10]) (by kernel_rfl) (by simp) ?_
    refine cons_l rfl (fun K0 hK=>?_) AllReadyH.nil
    go_simp
    refine hK.out _ _ (by first|exact below_st4q BT.out qg.out _ _ _ _|exact BT.out) (fun _=>?_)
    clear hK K0
    try simp only[Act.put,List.setIfInBounds_toArray,List.set_cons_zero,List.set_cons_succ]
    refine take_l 11 (v:=?_) rfl (by kernel_rfl) (by kernel_rfl) (by kernel_rfl) (fun _ _ _ h=>h) (Or.inl ⟨by rfl,?_⟩) (by first|exact below_st4q BT.out qg.out _ _ _ _|exact BT.out) ?_;rotate_left
    ·intro w' hSw
     clear hSw
     go_simp
     all_goals with_reducible rfl
    try simp only[Act.put,List.setIfInBounds_toArray,List.set_cons_zero,List.set_cons_succ]
    refine take_l 12 (v:=?_) rfl (by kernel_rfl) (by kernel_rfl) (by kernel_rfl) (fun _ _ _ h=>h) (Or.inl ⟨by rfl,?_⟩) (by first|exact below_st4q BT.out qg.out _ _ _ _|exact BT.out) ?_;rotate_left
    ·intro w' hSw
     clear hSw
     go_simp
     all_goals with_reducible rfl
    try simp only[Act.put,List.setIfInBounds_toArray,List.set_cons_zero,List.set_cons_succ]
    refine wpAnyH_done (by kernel_rfl) ?_ _
    first|exact⟨g,rfl,NG.out,BT.out⟩|exact⟨g,rfl,st4_bl NG.out _ _ _ _,below_st4q BT.out qg.out _ _ _ _⟩
  ·go_simp
   obtain⟨g,hg⟩:∃g,w4.heap.size=g:=⟨_,rfl⟩
   have qg:=Lib.hid (show w4.heap.size≤g from by rw[←hg];exact Nat.le_refl _)
   have BT:=Lib.hid (show Below w4.heap.size w4 (w4.alloc nod0).drew from below_drewN ((Below.refl _ w4).alloc (Nat.le_refl _) _) 1)
   have NG:=Lib.hid (show Bl (w4.alloc nod0).drew g 26 #[.int .i64 0,.int .u64 0,.slice none 0 0,.slice none 0 0] from by rw[←hg];exact Bl.new_ w4 _ _)
   refine hK.out _ _ (by first|exact BT.out|exact below_drewN (Below.refl _ _) 1) (fun _=>?_)
   clear hK K0
   try simp only[Act.put,List.setIfInBounds_toArray,List.set_cons_zero,List.set_cons_succ]
   refine wpAnyH_ready (rs:=[3]) (by kernel_rfl) (by simp) ?_
   refine cons_l rfl (fun K0 hK=>?_) AllReadyH.nil
   go_simp
   (go_at_call 46;(refine(CW.out _).mono ?_);rintro e v5 ⟨rfl,hb5⟩)
   have BT':=Lib.hid (show Below w4.heap.size w4 v5 from(by first|exact BT.out|exact below_drewN (Below.refl _ _) 1:Below w4.heap.size w4 _).trans (hb5.mono BT.out.size))
   have NG:=Lib.hid (NG.out.below' hb5)
   have BT:=Lib.hid BT'.out
   clear hb5
   refine hK.out _ _ (by first|exact BT.out|exact below_drewN (Below.refl _ _) 1) (fun _=>?_)
   clear hK K0
   try simp only[Act.put,List.setIfInBounds_toArray,List.set_cons_zero,List.set_cons_succ]
   refine wpAnyH_ready (rs:=[4]) (by kernel_rfl) (by simp) ?_
   refine cons_l rfl (fun K0 hK=>?_) AllReadyH.nil
   go_simp
   (go_at_call 45;(refine(CR1.out _ _ _ (PK.out.below BT.out) (fun ad e=>Nat.lt_of_lt_of_le (I4.out ad e) BT.out.size)).mono ?_);rintro e v6 ⟨hb6,rfl⟩)
   have BT':=Lib.hid (show Below w4.heap.size w4 v6 from BT.out.trans (hb6.mono BT.out.size))
   have NG:=Lib.hid (NG.out.below' hb6)
   have z0:(v6).cell? ⟨g,0,none⟩=some (.int .i64 0):=(NG.out).cell_ rfl
   have z1:(v6).cell? ⟨g,1,none⟩=some (.int .u64 0):=(NG.out).cell_ rfl
   have z2:(v6).cell? ⟨g,2,none⟩=some (.slice none 0 0):=(NG.out).cell_ rfl
   have z3:(v6).cell? ⟨g,3,none⟩=some (.slice none 0 0):=(NG.out).cell_ rfl
   have f0:=NG.out.frozen 0
   have f1:=NG.out.frozen 1
   have f2:=NG.out.frozen 2
   have f3:=NG.out.frozen 3
   have BT:=Lib.hid BT'.out
   clear hb6
   refine hK.out _ _ (by first|exact BT.out|exact below_drewN (Below.refl _ _) 1) (fun _=>?_)
   clear hK K0
   try simp only[Act.put,List.setIfInBounds_toArray,List.set_cons_zero,List.set_cons_succ]
   refine take_l 5 (v:=?_) rfl (by kernel_rfl) (by kernel_rfl) (by kernel_rfl) (fun _ _ _ h=>h) (Or.inl ⟨by rfl,?_⟩) (by first|exact BT.out|exact below_drewN (Below.refl _ _) 1) ?_;rotate_left
   ·intro w' hSw
    clear hSw
    go_simp
    all_goals with_reducible rfl
   try simp only[Act.put,List.setIfInBounds_toArray,List.set_cons_zero,List.set_cons_succ]
   refine take_l 6 (v:=?_) rfl (by kernel_rfl) (by kernel_rfl) (by kernel_rfl) (fun _ _ _ h=>h) (Or.inl ⟨by rfl,?_⟩) (by first|exact BT.out|exact below_drewN (Below.refl _ _) 1) ?_;rotate_left
   ·intro w' hSw
    clear hSw
    go_simp
    all_goals with_reducible rfl
   try simp only[Act.put,List.setIfInBounds_toArray,List.set_cons_zero,List.set_cons_succ]
   refine take_l 7 (v:=?_) rfl (by kernel_rfl) (by kernel_rfl) (by kernel_rfl) (fun _ _ _ h=>h) (Or.inl ⟨by rfl,?_⟩) (by first|exact BT.out|exact below_drewN (Below.refl _ _) 1) ?_;rotate_left
   ·intro w' hSw
    clear hSw
    go_simp
    all_goals with_reducible rfl
   try simp only[Act.put,List.setIfInBounds_toArray,List.set_cons_zero,List.set_cons_succ]
   refine take_l 8 (v:=?_) rfl (by kernel_rfl) (by kernel_rfl) (by kernel_rfl) (fun _ _ _ h=>h) (Or.inl ⟨by rfl,?_⟩) (by first|exact BT.out|exact below_drewN (Below.refl _ _) 1) ?_;rotate_left
   ·intro w' hSw
    clear hSw
    go_simp
    all_goals with_reducible rfl
   try simp only[Act.put,List.setIfInBounds_toArray,List.set_cons_zero,List.set_cons_succ]
   refine wpAnyH_ready (rs:=[10]) (by kernel_rfl) (by simp) ?_
   refine cons_l rfl (fun K0 hK=>?_) AllReadyH.nil
   go_simp
   refine hK.out _ _ (by first|exact below_st4q BT.out qg.out _ _ _ _|exact BT.out) (fun _=>?_)
   clear hK K0
   try simp only[Act.put,List.setIfInBounds_toArray,List.set_cons_zero,List.set_cons_succ]
   refine take_l 11 (v:=?_) rfl (by kernel_rfl) (by kernel_rfl) (by kernel_rfl) (fun _ _ _ h=>h) (Or.inl ⟨by rfl,?_⟩) (by first|exact below_st4q BT.out qg.out _ _ _ _|exact BT.out) ?_;rotate_left
   ·intro w' hSw
    clear hSw
    go_simp
    all_goals with_reducible rfl
   try simp only[Act.put,List.setIfInBounds_toArray,List.set_cons_zero,List.set_cons_succ]
   refine take_l 12 (v:=?_) rfl (by kernel_rfl) (by kernel_rfl) (by kernel_rfl) (fun _ _ _ h=>h) (Or.inl ⟨by rfl,?_⟩) (by first|exact below_st4q BT.out qg.out _ _ _ _|exact BT.out) ?_;rotate_left
   ·intro w' hSw
    clear hSw
    go_simp
    all_goals with_reducible rfl
   try simp only[Act.put,List.setIfInBounds_toArray,List.set_cons_zero,List.set_cons_succ]
   refine wpAnyH_done (by kernel_rfl) ?_ _
   first|exact⟨g,rfl,NG.out,BT.out⟩|exact⟨g,rfl,st4_bl NG.out _ _ _ _,below_st4q BT.out qg.out _ _ _ _⟩
 rintro g u9 ⟨hg9,hb9⟩
 have NG:=Lib.hid hg9
 have F9:=Lib.hid (show Below U.heap.size U u9 from F4.out.trans (hb9.mono F4.out.size))
 have zz:u9.cell? ⟨g,0,none⟩=some (.int .i64 0):=NG.out.cell_ rfl
 clear hg9 hb9
 go_wp2_with (first
  |(go_at_call 11;(refine(KN.out _).mono ?_);rintro e w3 ⟨rfl,hb3⟩;have F3:=Lib.hid hb3;clear hb3))
 go_ret
 exact⟨rfl,BU.out.trans ((F9.out.trans (F3.out.mono F9.out.size)).mono BU.out.size)⟩
end Go.Proofs.Ytkahelhoaihajaa.Wr
