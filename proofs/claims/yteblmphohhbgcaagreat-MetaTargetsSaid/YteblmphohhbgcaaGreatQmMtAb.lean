/- Joined texts. -/
import Derived.Test.YteblmphohhbgcaaGreatQmMtAa
set_option linter.unusedVariables false
namespace Go.Proofs.YteblmphohhbgcaaGreat.Mt
open Go.RowKit Go.Proofs.YteblmphohhbgcaaGreat.Gn Go.Proofs.YteblmphohhbgcaaGreat.Fd Go.Proofs.YteblmphohhbgcaaGreat.Wr Go.Deep
set_option maxRecDepth 100000
theorem rwrite_wpq{w:World}{v:Tv}{V:Nd}(hv:Ok w v)(hn:Wr.nd v=V)(hz:Wr.sz v≤2000):Calls Tryz.prog 75 #[v.val,lim 8192 8 1024 8192] w (WpQ (wern 8192 8 1024 8192 V) (wout 8192 8 1024 8192 V) w):=by
 subst hn
 obtain⟨-, h2,-, h4⟩:=nd_all v hv
 have h:=RWrite_any hv 8192 8 1024 8192 hz
 rw[show max (8192:Int) 0=8192 from rfl,show max (8:Int) 0=8 from rfl,show max (1024:Int) 0=1024 from rfl] at h
 refine h.mono fun e w' ⟨hb,h⟩=>⟨hb,?_⟩
 rw[wer_nd hv,h2] at h
 unfold wout
 rcases h with⟨h1,T',rfl,h3⟩|⟨h1,rfl⟩
 ·rw[if_pos h1,h1]
  obtain⟨A,cp,rfl,s1,s2,s3,-, s5⟩:=Sl.own h3
  have s0:=smn_ok v hv (by omega)
  exact⟨A,cp,rfl,⟨rfl,s1,wbn_lt v hv (wern_rn h1) s0,s3,s2⟩,fun ad e=>(s5 ad e).2⟩
 ·rw[if_neg h1]
  exact⟨none,0,rfl,nil_pc _,(fun ad e=>by cases e)⟩
set_option maxHeartbeats 4000000 in
theorem written_d(ok:Bool){v:Tv}{V:Nd}{w:World}(hv:Ok w v)(hn:Wr.nd v=V)(hz:ok=true→Wr.sz v≤2000):Calls Tryz.prog 39 #[.bool ok,v.val] w (WpQ (wE ok V) (wL ok V) w):=by
 have HV:=Lib.hid hv
 have HN:=Lib.hid hn
 have CW0:=Lib.hid (fun(h:ok=true) u (hu:Below w.heap.size w u)=>rwrite_wpq (hv.keep hu) hn (hz h))
 clear hv hn hz
 obtain⟨K,n,r,A,c,ks⟩:=v
 simp only[Tv.val,Tv.row] at CW0 ⊢
 obtain⟨P,hP⟩:∃P,ks.length=P:=⟨_,rfl⟩
 rw[hP] at CW0 ⊢
 obtain⟨U,hU⟩:∃U,w.alloc (.cells #[.int .i64 K,.int .u64 (n:Int),.slice r.1 r.2.1 r.2.2.1,.slice A P c] 75)=U:=⟨_,rfl⟩
 have BU:=Lib.hid (show Below w.heap.size w U from by rw[←hU];exact below_one w _)
 have XB:=Lib.hid (show Bl U w.heap.size 75 #[.int .i64 K,.int .u64 (n:Int),.slice r.1 r.2.1 r.2.2.1,.slice A P c] from by rw[←hU];exact Bl.new_ w _ _)
 have D0:=Lib.hid (show Below U.heap.size U U.drew from below_drewN (Below.refl _ U) 1)
 clear hP
 cases ok with
 |false =>
  rw[wE_no,wL_no]
  clear CW0
  go_enter Tryz.func39,Tryz.ntmps39
  go_wp2_with fail
  go_ret2
  exact wpq_nil _ BU.out
 |true =>
  have CW1:=Lib.hid (CW0.out rfl)
  clear CW0
  rw[wL_ok]
  obtain⟨er,hW⟩:∃er,wern 8192 8 1024 8192 V=er:=⟨_,rfl⟩
  obtain⟨Y,hY⟩:∃Y,wout 8192 8 1024 8192 V=Y:=⟨_,rfl⟩
  by_cases hw:er=0
  ·rw[wE_ok (hW.trans hw),hY]
   rw[hw] at hW
   have CW:=Lib.hid (fun u (hu:Below U.heap.size U u)=>CW1.out u (BU.out.trans (hu.mono BU.out.size)))
   rw[hW,hY] at CW
   clear CW1 hW hY hw
   go_enter Tryz.func39,Tryz.ntmps39
   go_upto_region 3 with(fail)
   refine wp_region_held_drew (S:=fun x=>Bl x w.heap.size 75 #[.int .i64 K,.int .u64 (n:Int),.slice r.1 r.2.1 r.2.2.1,.slice A P c]) (by kernel_rfl) (XB.out) (fun _=>?_)
   refine take_l 0 (v:=?_) rfl (by kernel_rfl) (by kernel_rfl) (by kernel_rfl) (fun _ _ _ h=>h) (Or.inl ⟨by rfl,?_⟩) (XB.out) ?_;rotate_left
   ·intro w' hSw
    have hS0:w'.cell? ⟨w.heap.size,0,none⟩=some (.int .i64 K):=hSw.cell_ rfl
    have hS1:w'.cell? ⟨w.heap.size,1,none⟩=some (.int .u64 (n:Int)):=hSw.cell_ rfl
    have hS2:w'.cell? ⟨w.heap.size,2,none⟩=some (.slice r.1 r.2.1 r.2.2.1):=hSw.cell_ rfl
    have hS3:w'.cell? ⟨w.heap.size,3,none⟩=some (.slice A P c):=hSw.cell_ rfl
    clear hSw
    go_simp
    all_goals with_reducible rfl
   try simp only[Act.put,List.setIfInBounds_toArray,List.set_cons_zero,List.set_cons_succ]
   refine wpAnyH_ready (rs:=[1]) (by kernel_rfl) (by simp) ?_
   refine cons_l rfl (fun K0 hK=>?_) AllReadyH.nil
   go_simp
   (go_at_call 76;(refine(rlimits_any _).mono ?_);rintro e1 w1 ⟨rfl,h1⟩)
   have B1:=Lib.hid (D0.out.trans (h1.mono D0.out.size))
   clear h1
   refine hK.out _ _ (XB.out.below' B1.out) (fun _=>?_)
   clear hK K0
   try simp only[Act.put,List.setIfInBounds_toArray,List.set_cons_zero,List.set_cons_succ]
   refine wpAnyH_ready (rs:=[2]) (by kernel_rfl) (by simp) ?_
   refine cons_l rfl (fun K0 hK=>?_) AllReadyH.nil
   go_simp
   (go_at_call 75;(refine(CW.out _ B1.out).mono ?_);rintro e2 w2 ⟨h1,A2,c2,rfl,h2,h3⟩)
   have B2:=Lib.hid (B1.out.trans (h1.mono B1.out.size))
   have W2:=Lib.hid (wpq_up (B:=w) (er:=0) (BU.out.trans (B2.out.mono BU.out.size)) h2 h3)
   clear h1 h2 h3
   refine hK.out _ _ (XB.out.below' B2.out) (fun _=>?_)
   clear hK K0
   try simp only[Act.put,List.setIfInBounds_toArray,List.set_cons_zero,List.set_cons_succ]
   refine take_l 3 (v:=?_) rfl (by kernel_rfl) (by kernel_rfl) (by kernel_rfl) (fun _ _ _ h=>h) (Or.inl ⟨by rfl,?_⟩) (XB.out.below' B2.out) ?_;rotate_left
   ·intro w' hSw
    clear hSw
    go_simp
    all_goals with_reducible rfl
   try simp only[Act.put,List.setIfInBounds_toArray,List.set_cons_zero,List.set_cons_succ]
   refine take_l 4 (v:=?_) rfl (by kernel_rfl) (by kernel_rfl) (by kernel_rfl) (fun _ _ _ h=>h) (Or.inl ⟨by rfl,?_⟩) (XB.out.below' B2.out) ?_;rotate_left
   ·intro w' hSw
    clear hSw
    go_simp
    all_goals with_reducible rfl
   try simp only[Act.put,List.setIfInBounds_toArray,List.set_cons_zero,List.set_cons_succ]
   refine take_l 5 (v:=?_) rfl (by kernel_rfl) (by kernel_rfl) (by kernel_rfl) (fun _ _ _ h=>h) (Or.inl ⟨by rfl,?_⟩) (XB.out.below' B2.out) ?_;rotate_left
   ·intro w' hSw
    clear hSw
    go_simp
    all_goals with_reducible rfl
   try simp only[Act.put,List.setIfInBounds_toArray,List.set_cons_zero,List.set_cons_succ]
   refine take_l 6 (v:=?_) rfl (by kernel_rfl) (by kernel_rfl) (by kernel_rfl) (fun _ _ _ h=>h) (Or.inl ⟨by rfl,?_⟩) (XB.out.below' B2.out) ?_;rotate_left
   ·intro w' hSw
    clear hSw
    go_simp
    all_goals with_reducible rfl
   try simp only[Act.put,List.setIfInBounds_toArray,List.set_cons_zero,List.set_cons_succ]
   refine take_l 7 (v:=?_) rfl (by kernel_rfl) (by kernel_rfl) (by kernel_rfl) (fun _ _ _ h=>h) (Or.inl ⟨by rfl,?_⟩) (XB.out.below' B2.out) ?_;rotate_left
   ·intro w' hSw
    clear hSw
    go_simp
    all_goals with_reducible rfl
   try simp only[Act.put,List.setIfInBounds_toArray,List.set_cons_zero,List.set_cons_succ]
   refine wpAnyH_done (by kernel_rfl) ?_ _
   go_wp2_with fail
   go_ret2
   exact W2.out
  ·rw[wE_long (show ¬wern 8192 8 1024 8192 V=0 by rw[hW];exact hw),hY,show Y=[] from hY.symm.trans (if_neg (by rw[hW];exact hw))]
   have CW:=Lib.hid (fun u (hu:Below U.heap.size U u)=>CW1.out u (BU.out.trans (hu.mono BU.out.size)))
   rw[hW,hY] at CW
   clear CW1 hW hY
   go_enter Tryz.func39,Tryz.ntmps39
   go_upto_region 3 with(fail)
   refine wp_region_held_drew (S:=fun x=>Bl x w.heap.size 75 #[.int .i64 K,.int .u64 (n:Int),.slice r.1 r.2.1 r.2.2.1,.slice A P c]) (by kernel_rfl) (XB.out) (fun _=>?_)
   refine take_l 0 (v:=?_) rfl (by kernel_rfl) (by kernel_rfl) (by kernel_rfl) (fun _ _ _ h=>h) (Or.inl ⟨by rfl,?_⟩) (XB.out) ?_;rotate_left
   ·intro w' hSw
    have hS0:w'.cell? ⟨w.heap.size,0,none⟩=some (.int .i64 K):=hSw.cell_ rfl
    have hS1:w'.cell? ⟨w.heap.size,1,none⟩=some (.int .u64 (n:Int)):=hSw.cell_ rfl
    have hS2:w'.cell? ⟨w.heap.size,2,none⟩=some (.slice r.1 r.2.1 r.2.2.1):=hSw.cell_ rfl
    have hS3:w'.cell? ⟨w.heap.size,3,none⟩=some (.slice A P c):=hSw.cell_ rfl
    clear hSw
    go_simp
    all_goals with_reducible rfl
   try simp only[Act.put,List.setIfInBounds_toArray,List.set_cons_zero,List.set_cons_succ]
   refine wpAnyH_ready (rs:=[1]) (by kernel_rfl) (by simp) ?_
   refine cons_l rfl (fun K0 hK=>?_) AllReadyH.nil
   go_simp
   (go_at_call 76;(refine(rlimits_any _).mono ?_);rintro e1 w1 ⟨rfl,h1⟩)
   have B1:=Lib.hid (D0.out.trans (h1.mono D0.out.size))
   clear h1
   refine hK.out _ _ (XB.out.below' B1.out) (fun _=>?_)
   clear hK K0
   try simp only[Act.put,List.setIfInBounds_toArray,List.set_cons_zero,List.set_cons_succ]
   refine wpAnyH_ready (rs:=[2]) (by kernel_rfl) (by simp) ?_
   refine cons_l rfl (fun K0 hK=>?_) AllReadyH.nil
   go_simp
   (go_at_call 75;(refine(CW.out _ B1.out).mono ?_);rintro e2 w2 ⟨h1,A2,c2,rfl,h2,h3⟩)
   have B2:=Lib.hid (B1.out.trans (h1.mono B1.out.size))
   have W2:=Lib.hid (wpq_up (B:=w) (er:=0) (BU.out.trans (B2.out.mono BU.out.size)) h2 h3)
   clear h1 h2 h3
   refine hK.out _ _ (XB.out.below' B2.out) (fun _=>?_)
   clear hK K0
   try simp only[Act.put,List.setIfInBounds_toArray,List.set_cons_zero,List.set_cons_succ]
   refine take_l 3 (v:=?_) rfl (by kernel_rfl) (by kernel_rfl) (by kernel_rfl) (fun _ _ _ h=>h) (Or.inl ⟨by rfl,?_⟩) (XB.out.below' B2.out) ?_;rotate_left
   ·intro w' hSw
    clear hSw
    go_simp
    all_goals with_reducible rfl
   try simp only[Act.put,List.setIfInBounds_toArray,List.set_cons_zero,List.set_cons_succ]
   refine take_l 4 (v:=?_) rfl (by kernel_rfl) (by kernel_rfl) (by kernel_rfl) (fun _ _ _ h=>h) (Or.inl ⟨by rfl,?_⟩) (XB.out.below' B2.out) ?_;rotate_left
   ·intro w' hSw
    clear hSw
    go_simp
    all_goals with_reducible rfl
   try simp only[Act.put,List.setIfInBounds_toArray,List.set_cons_zero,List.set_cons_succ]
   refine take_l 5 (v:=?_) rfl (by kernel_rfl) (by kernel_rfl) (by kernel_rfl) (fun _ _ _ h=>h) (Or.inl ⟨by rfl,?_⟩) (XB.out.below' B2.out) ?_;rotate_left
   ·intro w' hSw
    clear hSw
    go_simp
    all_goals with_reducible rfl
   try simp only[Act.put,List.setIfInBounds_toArray,List.set_cons_zero,List.set_cons_succ]
   refine take_l 6 (v:=?_) rfl (by kernel_rfl) (by kernel_rfl) (by kernel_rfl) (fun _ _ _ h=>h) (Or.inl ⟨by rfl,?_⟩) (XB.out.below' B2.out) ?_;rotate_left
   ·intro w' hSw
    clear hSw
    go_simp
    all_goals with_reducible rfl
   try simp only[Act.put,List.setIfInBounds_toArray,List.set_cons_zero,List.set_cons_succ]
   refine take_l 7 (v:=?_) rfl (by kernel_rfl) (by kernel_rfl) (by kernel_rfl) (fun _ _ _ h=>h) (Or.inl ⟨by rfl,?_⟩) (XB.out.below' B2.out) ?_;rotate_left
   ·intro w' hSw
    clear hSw
    go_simp
    all_goals with_reducible rfl
   try simp only[Act.put,List.setIfInBounds_toArray,List.set_cons_zero,List.set_cons_succ]
   refine wpAnyH_done (by kernel_rfl) ?_ _
   go_wp2_with fail
   go_ret2
   exact wpq_nil _ W2.out.1
theorem ok5{w:World}{a b c d e:Tv}(h1:Ok w a)(h2:Ok w b)(h3:Ok w c)(h4:Ok w d)(h5:Ok w e):∀t∈[a,b,c,d,e],Ok w t:=by
 intro t ht
 rcases List.mem_cons.1 ht with rfl|ht
 ·exact h1
 rcases List.mem_cons.1 ht with rfl|ht
 ·exact h2
 exact ok3 h3 h4 h5 t ht
set_option maxHeartbeats 4000000 in
theorem RWrite_timestamp{w:World}{v e rv rs:Int}{rA:Option Addr}{rn rc:Nat}{rl:List Nat}(hp:Pc w (rA,rn,rc,rl)):Calls Tryz.prog 18 #[.agg #[.int .i64 v,.int .i64 e,.int .i64 rv,.int .i64 rs,.slice rA rn rc]] w (WpQ (wE (tmB v e rv rs rn) (lN (tmN v e rv rs rl))) (wL (tmB v e rv rs rn) (lN (tmN v e rv rs rl))) w):=by
 have HP:=Lib.hid hp
 have LN:=Lib.hid (show tmB v e rv rs rn=true→rn=32 from fun h=>tmB_len h)
 clear hp
 obtain⟨U,hU⟩:∃U,w.alloc (.cells #[.int .i64 v,.int .i64 e,.int .i64 rv,.int .i64 rs,.slice rA rn rc] 40)=U:=⟨_,rfl⟩
 have BU:=Lib.hid (show Below w.heap.size w U from by rw[←hU];exact below_one w _)
 have XB:=Lib.hid (show Bl U w.heap.size 40 #[.int .i64 v,.int .i64 e,.int .i64 rv,.int .i64 rs,.slice rA rn rc] from by rw[←hU];exact Bl.new_ w _ _)
 have D0:=Lib.hid (show Below U.heap.size U U.drew from below_drewN (Below.refl _ U) 1)
 have CK:=Lib.hid (fun u=>TimeOK_d v e rv rs rA rn rc u)
 obtain⟨ok,hok⟩:∃ok,tmB v e rv rs rn=ok:=⟨_,rfl⟩
 rw[hok] at CK LN ⊢
 obtain⟨V,hV⟩:∃V,lN (tmN v e rv rs rl)=V:=⟨_,rfl⟩
 obtain⟨er,hE⟩:∃er,wE ok V=er:=⟨_,rfl⟩
 obtain⟨Y,hY⟩:∃Y,wL ok V=Y:=⟨_,rfl⟩
 have HV:=Lib.hid hV
 have HE:=Lib.hid hE
 have HY:=Lib.hid hY
 rw[hV,hE,hY]
 clear hok hV hE hY
 go_enter Tryz.func18,Tryz.ntmps18
 go_upto_region 1 with(fail)
 clear hU
 refine wp_region_held_drew (S:=fun x=>Bl x w.heap.size 40 #[.int .i64 v,.int .i64 e,.int .i64 rv,.int .i64 rs,.slice rA rn rc]) (by kernel_rfl) (XB.out) (fun _=>?_)
 refine take_l 0 (v:=?_) rfl (by kernel_rfl) (by kernel_rfl) (by kernel_rfl) (fun _ _ _ h=>h) (Or.inl ⟨by rfl,?_⟩) (XB.out) ?_;rotate_left
 ·intro w' hSw
  have hS0:w'.cell? ⟨w.heap.size,0,none⟩=some (.int .i64 v):=hSw.cell_ rfl
  have hS1:w'.cell? ⟨w.heap.size,1,none⟩=some (.int .i64 e):=hSw.cell_ rfl
  have hS2:w'.cell? ⟨w.heap.size,2,none⟩=some (.int .i64 rv):=hSw.cell_ rfl
  have hS3:w'.cell? ⟨w.heap.size,3,none⟩=some (.int .i64 rs):=hSw.cell_ rfl
  have hS4:w'.cell? ⟨w.heap.size,4,none⟩=some (.slice rA rn rc):=hSw.cell_ rfl
  clear hSw
  go_simp
  all_goals with_reducible rfl
 try simp only[Act.put,List.setIfInBounds_toArray,List.set_cons_zero,List.set_cons_succ]
 refine take_l 2 (v:=?_) rfl (by kernel_rfl) (by kernel_rfl) (by kernel_rfl) (fun _ _ _ h=>h) (Or.inl ⟨by rfl,?_⟩) (XB.out) ?_;rotate_left
 ·intro w' hSw
  have hS0:w'.cell? ⟨w.heap.size,0,none⟩=some (.int .i64 v):=hSw.cell_ rfl
  have hS1:w'.cell? ⟨w.heap.size,1,none⟩=some (.int .i64 e):=hSw.cell_ rfl
  have hS2:w'.cell? ⟨w.heap.size,2,none⟩=some (.int .i64 rv):=hSw.cell_ rfl
  have hS3:w'.cell? ⟨w.heap.size,3,none⟩=some (.int .i64 rs):=hSw.cell_ rfl
  have hS4:w'.cell? ⟨w.heap.size,4,none⟩=some (.slice rA rn rc):=hSw.cell_ rfl
  clear hSw
  go_simp
  all_goals with_reducible rfl
 try simp only[Act.put,List.setIfInBounds_toArray,List.set_cons_zero,List.set_cons_succ]
 refine take_l 3 (v:=?_) rfl (by kernel_rfl) (by kernel_rfl) (by kernel_rfl) (fun _ _ _ h=>h) (Or.inl ⟨by rfl,?_⟩) (XB.out) ?_;rotate_left
 ·intro w' hSw
  have hS0:w'.cell? ⟨w.heap.size,0,none⟩=some (.int .i64 v):=hSw.cell_ rfl
  have hS1:w'.cell? ⟨w.heap.size,1,none⟩=some (.int .i64 e):=hSw.cell_ rfl
  have hS2:w'.cell? ⟨w.heap.size,2,none⟩=some (.int .i64 rv):=hSw.cell_ rfl
  have hS3:w'.cell? ⟨w.heap.size,3,none⟩=some (.int .i64 rs):=hSw.cell_ rfl
  have hS4:w'.cell? ⟨w.heap.size,4,none⟩=some (.slice rA rn rc):=hSw.cell_ rfl
  clear hSw
  go_simp
  all_goals with_reducible rfl
 try simp only[Act.put,List.setIfInBounds_toArray,List.set_cons_zero,List.set_cons_succ]
 refine take_l 5 (v:=?_) rfl (by kernel_rfl) (by kernel_rfl) (by kernel_rfl) (fun _ _ _ h=>h) (Or.inl ⟨by rfl,?_⟩) (XB.out) ?_;rotate_left
 ·intro w' hSw
  have hS0:w'.cell? ⟨w.heap.size,0,none⟩=some (.int .i64 v):=hSw.cell_ rfl
  have hS1:w'.cell? ⟨w.heap.size,1,none⟩=some (.int .i64 e):=hSw.cell_ rfl
  have hS2:w'.cell? ⟨w.heap.size,2,none⟩=some (.int .i64 rv):=hSw.cell_ rfl
  have hS3:w'.cell? ⟨w.heap.size,3,none⟩=some (.int .i64 rs):=hSw.cell_ rfl
  have hS4:w'.cell? ⟨w.heap.size,4,none⟩=some (.slice rA rn rc):=hSw.cell_ rfl
  clear hSw
  go_simp
  all_goals with_reducible rfl
 try simp only[Act.put,List.setIfInBounds_toArray,List.set_cons_zero,List.set_cons_succ]
 refine take_l 6 (v:=?_) rfl (by kernel_rfl) (by kernel_rfl) (by kernel_rfl) (fun _ _ _ h=>h) (Or.inl ⟨by rfl,?_⟩) (XB.out) ?_;rotate_left
 ·intro w' hSw
  have hS0:w'.cell? ⟨w.heap.size,0,none⟩=some (.int .i64 v):=hSw.cell_ rfl
  have hS1:w'.cell? ⟨w.heap.size,1,none⟩=some (.int .i64 e):=hSw.cell_ rfl
  have hS2:w'.cell? ⟨w.heap.size,2,none⟩=some (.int .i64 rv):=hSw.cell_ rfl
  have hS3:w'.cell? ⟨w.heap.size,3,none⟩=some (.int .i64 rs):=hSw.cell_ rfl
  have hS4:w'.cell? ⟨w.heap.size,4,none⟩=some (.slice rA rn rc):=hSw.cell_ rfl
  clear hSw
  go_simp
  all_goals with_reducible rfl
 try simp only[Act.put,List.setIfInBounds_toArray,List.set_cons_zero,List.set_cons_succ]
 refine take_l 8 (v:=?_) rfl (by kernel_rfl) (by kernel_rfl) (by kernel_rfl) (fun _ _ _ h=>h) (Or.inl ⟨by rfl,?_⟩) (XB.out) ?_;rotate_left
 ·intro w' hSw
  have hS0:w'.cell? ⟨w.heap.size,0,none⟩=some (.int .i64 v):=hSw.cell_ rfl
  have hS1:w'.cell? ⟨w.heap.size,1,none⟩=some (.int .i64 e):=hSw.cell_ rfl
  have hS2:w'.cell? ⟨w.heap.size,2,none⟩=some (.int .i64 rv):=hSw.cell_ rfl
  have hS3:w'.cell? ⟨w.heap.size,3,none⟩=some (.int .i64 rs):=hSw.cell_ rfl
  have hS4:w'.cell? ⟨w.heap.size,4,none⟩=some (.slice rA rn rc):=hSw.cell_ rfl
  clear hSw
  go_simp
  all_goals with_reducible rfl
 try simp only[Act.put,List.setIfInBounds_toArray,List.set_cons_zero,List.set_cons_succ]
 refine take_l 9 (v:=?_) rfl (by kernel_rfl) (by kernel_rfl) (by kernel_rfl) (fun _ _ _ h=>h) (Or.inl ⟨by rfl,?_⟩) (XB.out) ?_;rotate_left
 ·intro w' hSw
  have hS0:w'.cell? ⟨w.heap.size,0,none⟩=some (.int .i64 v):=hSw.cell_ rfl
  have hS1:w'.cell? ⟨w.heap.size,1,none⟩=some (.int .i64 e):=hSw.cell_ rfl
  have hS2:w'.cell? ⟨w.heap.size,2,none⟩=some (.int .i64 rv):=hSw.cell_ rfl
  have hS3:w'.cell? ⟨w.heap.size,3,none⟩=some (.int .i64 rs):=hSw.cell_ rfl
  have hS4:w'.cell? ⟨w.heap.size,4,none⟩=some (.slice rA rn rc):=hSw.cell_ rfl
  clear hSw
  go_simp
  all_goals with_reducible rfl
 try simp only[Act.put,List.setIfInBounds_toArray,List.set_cons_zero,List.set_cons_succ]
 refine wpAnyH_ready (rs:=[1]) (by kernel_rfl) (by simp) ?_
 refine cons_l rfl (fun K0 hK=>?_) AllReadyH.nil
 go_simp
 (go_at_call 49;(refine(CK.out _).mono ?_);rintro e1 w1 ⟨rfl,h1⟩)
 have B1:=Lib.hid (D0.out.trans (h1.mono D0.out.size))
 clear h1
 refine hK.out _ _ (XB.out.below' B1.out) (fun _=>?_)
 clear hK K0
 try simp only[Act.put,List.setIfInBounds_toArray,List.set_cons_zero,List.set_cons_succ]
 refine wpAnyH_ready (rs:=[4]) (by kernel_rfl) (by simp) ?_
 refine cons_l rfl (fun K0 hK=>?_) AllReadyH.nil
 go_simp
 (go_at_call 38;(refine(n_d v _).mono ?_);rintro e2 w2 ⟨rfl,h1,h2⟩)
 simp only[Tv.val,Tv.row]
 have O0_2:=Lib.hid h1
 have B2:=Lib.hid (B1.out.trans (h2.mono B1.out.size))
 clear h1 h2
 refine hK.out _ _ (XB.out.below' B2.out) (fun _=>?_)
 clear hK K0
 try simp only[Act.put,List.setIfInBounds_toArray,List.set_cons_zero,List.set_cons_succ]
 refine wpAnyH_ready (rs:=[7]) (by kernel_rfl) (by simp) ?_
 refine cons_l rfl (fun K0 hK=>?_) AllReadyH.nil
 go_simp
 (go_at_call 38;(refine(n_d e _).mono ?_);rintro e3 w3 ⟨rfl,h1,h2⟩)
 simp only[Tv.val,Tv.row]
 have O0_3:=Lib.hid (O0_2.out.keep h2)
 have O1_3:=Lib.hid h1
 have B3:=Lib.hid (B2.out.trans (h2.mono B2.out.size))
 clear h1 h2
 refine hK.out _ _ (XB.out.below' B3.out) (fun _=>?_)
 clear hK K0
 try simp only[Act.put,List.setIfInBounds_toArray,List.set_cons_zero,List.set_cons_succ]
 refine wpAnyH_ready (rs:=[10]) (by kernel_rfl) (by simp) ?_
 refine cons_l rfl (fun K0 hK=>?_) AllReadyH.nil
 go_simp
 (go_at_call 50;(refine(ref_d rv rs (HP.out.below (BU.out.trans (B3.out.mono BU.out.size)))).mono ?_);rintro e4 w4 ⟨tt,rfl,hn,h1,h2,-, hsz⟩)
 obtain⟨Kt,nt',rt,At,ct,kt⟩:=tt
 simp only[Tv.val,Tv.row]
 have O0_4:=Lib.hid (O0_3.out.keep h2)
 have O1_4:=Lib.hid (O1_3.out.keep h2)
 have OT_4:=Lib.hid h1
 have NT:=Lib.hid hn
 have ST:=Lib.hid hsz
 have B4:=Lib.hid (B3.out.trans (h2.mono B3.out.size))
 clear h1 h2 hn hsz
 refine hK.out _ _ (XB.out.below' B4.out) (fun _=>?_)
 clear hK K0
 try simp only[Act.put,List.setIfInBounds_toArray,List.set_cons_zero,List.set_cons_succ]
 refine wpAnyH_ready (rs:=[11]) (by kernel_rfl) (by simp) ?_
 refine cons_l rfl (fun K0 hK=>?_) AllReadyH.nil
 go_simp
 have X5:=Lib.hid (below_one w4 (.cells #[.int .i64 1,.int .u64 (un v:Int),.slice none 0 0,.slice none 0 0,.int .i64 1,.int .u64 (un e:Int),.slice none 0 0,.slice none 0 0,.int .i64 Kt,.int .u64 (nt':Int),.slice rt.1 rt.2.1 rt.2.2.1,.slice At kt.length ct] 75))
 have SL:=Lib.hid (show Sl (w4.alloc (.cells #[.int .i64 1,.int .u64 (un v:Int),.slice none 0 0,.slice none 0 0,.int .i64 1,.int .u64 (un e:Int),.slice none 0 0,.slice none 0 0,.int .i64 Kt,.int .u64 (nt':Int),.slice rt.1 rt.2.1 rt.2.2.1,.slice At kt.length ct] 75)) (some ⟨w4.heap.size,0,none⟩) (4*3) (flat [nt v,nt e,.mk Kt nt' rt At ct kt]) from Sl.new_ w4 75 [.int .i64 1,.int .u64 (un v:Int),.slice none 0 0,.slice none 0 0,.int .i64 1,.int .u64 (un e:Int),.slice none 0 0,.slice none 0 0,.int .i64 Kt,.int .u64 (nt':Int),.slice rt.1 rt.2.1 rt.2.2.1,.slice At kt.length ct])
 have KK:=Lib.hid (ok3 (O0_4.out.keep X5.out) (O1_4.out.keep X5.out) (OT_4.out.keep X5.out))
 have B5:=Lib.hid (B4.out.trans (X5.out.mono B4.out.size))
 refine hK.out _ _ (XB.out.below' B5.out) (fun _=>?_)
 clear hK K0
 try simp only[Act.put,List.setIfInBounds_toArray,List.set_cons_zero,List.set_cons_succ]
 refine wpAnyH_ready (rs:=[12]) (by kernel_rfl) (by simp) ?_
 refine cons_l rfl (fun K0 hK=>?_) AllReadyH.nil
 go_simp
 (go_at_call 37;(refine(RList_any (ks:=[nt v,nt e,.mk Kt nt' rt At ct kt]) (c:=3) _ SL.out (Nat.le_refl _) (fun e=>by cases e) KK.out (by simp)).mono ?_);rintro e6 w6 ⟨rfl,h1,h2⟩)
 simp only[Tv.val,Tv.row]
 have B6:=Lib.hid (B5.out.trans (h2.mono B5.out.size))
 have CW:=Lib.hid (written_d ok h1 (show Wr.nd (.mk 3 0 (none,0,0,[]) (some ⟨w4.heap.size,0,none⟩) 3 [nt v,nt e,.mk Kt nt' rt At ct kt])=V from(show _=lN (tmN v e rv rs rl) from by rw[Wr.nd,nds_map];simp only[List.map_cons,List.map_nil];rw[NT.out];rfl).trans HV.out) (fun h=>by have h32:=LN.out h;have h:=ST.out;simp only[Wr.sz,szs] at h ⊢;omega))
 rw[HE.out,HY.out] at CW
 simp only[Tv.val,Tv.row] at CW
 clear h1 h2
 refine hK.out _ _ (XB.out.below' B6.out) (fun _=>?_)
 clear hK K0
 try simp only[Act.put,List.setIfInBounds_toArray,List.set_cons_zero,List.set_cons_succ]
 refine wpAnyH_ready (rs:=[13]) (by kernel_rfl) (by simp) ?_
 refine cons_l rfl (fun K0 hK=>?_) AllReadyH.nil
 go_simp
 (go_at_call 39;(refine CW.out.mono ?_);rintro e7 w7 ⟨h1,A9,c9,rfl,h2,h3⟩)
 have B7:=Lib.hid (B6.out.trans (h1.mono B6.out.size))
 have W9:=Lib.hid (wpq_up (B:=w) (er:=er) (BU.out.trans (B7.out.mono BU.out.size)) h2 h3)
 clear h1 h2 h3
 refine hK.out _ _ (XB.out.below' B7.out) (fun _=>?_)
 clear hK K0
 try simp only[Act.put,List.setIfInBounds_toArray,List.set_cons_zero,List.set_cons_succ]
 refine take_l 14 (v:=?_) rfl (by kernel_rfl) (by kernel_rfl) (by kernel_rfl) (fun _ _ _ h=>h) (Or.inl ⟨by rfl,?_⟩) (XB.out.below' B7.out) ?_;rotate_left
 ·intro w' hSw
  clear hSw
  go_simp
  all_goals with_reducible rfl
 try simp only[Act.put,List.setIfInBounds_toArray,List.set_cons_zero,List.set_cons_succ]
 refine take_l 15 (v:=?_) rfl (by kernel_rfl) (by kernel_rfl) (by kernel_rfl) (fun _ _ _ h=>h) (Or.inl ⟨by rfl,?_⟩) (XB.out.below' B7.out) ?_;rotate_left
 ·intro w' hSw
  clear hSw
  go_simp
  all_goals with_reducible rfl
 try simp only[Act.put,List.setIfInBounds_toArray,List.set_cons_zero,List.set_cons_succ]
 refine take_l 16 (v:=?_) rfl (by kernel_rfl) (by kernel_rfl) (by kernel_rfl) (fun _ _ _ h=>h) (Or.inl ⟨by rfl,?_⟩) (XB.out.below' B7.out) ?_;rotate_left
 ·intro w' hSw
  clear hSw
  go_simp
  all_goals with_reducible rfl
 try simp only[Act.put,List.setIfInBounds_toArray,List.set_cons_zero,List.set_cons_succ]
 refine take_l 17 (v:=?_) rfl (by kernel_rfl) (by kernel_rfl) (by kernel_rfl) (fun _ _ _ h=>h) (Or.inl ⟨by rfl,?_⟩) (XB.out.below' B7.out) ?_;rotate_left
 ·intro w' hSw
  clear hSw
  go_simp
  all_goals with_reducible rfl
 try simp only[Act.put,List.setIfInBounds_toArray,List.set_cons_zero,List.set_cons_succ]
 refine wpAnyH_done (by kernel_rfl) ?_ _
 go_wp2_with fail
 go_ret2
 exact W9.out
set_option maxHeartbeats 4000000 in
theorem RWrite_targets{w:World}{v e s c:Int}{rA:Option Addr}{rn rc:Nat}{rl:List Nat}(hp:Pc w (rA,rn,rc,rl)):Calls Tryz.prog 24 #[.agg #[.int .i64 v,.int .i64 e,.int .i64 s,.int .i64 c,.slice rA rn rc]] w (WpQ (wE (tgB v e s c rn) (lN (tgN v e s c rl))) (wL (tgB v e s c rn) (lN (tgN v e s c rl))) w):=by
 have HP:=Lib.hid hp
 have LN:=Lib.hid (show tgB v e s c rn=true→rn=32 from fun h=>tgB_len h)
 clear hp
 obtain⟨U,hU⟩:∃U,w.alloc (.cells #[.int .i64 v,.int .i64 e,.int .i64 s,.int .i64 c,.slice rA rn rc] 52)=U:=⟨_,rfl⟩
 have BU:=Lib.hid (show Below w.heap.size w U from by rw[←hU];exact below_one w _)
 have XB:=Lib.hid (show Bl U w.heap.size 52 #[.int .i64 v,.int .i64 e,.int .i64 s,.int .i64 c,.slice rA rn rc] from by rw[←hU];exact Bl.new_ w _ _)
 have D0:=Lib.hid (show Below U.heap.size U U.drew from below_drewN (Below.refl _ U) 1)
 have CK:=Lib.hid (fun u=>TargetsOK_d v e s c rA rn rc u)
 obtain⟨ok,hok⟩:∃ok,tgB v e s c rn=ok:=⟨_,rfl⟩
 rw[hok] at CK LN ⊢
 obtain⟨V,hV⟩:∃V,lN (tgN v e s c rl)=V:=⟨_,rfl⟩
 obtain⟨er,hE⟩:∃er,wE ok V=er:=⟨_,rfl⟩
 obtain⟨Y,hY⟩:∃Y,wL ok V=Y:=⟨_,rfl⟩
 have HV:=Lib.hid hV
 have HE:=Lib.hid hE
 have HY:=Lib.hid hY
 rw[hV,hE,hY]
 clear hok hV hE hY
 go_enter Tryz.func24,Tryz.ntmps24
 go_upto_region 1 with(fail)
 clear hU
 refine wp_region_held_drew (S:=fun x=>Bl x w.heap.size 52 #[.int .i64 v,.int .i64 e,.int .i64 s,.int .i64 c,.slice rA rn rc]) (by kernel_rfl) (XB.out) (fun _=>?_)
 refine take_l 0 (v:=?_) rfl (by kernel_rfl) (by kernel_rfl) (by kernel_rfl) (fun _ _ _ h=>h) (Or.inl ⟨by rfl,?_⟩) (XB.out) ?_;rotate_left
 ·intro w' hSw
  have hS0:w'.cell? ⟨w.heap.size,0,none⟩=some (.int .i64 v):=hSw.cell_ rfl
  have hS1:w'.cell? ⟨w.heap.size,1,none⟩=some (.int .i64 e):=hSw.cell_ rfl
  have hS2:w'.cell? ⟨w.heap.size,2,none⟩=some (.int .i64 s):=hSw.cell_ rfl
  have hS3:w'.cell? ⟨w.heap.size,3,none⟩=some (.int .i64 c):=hSw.cell_ rfl
  have hS4:w'.cell? ⟨w.heap.size,4,none⟩=some (.slice rA rn rc):=hSw.cell_ rfl
  clear hSw
  go_simp
  all_goals with_reducible rfl
 try simp only[Act.put,List.setIfInBounds_toArray,List.set_cons_zero,List.set_cons_succ]
 refine take_l 2 (v:=?_) rfl (by kernel_rfl) (by kernel_rfl) (by kernel_rfl) (fun _ _ _ h=>h) (Or.inl ⟨by rfl,?_⟩) (XB.out) ?_;rotate_left
 ·intro w' hSw
  have hS0:w'.cell? ⟨w.heap.size,0,none⟩=some (.int .i64 v):=hSw.cell_ rfl
  have hS1:w'.cell? ⟨w.heap.size,1,none⟩=some (.int .i64 e):=hSw.cell_ rfl
  have hS2:w'.cell? ⟨w.heap.size,2,none⟩=some (.int .i64 s):=hSw.cell_ rfl
  have hS3:w'.cell? ⟨w.heap.size,3,none⟩=some (.int .i64 c):=hSw.cell_ rfl
  have hS4:w'.cell? ⟨w.heap.size,4,none⟩=some (.slice rA rn rc):=hSw.cell_ rfl
  clear hSw
  go_simp
  all_goals with_reducible rfl
 try simp only[Act.put,List.setIfInBounds_toArray,List.set_cons_zero,List.set_cons_succ]
 refine take_l 3 (v:=?_) rfl (by kernel_rfl) (by kernel_rfl) (by kernel_rfl) (fun _ _ _ h=>h) (Or.inl ⟨by rfl,?_⟩) (XB.out) ?_;rotate_left
 ·intro w' hSw
  have hS0:w'.cell? ⟨w.heap.size,0,none⟩=some (.int .i64 v):=hSw.cell_ rfl
  have hS1:w'.cell? ⟨w.heap.size,1,none⟩=some (.int .i64 e):=hSw.cell_ rfl
  have hS2:w'.cell? ⟨w.heap.size,2,none⟩=some (.int .i64 s):=hSw.cell_ rfl
  have hS3:w'.cell? ⟨w.heap.size,3,none⟩=some (.int .i64 c):=hSw.cell_ rfl
  have hS4:w'.cell? ⟨w.heap.size,4,none⟩=some (.slice rA rn rc):=hSw.cell_ rfl
  clear hSw
  go_simp
  all_goals with_reducible rfl
 try simp only[Act.put,List.setIfInBounds_toArray,List.set_cons_zero,List.set_cons_succ]
 refine take_l 5 (v:=?_) rfl (by kernel_rfl) (by kernel_rfl) (by kernel_rfl) (fun _ _ _ h=>h) (Or.inl ⟨by rfl,?_⟩) (XB.out) ?_;rotate_left
 ·intro w' hSw
  have hS0:w'.cell? ⟨w.heap.size,0,none⟩=some (.int .i64 v):=hSw.cell_ rfl
  have hS1:w'.cell? ⟨w.heap.size,1,none⟩=some (.int .i64 e):=hSw.cell_ rfl
  have hS2:w'.cell? ⟨w.heap.size,2,none⟩=some (.int .i64 s):=hSw.cell_ rfl
  have hS3:w'.cell? ⟨w.heap.size,3,none⟩=some (.int .i64 c):=hSw.cell_ rfl
  have hS4:w'.cell? ⟨w.heap.size,4,none⟩=some (.slice rA rn rc):=hSw.cell_ rfl
  clear hSw
  go_simp
  all_goals with_reducible rfl
 try simp only[Act.put,List.setIfInBounds_toArray,List.set_cons_zero,List.set_cons_succ]
 refine take_l 6 (v:=?_) rfl (by kernel_rfl) (by kernel_rfl) (by kernel_rfl) (fun _ _ _ h=>h) (Or.inl ⟨by rfl,?_⟩) (XB.out) ?_;rotate_left
 ·intro w' hSw
  have hS0:w'.cell? ⟨w.heap.size,0,none⟩=some (.int .i64 v):=hSw.cell_ rfl
  have hS1:w'.cell? ⟨w.heap.size,1,none⟩=some (.int .i64 e):=hSw.cell_ rfl
  have hS2:w'.cell? ⟨w.heap.size,2,none⟩=some (.int .i64 s):=hSw.cell_ rfl
  have hS3:w'.cell? ⟨w.heap.size,3,none⟩=some (.int .i64 c):=hSw.cell_ rfl
  have hS4:w'.cell? ⟨w.heap.size,4,none⟩=some (.slice rA rn rc):=hSw.cell_ rfl
  clear hSw
  go_simp
  all_goals with_reducible rfl
 try simp only[Act.put,List.setIfInBounds_toArray,List.set_cons_zero,List.set_cons_succ]
 refine take_l 8 (v:=?_) rfl (by kernel_rfl) (by kernel_rfl) (by kernel_rfl) (fun _ _ _ h=>h) (Or.inl ⟨by rfl,?_⟩) (XB.out) ?_;rotate_left
 ·intro w' hSw
  have hS0:w'.cell? ⟨w.heap.size,0,none⟩=some (.int .i64 v):=hSw.cell_ rfl
  have hS1:w'.cell? ⟨w.heap.size,1,none⟩=some (.int .i64 e):=hSw.cell_ rfl
  have hS2:w'.cell? ⟨w.heap.size,2,none⟩=some (.int .i64 s):=hSw.cell_ rfl
  have hS3:w'.cell? ⟨w.heap.size,3,none⟩=some (.int .i64 c):=hSw.cell_ rfl
  have hS4:w'.cell? ⟨w.heap.size,4,none⟩=some (.slice rA rn rc):=hSw.cell_ rfl
  clear hSw
  go_simp
  all_goals with_reducible rfl
 try simp only[Act.put,List.setIfInBounds_toArray,List.set_cons_zero,List.set_cons_succ]
 refine take_l 9 (v:=?_) rfl (by kernel_rfl) (by kernel_rfl) (by kernel_rfl) (fun _ _ _ h=>h) (Or.inl ⟨by rfl,?_⟩) (XB.out) ?_;rotate_left
 ·intro w' hSw
  have hS0:w'.cell? ⟨w.heap.size,0,none⟩=some (.int .i64 v):=hSw.cell_ rfl
  have hS1:w'.cell? ⟨w.heap.size,1,none⟩=some (.int .i64 e):=hSw.cell_ rfl
  have hS2:w'.cell? ⟨w.heap.size,2,none⟩=some (.int .i64 s):=hSw.cell_ rfl
  have hS3:w'.cell? ⟨w.heap.size,3,none⟩=some (.int .i64 c):=hSw.cell_ rfl
  have hS4:w'.cell? ⟨w.heap.size,4,none⟩=some (.slice rA rn rc):=hSw.cell_ rfl
  clear hSw
  go_simp
  all_goals with_reducible rfl
 try simp only[Act.put,List.setIfInBounds_toArray,List.set_cons_zero,List.set_cons_succ]
 refine take_l 11 (v:=?_) rfl (by kernel_rfl) (by kernel_rfl) (by kernel_rfl) (fun _ _ _ h=>h) (Or.inl ⟨by rfl,?_⟩) (XB.out) ?_;rotate_left
 ·intro w' hSw
  have hS0:w'.cell? ⟨w.heap.size,0,none⟩=some (.int .i64 v):=hSw.cell_ rfl
  have hS1:w'.cell? ⟨w.heap.size,1,none⟩=some (.int .i64 e):=hSw.cell_ rfl
  have hS2:w'.cell? ⟨w.heap.size,2,none⟩=some (.int .i64 s):=hSw.cell_ rfl
  have hS3:w'.cell? ⟨w.heap.size,3,none⟩=some (.int .i64 c):=hSw.cell_ rfl
  have hS4:w'.cell? ⟨w.heap.size,4,none⟩=some (.slice rA rn rc):=hSw.cell_ rfl
  clear hSw
  go_simp
  all_goals with_reducible rfl
 try simp only[Act.put,List.setIfInBounds_toArray,List.set_cons_zero,List.set_cons_succ]
 refine take_l 12 (v:=?_) rfl (by kernel_rfl) (by kernel_rfl) (by kernel_rfl) (fun _ _ _ h=>h) (Or.inl ⟨by rfl,?_⟩) (XB.out) ?_;rotate_left
 ·intro w' hSw
  have hS0:w'.cell? ⟨w.heap.size,0,none⟩=some (.int .i64 v):=hSw.cell_ rfl
  have hS1:w'.cell? ⟨w.heap.size,1,none⟩=some (.int .i64 e):=hSw.cell_ rfl
  have hS2:w'.cell? ⟨w.heap.size,2,none⟩=some (.int .i64 s):=hSw.cell_ rfl
  have hS3:w'.cell? ⟨w.heap.size,3,none⟩=some (.int .i64 c):=hSw.cell_ rfl
  have hS4:w'.cell? ⟨w.heap.size,4,none⟩=some (.slice rA rn rc):=hSw.cell_ rfl
  clear hSw
  go_simp
  all_goals with_reducible rfl
 try simp only[Act.put,List.setIfInBounds_toArray,List.set_cons_zero,List.set_cons_succ]
 refine take_l 14 (v:=?_) rfl (by kernel_rfl) (by kernel_rfl) (by kernel_rfl) (fun _ _ _ h=>h) (Or.inl ⟨by rfl,?_⟩) (XB.out) ?_;rotate_left
 ·intro w' hSw
  have hS0:w'.cell? ⟨w.heap.size,0,none⟩=some (.int .i64 v):=hSw.cell_ rfl
  have hS1:w'.cell? ⟨w.heap.size,1,none⟩=some (.int .i64 e):=hSw.cell_ rfl
  have hS2:w'.cell? ⟨w.heap.size,2,none⟩=some (.int .i64 s):=hSw.cell_ rfl
  have hS3:w'.cell? ⟨w.heap.size,3,none⟩=some (.int .i64 c):=hSw.cell_ rfl
  have hS4:w'.cell? ⟨w.heap.size,4,none⟩=some (.slice rA rn rc):=hSw.cell_ rfl
  clear hSw
  go_simp
  all_goals with_reducible rfl
 try simp only[Act.put,List.setIfInBounds_toArray,List.set_cons_zero,List.set_cons_succ]
 refine take_l 15 (v:=?_) rfl (by kernel_rfl) (by kernel_rfl) (by kernel_rfl) (fun _ _ _ h=>h) (Or.inl ⟨by rfl,?_⟩) (XB.out) ?_;rotate_left
 ·intro w' hSw
  have hS0:w'.cell? ⟨w.heap.size,0,none⟩=some (.int .i64 v):=hSw.cell_ rfl
  have hS1:w'.cell? ⟨w.heap.size,1,none⟩=some (.int .i64 e):=hSw.cell_ rfl
  have hS2:w'.cell? ⟨w.heap.size,2,none⟩=some (.int .i64 s):=hSw.cell_ rfl
  have hS3:w'.cell? ⟨w.heap.size,3,none⟩=some (.int .i64 c):=hSw.cell_ rfl
  have hS4:w'.cell? ⟨w.heap.size,4,none⟩=some (.slice rA rn rc):=hSw.cell_ rfl
  clear hSw
  go_simp
  all_goals with_reducible rfl
 try simp only[Act.put,List.setIfInBounds_toArray,List.set_cons_zero,List.set_cons_succ]
 refine wpAnyH_ready (rs:=[1]) (by kernel_rfl) (by simp) ?_
 refine cons_l rfl (fun K0 hK=>?_) AllReadyH.nil
 go_simp
 (go_at_call 58;(refine(CK.out _).mono ?_);rintro e1 w1 ⟨rfl,h1⟩)
 have B1:=Lib.hid (D0.out.trans (h1.mono D0.out.size))
 clear h1
 refine hK.out _ _ (XB.out.below' B1.out) (fun _=>?_)
 clear hK K0
 try simp only[Act.put,List.setIfInBounds_toArray,List.set_cons_zero,List.set_cons_succ]
 refine wpAnyH_ready (rs:=[4]) (by kernel_rfl) (by simp) ?_
 refine cons_l rfl (fun K0 hK=>?_) AllReadyH.nil
 go_simp
 (go_at_call 38;(refine(n_d v _).mono ?_);rintro e2 w2 ⟨rfl,h1,h2⟩)
 simp only[Tv.val,Tv.row]
 have O0_2:=Lib.hid h1
 have B2:=Lib.hid (B1.out.trans (h2.mono B1.out.size))
 clear h1 h2
 refine hK.out _ _ (XB.out.below' B2.out) (fun _=>?_)
 clear hK K0
 try simp only[Act.put,List.setIfInBounds_toArray,List.set_cons_zero,List.set_cons_succ]
 refine wpAnyH_ready (rs:=[7]) (by kernel_rfl) (by simp) ?_
 refine cons_l rfl (fun K0 hK=>?_) AllReadyH.nil
 go_simp
 (go_at_call 38;(refine(n_d e _).mono ?_);rintro e3 w3 ⟨rfl,h1,h2⟩)
 simp only[Tv.val,Tv.row]
 have O0_3:=Lib.hid (O0_2.out.keep h2)
 have O1_3:=Lib.hid h1
 have B3:=Lib.hid (B2.out.trans (h2.mono B2.out.size))
 clear h1 h2
 refine hK.out _ _ (XB.out.below' B3.out) (fun _=>?_)
 clear hK K0
 try simp only[Act.put,List.setIfInBounds_toArray,List.set_cons_zero,List.set_cons_succ]
 refine wpAnyH_ready (rs:=[10]) (by kernel_rfl) (by simp) ?_
 refine cons_l rfl (fun K0 hK=>?_) AllReadyH.nil
 go_simp
 (go_at_call 38;(refine(n_d s _).mono ?_);rintro e4 w4 ⟨rfl,h1,h2⟩)
 simp only[Tv.val,Tv.row]
 have O0_4:=Lib.hid (O0_3.out.keep h2)
 have O1_4:=Lib.hid (O1_3.out.keep h2)
 have O2_4:=Lib.hid h1
 have B4:=Lib.hid (B3.out.trans (h2.mono B3.out.size))
 clear h1 h2
 refine hK.out _ _ (XB.out.below' B4.out) (fun _=>?_)
 clear hK K0
 try simp only[Act.put,List.setIfInBounds_toArray,List.set_cons_zero,List.set_cons_succ]
 refine wpAnyH_ready (rs:=[13]) (by kernel_rfl) (by simp) ?_
 refine cons_l rfl (fun K0 hK=>?_) AllReadyH.nil
 go_simp
 (go_at_call 38;(refine(n_d c _).mono ?_);rintro e5 w5 ⟨rfl,h1,h2⟩)
 simp only[Tv.val,Tv.row]
 have O0_5:=Lib.hid (O0_4.out.keep h2)
 have O1_5:=Lib.hid (O1_4.out.keep h2)
 have O2_5:=Lib.hid (O2_4.out.keep h2)
 have O3_5:=Lib.hid h1
 have B5:=Lib.hid (B4.out.trans (h2.mono B4.out.size))
 clear h1 h2
 refine hK.out _ _ (XB.out.below' B5.out) (fun _=>?_)
 clear hK K0
 try simp only[Act.put,List.setIfInBounds_toArray,List.set_cons_zero,List.set_cons_succ]
 refine wpAnyH_ready (rs:=[16]) (by kernel_rfl) (by simp) ?_
 refine cons_l rfl (fun K0 hK=>?_) AllReadyH.nil
 go_simp
 (go_at_call 36;(refine(RBytes_any w5 (HP.out.below (BU.out.trans (B5.out.mono BU.out.size)))).mono ?_);rintro e6 w6 ⟨rfl,h1,h2⟩)
 simp only[Tv.val,Tv.row]
 have O0_6:=Lib.hid (O0_5.out.keep h2)
 have O1_6:=Lib.hid (O1_5.out.keep h2)
 have O2_6:=Lib.hid (O2_5.out.keep h2)
 have O3_6:=Lib.hid (O3_5.out.keep h2)
 have OT_6:=Lib.hid h1
 have B6:=Lib.hid (B5.out.trans (h2.mono B5.out.size))
 clear h1 h2
 refine hK.out _ _ (XB.out.below' B6.out) (fun _=>?_)
 clear hK K0
 try simp only[Act.put,List.setIfInBounds_toArray,List.set_cons_zero,List.set_cons_succ]
 refine wpAnyH_ready (rs:=[17]) (by kernel_rfl) (by simp) ?_
 refine cons_l rfl (fun K0 hK=>?_) AllReadyH.nil
 go_simp
 have X7:=Lib.hid (below_one w6 (.cells #[.int .i64 1,.int .u64 (un v:Int),.slice none 0 0,.slice none 0 0,.int .i64 1,.int .u64 (un e:Int),.slice none 0 0,.slice none 0 0,.int .i64 1,.int .u64 (un s:Int),.slice none 0 0,.slice none 0 0,.int .i64 1,.int .u64 (un c:Int),.slice none 0 0,.slice none 0 0,.int .i64 2,.int .u64 0,.slice rA rn rc,.slice none 0 0] 75))
 have SL:=Lib.hid (show Sl (w6.alloc (.cells #[.int .i64 1,.int .u64 (un v:Int),.slice none 0 0,.slice none 0 0,.int .i64 1,.int .u64 (un e:Int),.slice none 0 0,.slice none 0 0,.int .i64 1,.int .u64 (un s:Int),.slice none 0 0,.slice none 0 0,.int .i64 1,.int .u64 (un c:Int),.slice none 0 0,.slice none 0 0,.int .i64 2,.int .u64 0,.slice rA rn rc,.slice none 0 0] 75)) (some ⟨w6.heap.size,0,none⟩) (4*5) (flat [nt v,nt e,nt s,nt c,.mk 2 0 (rA,rn,rc,rl) none 0 []]) from Sl.new_ w6 75 [.int .i64 1,.int .u64 (un v:Int),.slice none 0 0,.slice none 0 0,.int .i64 1,.int .u64 (un e:Int),.slice none 0 0,.slice none 0 0,.int .i64 1,.int .u64 (un s:Int),.slice none 0 0,.slice none 0 0,.int .i64 1,.int .u64 (un c:Int),.slice none 0 0,.slice none 0 0,.int .i64 2,.int .u64 0,.slice rA rn rc,.slice none 0 0])
 have KK:=Lib.hid (ok5 (O0_6.out.keep X7.out) (O1_6.out.keep X7.out) (O2_6.out.keep X7.out) (O3_6.out.keep X7.out) (OT_6.out.keep X7.out))
 have B7:=Lib.hid (B6.out.trans (X7.out.mono B6.out.size))
 refine hK.out _ _ (XB.out.below' B7.out) (fun _=>?_)
 clear hK K0
 try simp only[Act.put,List.setIfInBounds_toArray,List.set_cons_zero,List.set_cons_succ]
 refine wpAnyH_ready (rs:=[18]) (by kernel_rfl) (by simp) ?_
 refine cons_l rfl (fun K0 hK=>?_) AllReadyH.nil
 go_simp
 (go_at_call 37;(refine(RList_any (ks:=[nt v,nt e,nt s,nt c,.mk 2 0 (rA,rn,rc,rl) none 0 []]) (c:=5) _ SL.out (Nat.le_refl _) (fun e=>by cases e) KK.out (by simp)).mono ?_);rintro e8 w8 ⟨rfl,h1,h2⟩)
 simp only[Tv.val,Tv.row]
 have B8:=Lib.hid (B7.out.trans (h2.mono B7.out.size))
 have CW:=Lib.hid (written_d ok h1 (show Wr.nd (.mk 3 0 (none,0,0,[]) (some ⟨w6.heap.size,0,none⟩) 5 [nt v,nt e,nt s,nt c,.mk 2 0 (rA,rn,rc,rl) none 0 []])=V from(show _=lN (tgN v e s c rl) from rfl).trans HV.out) (fun h=>by have h32:=LN.out h;simp only[Wr.sz,szs];omega))
 rw[HE.out,HY.out] at CW
 simp only[Tv.val,Tv.row] at CW
 clear h1 h2
 refine hK.out _ _ (XB.out.below' B8.out) (fun _=>?_)
 clear hK K0
 try simp only[Act.put,List.setIfInBounds_toArray,List.set_cons_zero,List.set_cons_succ]
 refine wpAnyH_ready (rs:=[19]) (by kernel_rfl) (by simp) ?_
 refine cons_l rfl (fun K0 hK=>?_) AllReadyH.nil
 go_simp
 (go_at_call 39;(refine CW.out.mono ?_);rintro e9 w9 ⟨h1,A9,c9,rfl,h2,h3⟩)
 have B9:=Lib.hid (B8.out.trans (h1.mono B8.out.size))
 have W9:=Lib.hid (wpq_up (B:=w) (er:=er) (BU.out.trans (B9.out.mono BU.out.size)) h2 h3)
 clear h1 h2 h3
 refine hK.out _ _ (XB.out.below' B9.out) (fun _=>?_)
 clear hK K0
 try simp only[Act.put,List.setIfInBounds_toArray,List.set_cons_zero,List.set_cons_succ]
 refine take_l 20 (v:=?_) rfl (by kernel_rfl) (by kernel_rfl) (by kernel_rfl) (fun _ _ _ h=>h) (Or.inl ⟨by rfl,?_⟩) (XB.out.below' B9.out) ?_;rotate_left
 ·intro w' hSw
  clear hSw
  go_simp
  all_goals with_reducible rfl
 try simp only[Act.put,List.setIfInBounds_toArray,List.set_cons_zero,List.set_cons_succ]
 refine take_l 21 (v:=?_) rfl (by kernel_rfl) (by kernel_rfl) (by kernel_rfl) (fun _ _ _ h=>h) (Or.inl ⟨by rfl,?_⟩) (XB.out.below' B9.out) ?_;rotate_left
 ·intro w' hSw
  clear hSw
  go_simp
  all_goals with_reducible rfl
 try simp only[Act.put,List.setIfInBounds_toArray,List.set_cons_zero,List.set_cons_succ]
 refine take_l 22 (v:=?_) rfl (by kernel_rfl) (by kernel_rfl) (by kernel_rfl) (fun _ _ _ h=>h) (Or.inl ⟨by rfl,?_⟩) (XB.out.below' B9.out) ?_;rotate_left
 ·intro w' hSw
  clear hSw
  go_simp
  all_goals with_reducible rfl
 try simp only[Act.put,List.setIfInBounds_toArray,List.set_cons_zero,List.set_cons_succ]
 refine take_l 23 (v:=?_) rfl (by kernel_rfl) (by kernel_rfl) (by kernel_rfl) (fun _ _ _ h=>h) (Or.inl ⟨by rfl,?_⟩) (XB.out.below' B9.out) ?_;rotate_left
 ·intro w' hSw
  clear hSw
  go_simp
  all_goals with_reducible rfl
 try simp only[Act.put,List.setIfInBounds_toArray,List.set_cons_zero,List.set_cons_succ]
 refine wpAnyH_done (by kernel_rfl) ?_ _
 go_wp2_with fail
 go_ret2
 exact W9.out
end Go.Proofs.YteblmphohhbgcaaGreat.Mt
