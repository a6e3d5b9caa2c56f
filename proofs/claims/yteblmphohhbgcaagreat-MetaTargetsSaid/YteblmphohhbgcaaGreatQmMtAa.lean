/- Joined texts. -/
import Derived.Test.YteblmphohhbgcaaGreatQmMtYa
import Derived.Test.YteblmphohhbgcaaGreatQmWrChk
import Derived.Test.YteblmphohhbgcaaGreatQmMtI
set_option linter.unusedVariables false
namespace Go.Proofs.YteblmphohhbgcaaGreat.Mt
open Go.RowKit Go.Proofs.YteblmphohhbgcaaGreat.Gn Go.Proofs.YteblmphohhbgcaaGreat.Fd Go.Proofs.YteblmphohhbgcaaGreat.Wr Go.Deep
set_option maxRecDepth 100000
set_option maxHeartbeats 4000000 in
theorem n_d(x:Int)(w:World):Calls Tryz.prog 38 #[.int .i64 x] w (MkQ (nt x) w):=by
 have B0:=Lib.hid (below_one w nod0)
 have N0:=Lib.hid (Bl.new_ w 75 #[.int .i64 0,.int .u64 0,.slice none 0 0,.slice none 0 0])
 have U0:IntKind.u64.wrap x=(un x:Int):=un_wrap x
 have C1:=Lib.hid (fun u=>RNum_any (un x) u (un_lt x))
 go_enter Tryz.func38,Tryz.ntmps38
 go_wp2_with (go_at_call 74;(refine(C1.out _).mono ?_);rintro e1 w1 ⟨rfl,h1,h2⟩;simp only[Tv.val,Tv.row];have B1:=Lib.hid (B0.out.trans (h2.mono B0.out.size));have N1:=Lib.hid (N0.out.below' h2);have d0:w1.cell? ⟨w.heap.size,0,none⟩=some (.int .i64 0):=N1.out.cell_ rfl;have y0:=N1.out.frozen 0;have d1:w1.cell? ⟨w.heap.size,1,none⟩=some (.int .u64 0):=N1.out.cell_ rfl;have y1:=N1.out.frozen 1;have d2:w1.cell? ⟨w.heap.size,2,none⟩=some (.slice none 0 0):=N1.out.cell_ rfl;have y2:=N1.out.frozen 2;have d3:w1.cell? ⟨w.heap.size,3,none⟩=some (.slice none 0 0):=N1.out.cell_ rfl;have y3:=N1.out.frozen 3;clear h1 h2)
 exact⟨rfl,_,results_c rfl _ _ _ ⟨w.heap.size,0,none⟩ _ (by kernel_rfl) (run_loadVar_row _ w.heap.size 75 75 #[.int .i64 1,.int .u64 (un x:Int),.slice none 0 0,.slice none 0 0] (0,0) _ (st4_bl N1.out _ _ _ _) Tryz.underlying75 rfl size34),rfl,ok_leaf (un_lt x) (nil_pc _),below_st4' B1.out (Nat.le_refl _) _ _ _ _⟩
theorem st4_oth{a:World}{q g:Nat}{T:TypeId}{cs:Array Value}(h:Bl a g T cs)(hq:g≠q)(v0 v1 v2 v3:Value):Bl (st4 a q v0 v1 v2 v3) g T cs:=(((h.other (p:=⟨q,0,none⟩) hq v0).other (p:=⟨q,1,none⟩) hq v1).other (p:=⟨q,2,none⟩) hq v2).other (p:=⟨q,3,none⟩) hq v3
theorem lies_list{Q:Nat→Prop}{q c:Nat}{ks:List Tv}(hq:Q q)(hk:liess Q ks):lies Q (.mk 3 0 (none,0,0,[]) (some ⟨q,0,none⟩) c ks):=by
 rw[lies];exact⟨(fun ad e=>by cases e),(fun ad e _=>by cases e;exact hq),hk⟩
theorem lies_b{Q:Nat→Prop}{r:Rw}(h:∀ad,r.1=some ad→0 < r.2.2.2.length→Q ad.block):lies Q (.mk 2 0 r none 0 []):=by
 rw[lies];exact⟨h,(fun ad e=>by cases e),by rw[liess];trivial⟩
theorem liess3{Q:Nat→Prop}{a b c:Tv}(h1:lies Q a)(h2:lies Q b)(h3:lies Q c):liess Q [a,b,c]:=by
 rw[liess,liess,liess,liess];exact⟨h1,h2,h3,trivial⟩
theorem ok3{w:World}{a b c:Tv}(h1:Ok w a)(h2:Ok w b)(h3:Ok w c):∀t∈[a,b,c],Ok w t:=by
 intro t ht
 rcases List.mem_cons.1 ht with rfl|ht
 ·exact h1
 rcases List.mem_cons.1 ht with rfl|ht
 ·exact h2
 rw[List.mem_singleton.1 ht];exact h3
set_option maxHeartbeats 4000000 in
theorem ref_d(v s:Int){rA:Option Addr}{rn rc:Nat}{rl:List Nat}{w:World}(hp:Pc w (rA,rn,rc,rl)):Calls Tryz.prog 50 #[.agg #[.int .i64 v,.int .i64 s,.slice rA rn rc]] w (fun e w'=>∃t:Tv,e=.returned t.val∧Wr.nd t=lN (rfN v s rl)∧Ok w' t∧Below w.heap.size w w'∧lies (fun k=>k≠w.heap.size+1) t∧Wr.sz t=4+rn):=by
 have HP:=Lib.hid hp
 have HI:=Lib.hid (pc_lt hp)
 clear hp
 obtain⟨U,hU⟩:∃U,(w.alloc (.cells #[.int .i64 v,.int .i64 s,.slice rA rn rc] 38)).alloc nod0=U:=⟨_,rfl⟩
 have BU:=Lib.hid (show Below w.heap.size w U from by rw[←hU];exact((Below.refl _ w).alloc (Nat.le_refl _) _).alloc (by simp) _)
 have XB:=Lib.hid (show Bl U w.heap.size 38 #[.int .i64 v,.int .i64 s,.slice rA rn rc] from by rw[←hU];exact(Bl.new_ w _ _).alloc _)
 have NR:=Lib.hid (show Bl U (w.heap.size+1) 75 #[.int .i64 0,.int .u64 0,.slice none 0 0,.slice none 0 0] from by rw[←hU];exact Bl.new' _ _ (by simp))
 have SU:=Lib.hid (show U.heap.size=w.heap.size+2 from by rw[←hU];simp)
 have D0:=Lib.hid (show Below U.heap.size U U.drew from below_drewN (Below.refl _ U) 1)
 go_enter Tryz.func50,Tryz.ntmps50
 go_upto_region 1 with(fail)
 clear hU
 refine wp_region_held_drew (S:=fun x=>Bl x w.heap.size 38 #[.int .i64 v,.int .i64 s,.slice rA rn rc]) (by kernel_rfl) (XB.out) (fun _=>?_)
 refine take_l 0 (v:=?_) rfl (by kernel_rfl) (by kernel_rfl) (by kernel_rfl) (fun _ _ _ h=>h) (Or.inl ⟨by rfl,?_⟩) (XB.out) ?_;rotate_left
 ·intro w' hSw
  have hS0:w'.cell? ⟨w.heap.size,0,none⟩=some (.int .i64 v):=hSw.cell_ rfl
  have hS1:w'.cell? ⟨w.heap.size,1,none⟩=some (.int .i64 s):=hSw.cell_ rfl
  have hS2:w'.cell? ⟨w.heap.size,2,none⟩=some (.slice rA rn rc):=hSw.cell_ rfl
  clear hSw
  go_simp
  all_goals with_reducible rfl
 try simp only[Act.put,List.setIfInBounds_toArray,List.set_cons_zero,List.set_cons_succ]
 refine take_l 1 (v:=?_) rfl (by kernel_rfl) (by kernel_rfl) (by kernel_rfl) (fun _ _ _ h=>h) (Or.inl ⟨by rfl,?_⟩) (XB.out) ?_;rotate_left
 ·intro w' hSw
  have hS0:w'.cell? ⟨w.heap.size,0,none⟩=some (.int .i64 v):=hSw.cell_ rfl
  have hS1:w'.cell? ⟨w.heap.size,1,none⟩=some (.int .i64 s):=hSw.cell_ rfl
  have hS2:w'.cell? ⟨w.heap.size,2,none⟩=some (.slice rA rn rc):=hSw.cell_ rfl
  clear hSw
  go_simp
  all_goals with_reducible rfl
 try simp only[Act.put,List.setIfInBounds_toArray,List.set_cons_zero,List.set_cons_succ]
 refine take_l 3 (v:=?_) rfl (by kernel_rfl) (by kernel_rfl) (by kernel_rfl) (fun _ _ _ h=>h) (Or.inl ⟨by rfl,?_⟩) (XB.out) ?_;rotate_left
 ·intro w' hSw
  have hS0:w'.cell? ⟨w.heap.size,0,none⟩=some (.int .i64 v):=hSw.cell_ rfl
  have hS1:w'.cell? ⟨w.heap.size,1,none⟩=some (.int .i64 s):=hSw.cell_ rfl
  have hS2:w'.cell? ⟨w.heap.size,2,none⟩=some (.slice rA rn rc):=hSw.cell_ rfl
  clear hSw
  go_simp
  all_goals with_reducible rfl
 try simp only[Act.put,List.setIfInBounds_toArray,List.set_cons_zero,List.set_cons_succ]
 refine take_l 4 (v:=?_) rfl (by kernel_rfl) (by kernel_rfl) (by kernel_rfl) (fun _ _ _ h=>h) (Or.inl ⟨by rfl,?_⟩) (XB.out) ?_;rotate_left
 ·intro w' hSw
  have hS0:w'.cell? ⟨w.heap.size,0,none⟩=some (.int .i64 v):=hSw.cell_ rfl
  have hS1:w'.cell? ⟨w.heap.size,1,none⟩=some (.int .i64 s):=hSw.cell_ rfl
  have hS2:w'.cell? ⟨w.heap.size,2,none⟩=some (.slice rA rn rc):=hSw.cell_ rfl
  clear hSw
  go_simp
  all_goals with_reducible rfl
 try simp only[Act.put,List.setIfInBounds_toArray,List.set_cons_zero,List.set_cons_succ]
 refine take_l 6 (v:=?_) rfl (by kernel_rfl) (by kernel_rfl) (by kernel_rfl) (fun _ _ _ h=>h) (Or.inl ⟨by rfl,?_⟩) (XB.out) ?_;rotate_left
 ·intro w' hSw
  have hS0:w'.cell? ⟨w.heap.size,0,none⟩=some (.int .i64 v):=hSw.cell_ rfl
  have hS1:w'.cell? ⟨w.heap.size,1,none⟩=some (.int .i64 s):=hSw.cell_ rfl
  have hS2:w'.cell? ⟨w.heap.size,2,none⟩=some (.slice rA rn rc):=hSw.cell_ rfl
  clear hSw
  go_simp
  all_goals with_reducible rfl
 try simp only[Act.put,List.setIfInBounds_toArray,List.set_cons_zero,List.set_cons_succ]
 refine take_l 7 (v:=?_) rfl (by kernel_rfl) (by kernel_rfl) (by kernel_rfl) (fun _ _ _ h=>h) (Or.inl ⟨by rfl,?_⟩) (XB.out) ?_;rotate_left
 ·intro w' hSw
  have hS0:w'.cell? ⟨w.heap.size,0,none⟩=some (.int .i64 v):=hSw.cell_ rfl
  have hS1:w'.cell? ⟨w.heap.size,1,none⟩=some (.int .i64 s):=hSw.cell_ rfl
  have hS2:w'.cell? ⟨w.heap.size,2,none⟩=some (.slice rA rn rc):=hSw.cell_ rfl
  clear hSw
  go_simp
  all_goals with_reducible rfl
 try simp only[Act.put,List.setIfInBounds_toArray,List.set_cons_zero,List.set_cons_succ]
 refine wpAnyH_ready (rs:=[2]) (by kernel_rfl) (by simp) ?_
 refine cons_l rfl (fun K0 hK=>?_) AllReadyH.nil
 go_simp
 (go_at_call 38;(refine(n_d v _).mono ?_);rintro e1 w1 ⟨rfl,h1,h2⟩)
 simp only[Tv.val,Tv.row]
 have O1:=Lib.hid h1
 have B1:=Lib.hid (D0.out.trans (h2.mono D0.out.size))
 clear h1 h2
 refine hK.out _ _ (XB.out.below' B1.out) (fun _=>?_)
 clear hK K0
 try simp only[Act.put,List.setIfInBounds_toArray,List.set_cons_zero,List.set_cons_succ]
 refine wpAnyH_ready (rs:=[5]) (by kernel_rfl) (by simp) ?_
 refine cons_l rfl (fun K0 hK=>?_) AllReadyH.nil
 go_simp
 (go_at_call 38;(refine(n_d s _).mono ?_);rintro e2 w2 ⟨rfl,h1,h2⟩)
 simp only[Tv.val,Tv.row]
 have O2:=Lib.hid h1
 have P2:=Lib.hid (O1.out.keep h2)
 have B2:=Lib.hid (B1.out.trans (h2.mono B1.out.size))
 clear h1 h2 O1
 refine hK.out _ _ (XB.out.below' B2.out) (fun _=>?_)
 clear hK K0
 try simp only[Act.put,List.setIfInBounds_toArray,List.set_cons_zero,List.set_cons_succ]
 refine wpAnyH_ready (rs:=[8]) (by kernel_rfl) (by simp) ?_
 refine cons_l rfl (fun K0 hK=>?_) AllReadyH.nil
 go_simp
 (go_at_call 36;(refine(RBytes_any w2 (HP.out.below (BU.out.trans (B2.out.mono BU.out.size)))).mono ?_);rintro e3 w3 ⟨rfl,h1,h2⟩)
 simp only[Tv.val,Tv.row]
 have O3:=Lib.hid h1
 have P3:=Lib.hid (P2.out.keep h2)
 have Q3:=Lib.hid (O2.out.keep h2)
 have B3:=Lib.hid (B2.out.trans (h2.mono B2.out.size))
 clear h1 h2 O2 P2
 refine hK.out _ _ (XB.out.below' B3.out) (fun _=>?_)
 clear hK K0
 try simp only[Act.put,List.setIfInBounds_toArray,List.set_cons_zero,List.set_cons_succ]
 refine wpAnyH_ready (rs:=[9]) (by kernel_rfl) (by simp) ?_
 refine cons_l rfl (fun K0 hK=>?_) AllReadyH.nil
 go_simp
 have X4:=Lib.hid (below_one w3 (.cells #[.int .i64 1,.int .u64 (un v:Int),.slice none 0 0,.slice none 0 0,.int .i64 1,.int .u64 (un s:Int),.slice none 0 0,.slice none 0 0,.int .i64 2,.int .u64 0,.slice rA rn rc,.slice none 0 0] 75))
 have S4:=Lib.hid (show Sl (w3.alloc (.cells #[.int .i64 1,.int .u64 (un v:Int),.slice none 0 0,.slice none 0 0,.int .i64 1,.int .u64 (un s:Int),.slice none 0 0,.slice none 0 0,.int .i64 2,.int .u64 0,.slice rA rn rc,.slice none 0 0] 75)) (some ⟨w3.heap.size,0,none⟩) (4*3) (flat [nt v,nt s,.mk 2 0 (rA,rn,rc,rl) none 0 []]) from Sl.new_ w3 75 [.int .i64 1,.int .u64 (un v:Int),.slice none 0 0,.slice none 0 0,.int .i64 1,.int .u64 (un s:Int),.slice none 0 0,.slice none 0 0,.int .i64 2,.int .u64 0,.slice rA rn rc,.slice none 0 0])
 have K4:=Lib.hid (ok3 (P3.out.keep X4.out) (Q3.out.keep X4.out) (O3.out.keep X4.out))
 have B4:=Lib.hid (B3.out.trans (X4.out.mono B3.out.size))
 have LT:=Lib.hid (show w.heap.size+1 < w3.heap.size from by have h1:=SU.out;have h2:=B3.out.size;omega)
 clear X4 P3 Q3 O3
 refine hK.out _ _ (XB.out.below' B4.out) (fun _=>?_)
 clear hK K0
 try simp only[Act.put,List.setIfInBounds_toArray,List.set_cons_zero,List.set_cons_succ]
 refine wpAnyH_ready (rs:=[10]) (by kernel_rfl) (by simp) ?_
 refine cons_l rfl (fun K0 hK=>?_) AllReadyH.nil
 go_simp
 (go_at_call 37;(refine(RList_any (ks:=[nt v,nt s,.mk 2 0 (rA,rn,rc,rl) none 0 []]) (c:=3) _ S4.out (Nat.le_refl _) (fun e=>by cases e) K4.out (by simp)).mono ?_);rintro e5 w5 ⟨rfl,h1,h2⟩)
 simp only[Tv.val,Tv.row]
 have O5:=Lib.hid h1
 have B5:=Lib.hid (B4.out.trans (h2.mono B4.out.size))
 have R5:=Lib.hid (NR.out.below' B5.out)
 clear h1 h2
 refine hK.out _ _ (XB.out.below' B5.out) (fun _=>?_)
 clear hK K0
 try simp only[Act.put,List.setIfInBounds_toArray,List.set_cons_zero,List.set_cons_succ]
 have d0:w5.cell? ⟨w.heap.size+1,0,none⟩=some (.int .i64 0):=R5.out.cell_ rfl
 have y0:=R5.out.frozen 0
 have d1:w5.cell? ⟨w.heap.size+1,1,none⟩=some (.int .u64 0):=R5.out.cell_ rfl
 have y1:=R5.out.frozen 1
 have d2:w5.cell? ⟨w.heap.size+1,2,none⟩=some (.slice none 0 0):=R5.out.cell_ rfl
 have y2:=R5.out.frozen 2
 have d3:w5.cell? ⟨w.heap.size+1,3,none⟩=some (.slice none 0 0):=R5.out.cell_ rfl
 have y3:=R5.out.frozen 3
 refine wpAnyH_ready (rs:=[11]) (by kernel_rfl) (by simp) ?_
 refine cons_l rfl (fun K0 hK=>?_) AllReadyH.nil
 go_simp
 refine hK.out _ _ (st4_oth (XB.out.below' B5.out) (by omega) _ _ _ _) (fun _=>?_)
 clear hK K0
 try simp only[Act.put,List.setIfInBounds_toArray,List.set_cons_zero,List.set_cons_succ]
 refine wpAnyH_done (by kernel_rfl) ?_ _
 go_wp2_with fail
 have LL:lies (fun k=>k≠w.heap.size+1) (.mk 3 0 (none,0,0,[]) (some ⟨w3.heap.size,0,none⟩) 3 [nt v,nt s,.mk 2 0 (rA,rn,rc,rl) none 0 []]):=lies_list (by have:=LT.out;omega) (liess3 (lies_nt v) (lies_nt s) (lies_b (fun ad e hn=>by have:=HI.out ad e hn;show ad.block≠_;omega)))
 exact⟨rfl,_,results_c rfl _ _ _ ⟨w.heap.size+1,0,none⟩ _ (by kernel_rfl) (run_loadVar_row _ (w.heap.size+1) 75 75 #[.int .i64 3,.int .u64 0,.slice none 0 0,.slice (some ⟨w3.heap.size,0,none⟩) 3 3] (0,0) _ (st4_bl R5.out _ _ _ _) Tryz.underlying75 rfl size34),.mk 3 0 (none,0,0,[]) (some ⟨w3.heap.size,0,none⟩) 3 [nt v,nt s,.mk 2 0 (rA,rn,rc,rl) none 0 []],rfl,rfl,O5.out.kept LL (fun k hk _=>st4_keep _ _ _ _ _ hk),below_st4' (BU.out.trans (B5.out.mono BU.out.size)) (Nat.le_succ _) _ _ _ _,LL,by simp[Wr.sz,szs];omega⟩
end Go.Proofs.YteblmphohhbgcaaGreat.Mt
