/- Joined texts. -/
import Derived.Test.YteblmphohhbgcaaQaMtAh
set_option linter.unusedVariables false
namespace Go.Proofs.Yteblmphohhbgcaa.Mt
open Go.RowKit Go.Proofs.Yteblmphohhbgcaa.Gn Go.Proofs.Yteblmphohhbgcaa.Fd Go.Proofs.Yteblmphohhbgcaa.Wr Go.Deep
set_option maxRecDepth 100000
abbrev set3(w:World)(q:Nat)(v0 v1 v2:Value):World:=((w.setCell ⟨q,0,none⟩ v0).setCell ⟨q,1,none⟩ v1).setCell ⟨q,2,none⟩ v2
theorem set3_bl{w:World}{q:Nat}{T:TypeId}{c0 c1 c2:Value}(h:Bl w q T #[c0,c1,c2])(v0 v1 v2:Value):Bl (set3 w q v0 v1 v2) q T #[v0,v1,v2]:=((h.set_ 0 v0).set_ 1 v1).set_ 2 v2
theorem set3_below{B:Nat}{w a:World}(h:Below B w a){q:Nat}(hq:B≤q)(v0 v1 v2:Value):Below B w (set3 a q v0 v1 v2) :=
 ((h.setCell (p:=⟨q,0,none⟩) hq v0).setCell (p:=⟨q,1,none⟩) hq v1).setCell (p:=⟨q,2,none⟩) hq v2
abbrev z3:Array Value:=#[.int .i64 0,.int .i64 0,.slice none 0 0]
theorem z3_pl:∀(i:Nat) v,z3[i]?=some v→pl v=true:=by
 intro i v h
 rcases i with _|_|_|i
 all_goals first|(cases h;rfl)|simp[z3] at h
set_option maxHeartbeats 4000000 in
theorem root_bad{w:World}{g q:Nat}{wr wh:Bool}{ks:List Tv}{bb:Nat}{t:TypeId}{c0 c1 c2:Value}(h:Ps w g q wr wh ks bb t #[c0,c1,c2]){P Q L:Tv × Bool × List Tv}(hP:nxt (FI 1 4611686018427387904) 1 wh ks=P)(hQ:nxt (FI 0 4611686018427387904) 1 P.2.1 P.2.2=Q)(hL:nxt (FL 0 9223372036854775807) 3 Q.2.1 Q.2.2=L){m:Nat}(hm:(kids L.1).length=m)(h4:m≠4):Calls Try.prog 24 #[.pointer (some ⟨g,0,none⟩),.pointer (some ⟨bb,0,none⟩)] w fun e w'=>e=.returned (.tuple #[])∧∃cs,Ps w' g q true L.2.1 L.2.2 bb t cs∧Tc (fun k=>k=q∨k=bb∨k=g) w w':=by
 have BW:∀n,Below w.heap.size w (w.drewN n):=fun n=>below_drewN (Below.refl _ w) n
 have CH:=Lib.hid (fun n=>head_p (h.below (BW n)) (o:=0) (p:=1) rfl rfl hP hQ)
 have CR:=Lib.hid (fun(u:World) (hu:Ps u g q wr Q.2.1 Q.2.2 bb t #[.int .i64 (nm P.1:Int),.int .i64 (nm Q.1:Int),c2]) (f:Value)=>row_bad hu rfl hL hm h4 f)
 have HW:=Lib.hid BW
 clear h hP hQ hL hm h4 BW
 go_enter Try.func24,Try.ntmps24
 go_wp2_with fail
 go_region_with (go_at_call 44;(refine(CH.out _).mono ?_);rintro e w1 ⟨rfl,hp,ht⟩;have T1:=Lib.hid ((Tc.below (S:=fun k=>k=q∨k=bb) (HW.out _)).trans ht);have CI:=Lib.hid (CR.out _ hp);clear hp ht)
 all_goals go_wp2_with (go_at_call 45;(refine(CI.out _).mono ?_);rintro e w2 ⟨rfl,z,h5,h7⟩;have P2:=Lib.hid h5;have T2:=Lib.hid h7;clear h5 h7)
 all_goals(
  first|go_end0|refine bodyPost_ret (results_none rfl _ _ _) rfl ?_
  exact⟨rfl,_,P2.out,(T1.out.mono (fun k _ e=>by
   rcases e with e|e
   ·exact .inl e
   ·exact .inr (.inl e))).trans T2.out⟩)
def rtL(V:Nd):N3:=nx (dL 0 9223372036854775807) 3 (nx (dI 0 4611686018427387904) 1 (nx (dI 1 4611686018427387904) 1 (w0V V) (n0V V)).2.1 (nx (dI 1 4611686018427387904) 1 (w0V V) (n0V V)).2.2).2.1 (nx (dI 0 4611686018427387904) 1 (nx (dI 1 4611686018427387904) 1 (w0V V) (n0V V)).2.1 (nx (dI 1 4611686018427387904) 1 (w0V V) (n0V V)).2.2).2.2
def NoR(w:World)(e:Ending)(w':World):Prop:=Below w.heap.size w w'∧e=.returned (.tuple #[.agg z3,.int .i64 80])
set_option maxHeartbeats 4000000 in
theorem read_root_bad{w:World}{r:Rw}(hr:Pc w r)(hr9:r.2.1≤800000)(hin:∀ad,r.1=some ad→ad.block < w.heap.size){V:Nd}{p:Nat}{k:Int}(hV:rdw 8192 8 1024 8192 r.2.2.2=.good V p k)(h4:(ksd (rtL V).1).length≠4):Calls Try.prog 25 #[.slice r.1 r.2.1 r.2.2.1,.func (.func 24) #[] #[]] w (NoR w):=by
 obtain⟨x,y,V',hQ,hO,hsz⟩:∃(x y:Int) (V':Nd),(∀w e w',RdQ (rdw 8192 8 1024 8192 r.2.2.2) w e w'→R3Q x y V' w e w')∧(y=0∧V'=V)∧szn V'≤r.2.2.2.length+1:=by
  obtain⟨x,y,V',h1,h2,h3,h4,h5⟩:=rdq3 (a:=8192) (b:=8) (c:=1024) (d:=8192) (l:=r.2.2.2)
  exact⟨x,y,V',h1,h3 _ _ _ hV,h5⟩
 obtain⟨rfl,rfl⟩:=hO
 have SV:=Lib.hid (show szn V'≤800001 from by have:=hr.len;omega)
 have H4:=Lib.hid h4
 obtain⟨U,hU⟩:∃U,(((w.alloc (.cells z3 24)).alloc (.cells z3 24)).alloc (.cells z3 24))=U:=⟨_,rfl⟩
 have BU:=Lib.hid (show Below w.heap.size w U from by rw[←hU];exact(((Below.refl _ w).alloc (Nat.le_refl _) _).alloc (by simp) _).alloc (by simp;omega) _)
 have NR:=Lib.hid (show Bl U w.heap.size 24 z3 from by rw[←hU];exact((Bl.new_ w _ _).alloc _).alloc _)
 have NB:=Lib.hid (show Bl U (w.heap.size+1) 24 z3 from by rw[←hU];exact(Bl.new' _ _ (by simp)).alloc _)
 have NN:=Lib.hid (show Bl U (w.heap.size+2) 24 z3 from by rw[←hU];exact Bl.new' _ _ (by simp))
 have SU:=Lib.hid (show U.heap.size=w.heap.size+3 from by rw[←hU];simp)
 have CR:=Lib.hid (fun u (hu:Below U.heap.size U u)=>read_r3 (hr.below (BU.out.trans (hu.mono BU.out.size))) hr9 (fun ad e=>Nat.lt_of_lt_of_le (hin ad e) (Nat.le_trans BU.out.size hu.size)) hQ)
 clear hr hr9 hin hQ hsz h4 hV
 obtain⟨rA,rn,rc,rl⟩:=r
 simp only at CR ⊢
 go_enter Try.func25,Try.ntmps25
 go_upto_region 3 with(first
  |(go_at_call 43;(refine(limits_any _).mono ?_);rintro e1 w1 ⟨rfl,h1⟩;have B1:=Lib.hid h1;clear h1)
  |(go_at_call 49;(refine(CR.out _ B1.out).mono ?_);rintro e2 w2 ⟨h1,t,rfl,h2,h3⟩;obtain⟨K,n,tr,tA,tc,tk⟩:=t;simp only[Tv.val,Tv.row];have B2:=Lib.hid (B1.out.trans (h1.mono B1.out.size));have N2:=Lib.hid h2;have O2:=Lib.hid h3;clear h1 h2 h3))
 have X2:=Lib.hid (below_one w2 (.cells #[.int .i64 K,.int .u64 (n:Int),.slice tr.1 tr.2.1 tr.2.2.1,.slice tA tk.length tc] 80))
 have NV:=Lib.hid (Bl.new_ w2 80 #[.int .i64 K,.int .u64 (n:Int),.slice tr.1 tr.2.1 tr.2.2.1,.slice tA tk.length tc])
 have B3:=Lib.hid (B2.out.trans (X2.out.mono B2.out.size))
 have O3:=Lib.hid (O2.out.keep X2.out)
 obtain⟨vb,hvb⟩:∃vb,w2.heap.size=vb:=⟨_,rfl⟩
 rw[hvb] at NV ⊢
 generalize w2.alloc (.cells #[.int .i64 K,.int .u64 (n:Int),.slice tr.1 tr.2.1 tr.2.2.1,.slice tA tk.length tc] 80)=w3 at *
 clear X2 O2 B2 B1 CR hU hvb
 have v0:(w3).cell? ⟨vb,0,none⟩=some (.int .i64 K):=(NV.out).cell_ rfl
 have v1:(w3).cell? ⟨vb,1,none⟩=some (.int .u64 (n:Int)):=(NV.out).cell_ rfl
 have v2:(w3).cell? ⟨vb,2,none⟩=some (.slice tr.1 tr.2.1 tr.2.2.1):=(NV.out).cell_ rfl
 have v3:(w3).cell? ⟨vb,3,none⟩=some (.slice tA tk.length tc):=(NV.out).cell_ rfl
 have CO:=Lib.hid (open_v O3.out (by have h1:=(nd_all _ O3.out).2.2.2;rw[h1,N2.out];have:=SV.out;omega) w3 (Below.refl _ _))
 go_upto_region 6 with(go_at_call 50;(refine CO.out.mono ?_);rintro e4 w4 ⟨q,us,rfl,h1,h2,h3,h4,h5⟩;have F4:=Lib.hid h1;have U4:=Lib.hid h2;have Q4:=Lib.hid (And.intro h3 h4);have B4:=Lib.hid h5;clear h1 h2 h3 h4 h5)
 have X4:=Lib.hid (below_one w4 (.cells #[.pointer (some ⟨q,0,none⟩),.slice none 0 0,.bool false] 94))
 have NP:=Lib.hid (Bl.new_ w4 94 #[.pointer (some ⟨q,0,none⟩),.slice none 0 0,.bool false])
 have B5:=Lib.hid (B3.out.trans ((B4.out.trans (X4.out.mono B4.out.size)).mono B3.out.size))
 have hN:nds us=n0V V':=by rw[U4.out,kd_nd,N2.out];rfl
 have us_ok:=(F4.out.below X4.out).ok
 have PS:Ps (w4.alloc (.cells #[.pointer (some ⟨q,0,none⟩),.slice none 0 0,.bool false] 94)) w4.heap.size q false (w0V V') us (w.heap.size+1) 24 z3:=by
  have q4:=Q4.out
  have s3:=B3.out.size
  have sU:=SU.out
  refine⟨⟨NP.out,?_,by omega⟩,⟨NB.out.below' B5.out,z3_pl⟩,?_,by omega,by omega⟩
  ·have h:=F4.out.below X4.out
   rwa [show decide (kd (.mk K n tr tA tc tk)=3)=w0V V' from by rw[kd_nd,N2.out];rfl] at h
  ·refine mem_szs ?_
   have h1:=(nds_all us us_ok).2.2.2
   have h2:=szns_mem0 V'
   have h3:=SV.out
   rw[h1,hN]
   omega
 obtain⟨P,hP⟩:∃P,nxt (FI 1 4611686018427387904) 1 (w0V V') us=P:=⟨_,rfl⟩
 obtain⟨Q,hQ⟩:∃Q,nxt (FI 0 4611686018427387904) 1 P.2.1 P.2.2=Q:=⟨_,rfl⟩
 obtain⟨L,hL⟩:∃L,nxt (FL 0 9223372036854775807) 3 Q.2.1 Q.2.2=L:=⟨_,rfl⟩
 have eL:rtL V'=n3 L:=by
  unfold rtL
  have e1:=nx_I hP
  rw[hN] at e1
  rw[e1]
  show nx _ _ (nx (dI 0 4611686018427387904) 1 P.2.1 (nds P.2.2)).2.1 (nx (dI 0 4611686018427387904) 1 P.2.1 (nds P.2.2)).2.2=_
  rw[nx_I hQ]
  exact nx_L hL
 have hm:(kids L.1).length≠4:=by
  have h:=H4.out
  rw[eL] at h
  rwa [show ksd (n3 L).1=nds (kids L.1) from(ks_nd _).symm,nds_len] at h
 have CF:=Lib.hid (root_bad PS hP hQ hL rfl hm)
 have NG:=Lib.hid (show w.heap.size+2 < w4.heap.size∧w.heap.size+2 < q from by have h1:=Q4.out;have h2:=B3.out.size;have h3:=SU.out;omega)
 clear PS us_ok hN hP hQ hL eL hm CO F4 U4 Q4 NP v0 v1 v2 v3 H4
 obtain⟨g,hg⟩:∃g,w4.heap.size=g:=⟨_,rfl⟩
 rw[hg] at CF NG ⊢
 obtain⟨w5,hw5⟩:∃w5,w4.alloc (.cells #[.pointer (some ⟨q,0,none⟩),.slice none 0 0,.bool false] 94)=w5:=⟨_,rfl⟩
 rw[hw5] at CF B5 ⊢
 clear hw5 hg X4 B4 w4
 go_upto_region 7 with(go_at_call 24;(refine CF.out.mono ?_);rintro e7 w7 ⟨rfl,cs7,p7,t7⟩;have T7:=Lib.hid t7;have CG:=Lib.hid (right_r p7.pr);clear p7 t7)
 have ng:=NG.out
 have S7:∀k,(fun k=>k=q∨k=w.heap.size+1∨k=g) k→w.heap.size≤k∧k≠w.heap.size∧k≠w.heap.size+2:=fun k e=>by
  rcases e with rfl|rfl|rfl <;> omega
 have B7:=Lib.hid ((BU.out.trans (B5.out.mono BU.out.size)).trans (T7.out.to_below (B:=w.heap.size) (Nat.le_trans BU.out.size B5.out.size) (fun k e=>(S7 k e).1)))
 have R7:=Lib.hid (T7.out.bl (NR.out.below' B5.out) (fun e=>(S7 _ e).2.1 rfl))
 have M7:=Lib.hid (T7.out.bl (NN.out.below' B5.out) (fun e=>(S7 _ e).2.2 rfl))
 clear S7 ng T7 NG
 rw[Bool.not_true,Bool.false_and] at CG
 have k0:(w7).cell? ⟨w.heap.size+2,0,none⟩=some (.int .i64 0):=(M7.out).cell_ rfl
 have k1:(w7).cell? ⟨w.heap.size+2,1,none⟩=some (.int .i64 0):=(M7.out).cell_ rfl
 have k2:(w7).cell? ⟨w.heap.size+2,2,none⟩=some (.slice none 0 0):=(M7.out).cell_ rfl
 have g0:=(R7.out).frozen 0
 have g1:=(R7.out).frozen 1
 have g2:=(R7.out).frozen 2
 have r0:(w7).cell? ⟨w.heap.size,0,none⟩=some (.int .i64 0):=(R7.out).cell_ rfl
 have r1:(w7).cell? ⟨w.heap.size,1,none⟩=some (.int .i64 0):=(R7.out).cell_ rfl
 have r2:(w7).cell? ⟨w.heap.size,2,none⟩=some (.slice none 0 0):=(R7.out).cell_ rfl
 go_wp2_with (go_at_call 42;(refine CG.out.mono ?_);rintro e8 w8 ⟨rfl,rfl⟩)
 refine⟨rfl,_,results_c2 rfl _ _ _ ⟨w.heap.size,0,none⟩ _ _ (by kernel_rfl) rfl (run_loadVar_row _ w.heap.size 24 24 #[.int .i64 0,.int .i64 0,.slice none 0 0] (0,0) _ (set3_bl (R7.out) _ _ _) Try.underlying24 rfl (by kernel_rfl)),?_⟩
 exact⟨set3_below B7.out (Nat.le_refl _) _ _ _,rfl⟩
set_option maxHeartbeats 4000000 in
theorem ReadRoot_bad{w:World}{r:Rw}(hr:Pc w r)(hr9:r.2.1≤800000)(hin:∀ad,r.1=some ad→ad.block < w.heap.size){V:Nd}{p:Nat}{k:Int}(hV:rdw 8192 8 1024 8192 r.2.2.2=.good V p k)(h4:(ksd (rtL V).1).length≠4):Calls Try.prog 11 #[.slice r.1 r.2.1 r.2.2.1] w (NoR w):=by
 obtain⟨U,hU⟩:∃U,w.alloc (.cells z3 24)=U:=⟨_,rfl⟩
 have BU:=Lib.hid (show Below w.heap.size w U from by rw[←hU];exact below_one w _)
 have NR:=Lib.hid (show Bl U w.heap.size 24 z3 from by rw[←hU];exact Bl.new_ w _ _)
 have CR:=Lib.hid (read_root_bad (hr.below BU.out) hr9 (fun ad e=>Nat.lt_of_lt_of_le (hin ad e) BU.out.size) hV h4)
 clear hr hr9 hin hV h4
 obtain⟨rA,rn,rc,rl⟩:=r
 simp only at CR ⊢
 go_enter Try.func11,Try.ntmps11
 go_wp2_with (go_at_call 25;(refine CR.out.mono ?_);rintro e1 w1 ⟨h1,rfl⟩;have B1:=Lib.hid h1;have R1:=Lib.hid (NR.out.below' h1);have r0:w1.cell? ⟨w.heap.size,0,none⟩=some (.int .i64 0):=R1.out.cell_ rfl;have g0:=R1.out.frozen 0;have r1:w1.cell? ⟨w.heap.size,1,none⟩=some (.int .i64 0):=R1.out.cell_ rfl;have g1:=R1.out.frozen 1;have r2:w1.cell? ⟨w.heap.size,2,none⟩=some (.slice none 0 0):=R1.out.cell_ rfl;have g2:=R1.out.frozen 2;clear h1)
 refine⟨rfl,_,results_c2 rfl _ _ _ ⟨w.heap.size,0,none⟩ _ _ (by kernel_rfl) rfl (run_loadVar_row _ w.heap.size 24 24 #[.int .i64 0,.int .i64 0,.slice none 0 0] (0,0) _ (set3_bl (R1.out) _ _ _) Try.underlying24 rfl (by kernel_rfl)),?_⟩
 exact⟨set3_below (BU.out.trans (B1.out.mono BU.out.size)) (Nat.le_refl _) _ _ _,rfl⟩
end Go.Proofs.Yteblmphohhbgcaa.Mt
