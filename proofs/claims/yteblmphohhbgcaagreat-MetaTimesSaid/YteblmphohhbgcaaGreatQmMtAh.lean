/- Joined texts. -/
import Derived.Test.YteblmphohhbgcaaGreatQmMtX
set_option linter.unusedVariables false
namespace Go.Proofs.YteblmphohhbgcaaGreat.Mt
open Go.RowKit Go.Proofs.YteblmphohhbgcaaGreat.Gn Go.Proofs.YteblmphohhbgcaaGreat.Fd Go.Proofs.YteblmphohhbgcaaGreat.Wr Go.Deep
set_option maxRecDepth 100000
theorem infoR:(Tryz.prog.info? 69).map (fun i=>(i.zero,i.size,i.bytes))=some (some (.agg #[.slice none 0 0,.int .i64 0]),2,32):=by kernel_rfl
theorem make_roles(m:Nat)(hm:m≤1000000)(w:World):(Instr.makeSlice 22 (.int .i64 (m:Int)) (.int .i64 (m:Int))).run Tryz.prog w=.ok (.slice (some ⟨w.heap.size,0,none⟩) m m) (w.alloc (.cells (madeCells #[.slice none 0 0,.int .i64 0] (m*2)) 69)):=by
 obtain⟨i0,hi,hz0,hz1,hz2⟩:=info_parts infoR
 have h:=run_make (P:=Tryz.prog) w 22 69 i0 _ Tryz.underlying22 hi hz0 .i64 .i64 (m:Int) (m:Int) (by omega) (Int.le_refl _) (by rw[hz2];omega) (by omega)
 rw[hz1] at h
 exact h
theorem Pr.below{w u:World}{g q:Nat}{wr wh:Bool}{ks:List Tv}(h:Pr w g q wr wh ks)(hb:Below w.heap.size w u):Pr u g q wr wh ks:=⟨h.bl.below' hb,h.fl.below hb,h.ne⟩
theorem Bx.below{w u:World}{bb:Nat}{t:TypeId}{cs:Array Value}(h:Bx w bb t cs)(hb:Below w.heap.size w u):Bx u bb t cs:=⟨h.bl.below' hb,h.pn⟩
theorem len_kids{us:List Tv}{X:Tv}(h:nds us=nds (kids X)):us.length=(kids X).length:=by
 have h2:=congrArg List.length h
 rwa [nds_map,nds_map,List.length_map,List.length_map] at h2
set_option maxHeartbeats 4000000 in
theorem row_bad{w:World}{g q:Nat}{wr wh:Bool}{ks:List Tv}{bb:Nat}{t:TypeId}{cs:Array Value}{v0:Value}(h:Ps w g q wr wh ks bb t cs)(ho:cs[2]?=some v0){L:Tv × Bool × List Tv}(hL:nxt (FL 0 9223372036854775807) 3 wh ks=L){m:Nat}(hm:(kids L.1).length=m)(h4:m≠4)(f:Value):Calls Tryz.prog 70 #[.pointer (some ⟨g,0,none⟩),.pointer (some ⟨bb,2,none⟩),.int .i64 4,.int .i64 4,f] w fun e w'=>e=.returned (.tuple #[])∧∃z,Ps w' g q true L.2.1 L.2.2 bb t (cs.setIfInBounds 2 (.slice (some ⟨z,0,none⟩) m m))∧Tc (fun k=>k=q∨k=bb∨k=g) w w':=by
 have m9:m≤900000:=by
  have h1:=nxt_kids (F:=FL 0 9223372036854775807) (k:=3) (wh:=wh) h.pr.fl.ok h.sz
  rw[hL] at h1
  have:=szs_len (kids L.1)
  omega
 have CO:=Lib.hid ((open_p h hL).mono fun e w' ⟨g2,q2,us,h1,h2,h3,h4,h5,h6,h7⟩=>(show ∃g2 q2,e=Ending.returned (.tuple #[.pointer (some ⟨g2,0,none⟩),.int .i64 (m:Int)])∧Pr w' g q wr L.2.1 L.2.2∧w.grownBy w' (some q) from⟨g2,q2,by rw[h1,len_kids h2,hm],h4,h7⟩))
 have RM:∀u,(Instr.makeSlice 22 (.int .i64 (m:Int)) (.int .i64 (m:Int))).run Tryz.prog u=.ok (.slice (some ⟨u.heap.size,0,none⟩) m m) (u.alloc (.cells (madeCells #[.slice none 0 0,.int .i64 0] (m*2)) 69)):=make_roles m (by omega)
 have HL:=Lib.hid (show ∀t∈L.2.2,Wr.sz t≤900000 from by rw[←hL];exact nxt_rest h.sz)
 have HB:=Lib.hid h.bx
 have HQ:=Lib.hid h.nq
 have HG:=Lib.hid h.ng
 have HO:=Lib.hid ho
 clear hL hm ho h m9
 go_enter Tryz.func70,Tryz.ntmps70
 go_upto_region 2 with(first
  |(go_at_call 99;(refine CO.out.mono ?_);rintro e w1 ⟨g2,q2,rfl,hr,hw⟩;have R1:=Lib.hid hr;have Q1:=Lib.hid hw;have CR:=Lib.hid (reads_yes hr.bl);clear hr hw)
  |(go_at_call 91;(refine CR.out.mono ?_);rintro e w2 ⟨rfl,rfl⟩))
 have X1:=Lib.hid (below_one w1 (.cells (madeCells #[.slice none 0 0,.int .i64 0] (m*2)) 69))
 have B1:=Lib.hid ((HB.out.tc (Tc.grown Q1.out) (fun e=>HQ.out e)).below X1.out)
 have R2:=Lib.hid (R1.out.below X1.out)
 have T2:=Lib.hid (((Tc.grown Q1.out).mono (T:=fun k=>k=q∨k=bb∨k=g) (fun k _ e=>.inl e)).trans (Tc.below (S:=fun k=>k=q∨k=bb∨k=g) X1.out))
 obtain⟨z,hz⟩:∃z,w1.heap.size=z:=⟨_,rfl⟩
 obtain⟨W2,hW2⟩:∃W2,w1.alloc (.cells (madeCells #[.slice none 0 0,.int .i64 0] (m*2)) 69)=W2:=⟨_,rfl⟩
 rw[hW2] at B1 R2 T2
 have RM1:(Instr.makeSlice 22 (.int .i64 (m:Int)) (.int .i64 (m:Int))).run Tryz.prog w1=.ok (.slice (some ⟨z,0,none⟩) m m) W2:=by rw[RM,hz,hW2]
 have c2:W2.cell? ⟨bb,2,none⟩=some v0:=B1.out.bl.cell_ HO.out
 have f2:=B1.out.bl.frozen 2
 have B3:=Lib.hid (B1.out.set 2 (.slice (some ⟨z,0,none⟩) m m) rfl)
 have R3:=Lib.hid (R2.out.touch (S:=fun k=>k=bb) ((Tc.refl (fun k=>k=bb) W2).set (p:=⟨bb,2,none⟩) (.inl rfl) (.slice (some ⟨z,0,none⟩) m m)) (fun k e=>e▸B1.out.pnk) (fun e=>HG.out e.symm) (fun e=>HQ.out e.symm))
 have T3:=Lib.hid (T2.out.set (p:=⟨bb,2,none⟩) (.inl (.inr (.inl rfl))) (.slice (some ⟨z,0,none⟩) m m))
 have CM:=Lib.hid (must_any R3.out.bl false)
 have k2:(W2.setCell ⟨bb,2,none⟩ (.slice (some ⟨z,0,none⟩) m m)).cell? ⟨bb,2,none⟩=some (.slice (some ⟨z,0,none⟩) m m):=B3.out.bl.cell_ (by rw[Array.getElem?_setIfInBounds,if_pos rfl,if_pos (Array.getElem?_eq_some_iff.1 HO.out).1])
 rw[Bool.not_false,Bool.or_true] at CM
 clear RM hz hW2 CO CR Q1
 obtain⟨W3,hW3⟩:∃W3,W2.setCell ⟨bb,2,none⟩ (.slice (some ⟨z,0,none⟩) m m)=W3:=⟨_,rfl⟩
 rw[hW3] at B3 R3 T3 CM k2
 rcases Nat.lt_or_gt_of_ne h4 with h5|h5
 ·have q0:(m:Int) < 4:=by omega
  clear h5 h4
  go_upto_region 4 with(go_at_call 100;(refine CM.out.mono ?_);rintro e w4 ⟨rfl,h1,h2⟩;have M4:=Lib.hid h1;have G4:=Lib.hid h2;have m2:w4.cell? ⟨g,2,none⟩=some (.bool true):=h1.cell_ rfl;clear h1 h2)
  go_wp2_with fail
  first|go_end0|refine bodyPost_ret (results_none rfl _ _ _) rfl ?_
  exact⟨rfl,z,⟨⟨M4.out,fl_touch R3.out.fl (Tc.grown G4.out) (fun k e=>e▸R3.out.png) (fun e=>R3.out.ne e.symm),R3.out.ne⟩,B3.out.tc (Tc.grown G4.out) (fun e=>HG.out e),HL.out,HQ.out,HG.out⟩,T3.out.trans ((Tc.grown G4.out).mono (fun k _ e=>.inr (.inr e)))⟩
 ·have q1:(4:Int)≤(m:Int):=by omega
  have q0:¬(m:Int)≤4:=by omega
  clear h5 h4
  go_upto_region 4 with(go_at_call 100;(refine CM.out.mono ?_);rintro e w4 ⟨rfl,h1,h2⟩;have M4:=Lib.hid h1;have G4:=Lib.hid h2;have m2:w4.cell? ⟨g,2,none⟩=some (.bool true):=h1.cell_ rfl;clear h1 h2)
  go_wp2_with fail
  first|go_end0|refine bodyPost_ret (results_none rfl _ _ _) rfl ?_
  exact⟨rfl,z,⟨⟨M4.out,fl_touch R3.out.fl (Tc.grown G4.out) (fun k e=>e▸R3.out.png) (fun e=>R3.out.ne e.symm),R3.out.ne⟩,B3.out.tc (Tc.grown G4.out) (fun e=>HG.out e),HL.out,HQ.out,HG.out⟩,T3.out.trans ((Tc.grown G4.out).mono (fun k _ e=>.inr (.inr e)))⟩
end Go.Proofs.YteblmphohhbgcaaGreat.Mt
namespace Go.Proofs.YteblmphohhbgcaaGreat.Mt
open Go.RowKit Go.Proofs.YteblmphohhbgcaaGreat.Gn Go.Proofs.YteblmphohhbgcaaGreat.Fd Go.Proofs.YteblmphohhbgcaaGreat.Wr Go.Deep
set_option maxRecDepth 100000
abbrev set3(w:World)(q:Nat)(v0 v1 v2:Value):World:=((w.setCell ⟨q,0,none⟩ v0).setCell ⟨q,1,none⟩ v1).setCell ⟨q,2,none⟩ v2
theorem set3_bl{w:World}{q:Nat}{T:TypeId}{c0 c1 c2:Value}(h:Bl w q T #[c0,c1,c2])(v0 v1 v2:Value):Bl (set3 w q v0 v1 v2) q T #[v0,v1,v2]:=((h.set_ 0 v0).set_ 1 v1).set_ 2 v2
theorem set3_below{B:Nat}{w a:World}(h:Below B w a){q:Nat}(hq:B≤q)(v0 v1 v2:Value):Below B w (set3 a q v0 v1 v2) :=
 ((h.setCell (p:=⟨q,0,none⟩) hq v0).setCell (p:=⟨q,1,none⟩) hq v1).setCell (p:=⟨q,2,none⟩) hq v2
abbrev z3:Array Value:=#[.int .i64 0,.int .i64 0,.slice none 0 0]
theorem z3_pl:∀(i:Nat) v,z3[i]?=some v→pl v=true:=by
 intro i v h
 rcases i with _|_|_|i
 all_goals first|(cases h;rfl)|simp[z3] at h
set_option maxHeartbeats 4000000 in
theorem root_bad{w:World}{g q:Nat}{wr wh:Bool}{ks:List Tv}{bb:Nat}{t:TypeId}{c0 c1 c2:Value}(h:Ps w g q wr wh ks bb t #[c0,c1,c2]){P Q L:Tv × Bool × List Tv}(hP:nxt (FI 1 4611686018427387904) 1 wh ks=P)(hQ:nxt (FI 0 4611686018427387904) 1 P.2.1 P.2.2=Q)(hL:nxt (FL 0 9223372036854775807) 3 Q.2.1 Q.2.2=L){m:Nat}(hm:(kids L.1).length=m)(h4:m≠4):Calls Tryz.prog 35 #[.pointer (some ⟨g,0,none⟩),.pointer (some ⟨bb,0,none⟩)] w fun e w'=>e=.returned (.tuple #[])∧∃cs,Ps w' g q true L.2.1 L.2.2 bb t cs∧Tc (fun k=>k=q∨k=bb∨k=g) w w':=by
 have BW:∀n,Below w.heap.size w (w.drewN n):=fun n=>below_drewN (Below.refl _ w) n
 have CH:=Lib.hid (fun n=>head_p (h.below (BW n)) (o:=0) (p:=1) rfl rfl hP hQ)
 have CR:=Lib.hid (fun(u:World) (hu:Ps u g q wr Q.2.1 Q.2.2 bb t #[.int .i64 (nm P.1:Int),.int .i64 (nm Q.1:Int),c2]) (f:Value)=>row_bad hu rfl hL hm h4 f)
 have HW:=Lib.hid BW
 clear h hP hQ hL hm h4 BW
 go_enter Tryz.func35,Tryz.ntmps35
 go_wp2_with fail
 go_region_with (go_at_call 69;(refine(CH.out _).mono ?_);rintro e w1 ⟨rfl,hp,ht⟩;have T1:=Lib.hid ((Tc.below (S:=fun k=>k=q∨k=bb) (HW.out _)).trans ht);have CI:=Lib.hid (CR.out _ hp);clear hp ht)
 all_goals go_wp2_with (go_at_call 70;(refine(CI.out _).mono ?_);rintro e w2 ⟨rfl,z,h5,h7⟩;have P2:=Lib.hid h5;have T2:=Lib.hid h7;clear h5 h7)
 all_goals(
  first|go_end0|refine bodyPost_ret (results_none rfl _ _ _) rfl ?_
  exact⟨rfl,_,P2.out,(T1.out.mono (fun k _ e=>by
   rcases e with e|e
   ·exact .inl e
   ·exact .inr (.inl e))).trans T2.out⟩)
def rtL(V:Nd):N3:=nx (dL 0 9223372036854775807) 3 (nx (dI 0 4611686018427387904) 1 (nx (dI 1 4611686018427387904) 1 (w0V V) (n0V V)).2.1 (nx (dI 1 4611686018427387904) 1 (w0V V) (n0V V)).2.2).2.1 (nx (dI 0 4611686018427387904) 1 (nx (dI 1 4611686018427387904) 1 (w0V V) (n0V V)).2.1 (nx (dI 1 4611686018427387904) 1 (w0V V) (n0V V)).2.2).2.2
def NoR(w:World)(e:Ending)(w':World):Prop:=Below w.heap.size w w'∧e=.returned (.tuple #[.agg z3,.int .i64 80])
set_option maxHeartbeats 4000000 in
theorem read_root_bad{w:World}{r:Rw}(hr:Pc w r)(hr9:r.2.1≤800000)(hin:∀ad,r.1=some ad→ad.block < w.heap.size){V:Nd}{p:Nat}{k:Int}(hV:rdw 8192 8 1024 8192 r.2.2.2=.good V p k)(h4:(ksd (rtL V).1).length≠4):Calls Tryz.prog 41 #[.slice r.1 r.2.1 r.2.2.1,.func (.func 35) #[] #[]] w (NoR w):=by
 obtain⟨x,y,V',hQ,hO,hsz⟩:∃(x y:Int) (V':Nd),(∀w e w',RdQ (rdw 8192 8 1024 8192 r.2.2.2) w e w'→R3Q x y V' w e w')∧(y=0∧V'=V)∧szn V'≤r.2.2.2.length+1:=by
  obtain⟨x,y,V',h1,h2,h3,h4,h5⟩:=rdq3 (a:=8192) (b:=8) (c:=1024) (d:=8192) (l:=r.2.2.2)
  exact⟨x,y,V',h1,h3 _ _ _ hV,h5⟩
 obtain⟨rfl,rfl⟩:=hO
 have SV:=Lib.hid (show szn V'≤800001 from by have:=hr.len;omega)
 have H4:=Lib.hid h4
 obtain⟨U,hU⟩:∃U,(((w.alloc (.cells z3 24)).alloc (.cells z3 24)).alloc (.cells z3 24))=U:=⟨_,rfl⟩
 have BU:=Lib.hid (show Below w.heap.size w U from by rw[←hU];exact(((Below.refl _ w).alloc (Nat.le_refl _) _).alloc (by simp) _).alloc (by simp;omega) _)
 have NR:=Lib.hid (show Bl U w.heap.size 24 z3 from by rw[←hU];exact((Bl.new_ w _ _).alloc _).alloc _)
 have NB:=Lib.hid (show Bl U (w.heap.size+1) 24 z3 from by rw[←hU];exact(Bl.new' _ _ (by simp)).alloc _)
 have NN:=Lib.hid (show Bl U (w.heap.size+2) 24 z3 from by rw[←hU];exact Bl.new' _ _ (by simp))
 have SU:=Lib.hid (show U.heap.size=w.heap.size+3 from by rw[←hU];simp)
 have CR:=Lib.hid (fun u (hu:Below U.heap.size U u)=>read_r3 (hr.below (BU.out.trans (hu.mono BU.out.size))) hr9 (fun ad e=>Nat.lt_of_lt_of_le (hin ad e) (Nat.le_trans BU.out.size hu.size)) hQ)
 clear hr hr9 hin hQ hsz h4 hV
 obtain⟨rA,rn,rc,rl⟩:=r
 simp only at CR ⊢
 go_enter Tryz.func41,Tryz.ntmps41
 go_upto_region 3 with(first
  |(go_at_call 68;(refine(limits_any _).mono ?_);rintro e1 w1 ⟨rfl,h1⟩;have B1:=Lib.hid h1;clear h1)
  |(go_at_call 79;(refine(CR.out _ B1.out).mono ?_);rintro e2 w2 ⟨h1,t,rfl,h2,h3⟩;obtain⟨K,n,tr,tA,tc,tk⟩:=t;simp only[Tv.val,Tv.row];have B2:=Lib.hid (B1.out.trans (h1.mono B1.out.size));have N2:=Lib.hid h2;have O2:=Lib.hid h3;clear h1 h2 h3))
 have X2:=Lib.hid (below_one w2 (.cells #[.int .i64 K,.int .u64 (n:Int),.slice tr.1 tr.2.1 tr.2.2.1,.slice tA tk.length tc] 75))
 have NV:=Lib.hid (Bl.new_ w2 75 #[.int .i64 K,.int .u64 (n:Int),.slice tr.1 tr.2.1 tr.2.2.1,.slice tA tk.length tc])
 have B3:=Lib.hid (B2.out.trans (X2.out.mono B2.out.size))
 have O3:=Lib.hid (O2.out.keep X2.out)
 obtain⟨vb,hvb⟩:∃vb,w2.heap.size=vb:=⟨_,rfl⟩
 rw[hvb] at NV ⊢
 generalize w2.alloc (.cells #[.int .i64 K,.int .u64 (n:Int),.slice tr.1 tr.2.1 tr.2.2.1,.slice tA tk.length tc] 75)=w3 at *
 clear X2 O2 B2 B1 CR hU hvb
 have v0:(w3).cell? ⟨vb,0,none⟩=some (.int .i64 K):=(NV.out).cell_ rfl
 have v1:(w3).cell? ⟨vb,1,none⟩=some (.int .u64 (n:Int)):=(NV.out).cell_ rfl
 have v2:(w3).cell? ⟨vb,2,none⟩=some (.slice tr.1 tr.2.1 tr.2.2.1):=(NV.out).cell_ rfl
 have v3:(w3).cell? ⟨vb,3,none⟩=some (.slice tA tk.length tc):=(NV.out).cell_ rfl
 have CO:=Lib.hid (open_v O3.out (by have h1:=(nd_all _ O3.out).2.2.2;rw[h1,N2.out];have:=SV.out;omega) w3 (Below.refl _ _))
 go_upto_region 6 with(go_at_call 80;(refine CO.out.mono ?_);rintro e4 w4 ⟨q,us,rfl,h1,h2,h3,h4,h5⟩;have F4:=Lib.hid h1;have U4:=Lib.hid h2;have Q4:=Lib.hid (And.intro h3 h4);have B4:=Lib.hid h5;clear h1 h2 h3 h4 h5)
 have X4:=Lib.hid (below_one w4 (.cells #[.pointer (some ⟨q,0,none⟩),.slice none 0 0,.bool false] 116))
 have NP:=Lib.hid (Bl.new_ w4 116 #[.pointer (some ⟨q,0,none⟩),.slice none 0 0,.bool false])
 have B5:=Lib.hid (B3.out.trans ((B4.out.trans (X4.out.mono B4.out.size)).mono B3.out.size))
 have hN:nds us=n0V V':=by rw[U4.out,kd_nd,N2.out];rfl
 have us_ok:=(F4.out.below X4.out).ok
 have PS:Ps (w4.alloc (.cells #[.pointer (some ⟨q,0,none⟩),.slice none 0 0,.bool false] 116)) w4.heap.size q false (w0V V') us (w.heap.size+1) 24 z3:=by
  have q4:=Q4.out
  have s3:=B3.out.size
  have sU:=SU.out
  refine⟨⟨NP.out,?_,by omega⟩,⟨NB.out.below' B5.out,z3_pl⟩,?_,by omega,by omega⟩
  ·have h:=F4.out.below X4.out
   rwa [show decide (kd (.mk K n tr tA tc tk)=3)=w0V V' from by rw[kd_nd,N2.out];rfl] at h
  ·refine mem_szs ?_
   have h1:=(nds_all us us_ok).2.2.2
   have h2:=szns_mem0 V'
   have h3:=SV.out
   rw[h1,hN]
   omega
 obtain⟨P,hP⟩:∃P,nxt (FI 1 4611686018427387904) 1 (w0V V') us=P:=⟨_,rfl⟩
 obtain⟨Q,hQ⟩:∃Q,nxt (FI 0 4611686018427387904) 1 P.2.1 P.2.2=Q:=⟨_,rfl⟩
 obtain⟨L,hL⟩:∃L,nxt (FL 0 9223372036854775807) 3 Q.2.1 Q.2.2=L:=⟨_,rfl⟩
 have eL:rtL V'=n3 L:=by
  unfold rtL
  have e1:=nx_I hP
  rw[hN] at e1
  rw[e1]
  show nx _ _ (nx (dI 0 4611686018427387904) 1 P.2.1 (nds P.2.2)).2.1 (nx (dI 0 4611686018427387904) 1 P.2.1 (nds P.2.2)).2.2=_
  rw[nx_I hQ]
  exact nx_L hL
 have hm:(kids L.1).length≠4:=by
  have h:=H4.out
  rw[eL] at h
  rwa [show ksd (n3 L).1=nds (kids L.1) from(ks_nd _).symm,nds_len] at h
 have CF:=Lib.hid (root_bad PS hP hQ hL rfl hm)
 have NG:=Lib.hid (show w.heap.size+2 < w4.heap.size∧w.heap.size+2 < q from by have h1:=Q4.out;have h2:=B3.out.size;have h3:=SU.out;omega)
 clear PS us_ok hN hP hQ hL eL hm CO F4 U4 Q4 NP v0 v1 v2 v3 H4
 obtain⟨g,hg⟩:∃g,w4.heap.size=g:=⟨_,rfl⟩
 rw[hg] at CF NG ⊢
 obtain⟨w5,hw5⟩:∃w5,w4.alloc (.cells #[.pointer (some ⟨q,0,none⟩),.slice none 0 0,.bool false] 116)=w5:=⟨_,rfl⟩
 rw[hw5] at CF B5 ⊢
 clear hw5 hg X4 B4 w4
 go_upto_region 7 with(go_at_call 35;(refine CF.out.mono ?_);rintro e7 w7 ⟨rfl,cs7,p7,t7⟩;have T7:=Lib.hid t7;have CG:=Lib.hid (right_r p7.pr);clear p7 t7)
 have ng:=NG.out
 have S7:∀k,(fun k=>k=q∨k=w.heap.size+1∨k=g) k→w.heap.size≤k∧k≠w.heap.size∧k≠w.heap.size+2:=fun k e=>by
  rcases e with rfl|rfl|rfl <;> omega
 have B7:=Lib.hid ((BU.out.trans (B5.out.mono BU.out.size)).trans (T7.out.to_below (B:=w.heap.size) (Nat.le_trans BU.out.size B5.out.size) (fun k e=>(S7 k e).1)))
 have R7:=Lib.hid (T7.out.bl (NR.out.below' B5.out) (fun e=>(S7 _ e).2.1 rfl))
 have M7:=Lib.hid (T7.out.bl (NN.out.below' B5.out) (fun e=>(S7 _ e).2.2 rfl))
 clear S7 ng T7 NG
 rw[Bool.not_true,Bool.false_and] at CG
 have k0:(w7).cell? ⟨w.heap.size+2,0,none⟩=some (.int .i64 0):=(M7.out).cell_ rfl
 have k1:(w7).cell? ⟨w.heap.size+2,1,none⟩=some (.int .i64 0):=(M7.out).cell_ rfl
 have k2:(w7).cell? ⟨w.heap.size+2,2,none⟩=some (.slice none 0 0):=(M7.out).cell_ rfl
 have g0:=(R7.out).frozen 0
 have g1:=(R7.out).frozen 1
 have g2:=(R7.out).frozen 2
 have r0:(w7).cell? ⟨w.heap.size,0,none⟩=some (.int .i64 0):=(R7.out).cell_ rfl
 have r1:(w7).cell? ⟨w.heap.size,1,none⟩=some (.int .i64 0):=(R7.out).cell_ rfl
 have r2:(w7).cell? ⟨w.heap.size,2,none⟩=some (.slice none 0 0):=(R7.out).cell_ rfl
 go_wp2_with (go_at_call 65;(refine CG.out.mono ?_);rintro e8 w8 ⟨rfl,rfl⟩)
 refine⟨rfl,_,results_c2 rfl _ _ _ ⟨w.heap.size,0,none⟩ _ _ (by kernel_rfl) rfl (run_loadVar_row _ w.heap.size 24 24 #[.int .i64 0,.int .i64 0,.slice none 0 0] (0,0) _ (set3_bl (R7.out) _ _ _) Tryz.underlying24 rfl (by kernel_rfl)),?_⟩
 exact⟨set3_below B7.out (Nat.le_refl _) _ _ _,rfl⟩
set_option maxHeartbeats 4000000 in
theorem ReadRoot_bad{w:World}{r:Rw}(hr:Pc w r)(hr9:r.2.1≤800000)(hin:∀ad,r.1=some ad→ad.block < w.heap.size){V:Nd}{p:Nat}{k:Int}(hV:rdw 8192 8 1024 8192 r.2.2.2=.good V p k)(h4:(ksd (rtL V).1).length≠4):Calls Tryz.prog 12 #[.slice r.1 r.2.1 r.2.2.1] w (NoR w):=by
 obtain⟨U,hU⟩:∃U,w.alloc (.cells z3 24)=U:=⟨_,rfl⟩
 have BU:=Lib.hid (show Below w.heap.size w U from by rw[←hU];exact below_one w _)
 have NR:=Lib.hid (show Bl U w.heap.size 24 z3 from by rw[←hU];exact Bl.new_ w _ _)
 have CR:=Lib.hid (read_root_bad (hr.below BU.out) hr9 (fun ad e=>Nat.lt_of_lt_of_le (hin ad e) BU.out.size) hV h4)
 clear hr hr9 hin hV h4
 obtain⟨rA,rn,rc,rl⟩:=r
 simp only at CR ⊢
 go_enter Tryz.func12,Tryz.ntmps12
 go_wp2_with (go_at_call 41;(refine CR.out.mono ?_);rintro e1 w1 ⟨h1,rfl⟩;have B1:=Lib.hid h1;have R1:=Lib.hid (NR.out.below' h1);have r0:w1.cell? ⟨w.heap.size,0,none⟩=some (.int .i64 0):=R1.out.cell_ rfl;have g0:=R1.out.frozen 0;have r1:w1.cell? ⟨w.heap.size,1,none⟩=some (.int .i64 0):=R1.out.cell_ rfl;have g1:=R1.out.frozen 1;have r2:w1.cell? ⟨w.heap.size,2,none⟩=some (.slice none 0 0):=R1.out.cell_ rfl;have g2:=R1.out.frozen 2;clear h1)
 refine⟨rfl,_,results_c2 rfl _ _ _ ⟨w.heap.size,0,none⟩ _ _ (by kernel_rfl) rfl (run_loadVar_row _ w.heap.size 24 24 #[.int .i64 0,.int .i64 0,.slice none 0 0] (0,0) _ (set3_bl (R1.out) _ _ _) Tryz.underlying24 rfl (by kernel_rfl)),?_⟩
 exact⟨set3_below (BU.out.trans (B1.out.mono BU.out.size)) (Nat.le_refl _) _ _ _,rfl⟩
end Go.Proofs.YteblmphohhbgcaaGreat.Mt
