/- Joined texts. -/
import Derived.Test.YteblmphohhbgcaaQaMtW
set_option linter.unusedVariables false
namespace Go.Proofs.Yteblmphohhbgcaa.Mt
open Go.RowKit Go.Proofs.Yteblmphohhbgcaa.Gn Go.Proofs.Yteblmphohhbgcaa.Fd Go.Proofs.Yteblmphohhbgcaa.Wr Go.Deep
set_option maxRecDepth 100000
abbrev set5(w:World)(q:Nat)(v0 v1 v2 v3 v4:Value):World:=((((w.setCell ⟨q,0,none⟩ v0).setCell ⟨q,1,none⟩ v1).setCell ⟨q,2,none⟩ v2).setCell ⟨q,3,none⟩ v3).setCell ⟨q,4,none⟩ v4
theorem set5_bl{w:World}{q:Nat}{T:TypeId}{c0 c1 c2 c3 c4:Value}(h:Bl w q T #[c0,c1,c2,c3,c4])(v0 v1 v2 v3 v4:Value):Bl (set5 w q v0 v1 v2 v3 v4) q T #[v0,v1,v2,v3,v4]:=((((h.set_ 0 v0).set_ 1 v1).set_ 2 v2).set_ 3 v3).set_ 4 v4
theorem set5_below{B:Nat}{w a:World}(h:Below B w a){q:Nat}(hq:B≤q)(v0 v1 v2 v3 v4:Value):Below B w (set5 a q v0 v1 v2 v3 v4) :=
 ((((h.setCell (p:=⟨q,0,none⟩) hq v0).setCell (p:=⟨q,1,none⟩) hq v1).setCell (p:=⟨q,2,none⟩) hq v2).setCell (p:=⟨q,3,none⟩) hq v3).setCell (p:=⟨q,4,none⟩) hq v4
theorem set5_pc{w:World}{q:Nat}{T:TypeId}{cs:Array Value}(h:Bl w q T cs)(hT:T≠5){r:Rw}(hr:Pc w r)(hk:∀(i:Nat) v,cs[i]?=some v→pl v=true)(v0 v1 v2 v3 v4:Value):Pc (set5 w q v0 v1 v2 v3 v4) r:=by
 have h5:Tc (fun k=>k=q) w (set5 w q v0 v1 v2 v3 v4):=(((((Tc.refl (fun k=>k=q) w).set (p:=⟨q,0,none⟩) (.inl rfl) v0).set (p:=⟨q,1,none⟩) (.inl rfl) v1).set (p:=⟨q,2,none⟩) (.inl rfl) v2).set (p:=⟨q,3,none⟩) (.inl rfl) v3).set (p:=⟨q,4,none⟩) (.inl rfl) v4
 exact h5.pc (fun k e=>e▸Pn.of h hk) hr
set_option maxHeartbeats 4000000 in
theorem read_timestamp{w:World}{r:Rw}(hr:Pc w r)(hr9:r.2.1≤800000)(hin:∀ad,r.1=some ad→ad.block < w.heap.size):Calls Try.prog 41 #[.slice r.1 r.2.1 r.2.2.1,.func (.func 40) #[] #[]] w (A5Q (bO tsO r.2.2.2) w):=by
 obtain⟨x,y,V,hQ,hO,hsz⟩:=rd_val r.2.2.2
 have SV:=Lib.hid (show szn V≤800001 from by have:=hr.len;omega)
 rw[hO tsO]
 obtain⟨U,hU⟩:∃U,(((w.alloc (.cells z5 63)).alloc (.cells z5 63)).alloc (.cells z5 63))=U:=⟨_,rfl⟩
 have BU:=Lib.hid (show Below w.heap.size w U from by rw[←hU];exact(((Below.refl _ w).alloc (Nat.le_refl _) _).alloc (by simp) _).alloc (by simp;omega) _)
 have NR:=Lib.hid (show Bl U w.heap.size 63 z5 from by rw[←hU];exact((Bl.new_ w _ _).alloc _).alloc _)
 have NB:=Lib.hid (show Bl U (w.heap.size+1) 63 z5 from by rw[←hU];exact(Bl.new' _ _ (by simp)).alloc _)
 have NN:=Lib.hid (show Bl U (w.heap.size+2) 63 z5 from by rw[←hU];exact Bl.new' _ _ (by simp))
 have SU:=Lib.hid (show U.heap.size=w.heap.size+3 from by rw[←hU];simp)
 have CR:=Lib.hid (fun u (hu:Below U.heap.size U u)=>read_r3 (hr.below (BU.out.trans (hu.mono BU.out.size))) hr9 (fun ad e=>Nat.lt_of_lt_of_le (hin ad e) (Nat.le_trans BU.out.size hu.size)) hQ)
 clear hr hr9 hin hQ hO hsz
 obtain⟨rA,rn,rc,rl⟩:=r
 simp only at CR ⊢
 go_enter Try.func41,Try.ntmps41
 go_upto_region 3 with(first
  |(go_at_call 43;(refine(limits_any _).mono ?_);rintro e1 w1 ⟨rfl,h1⟩;have B1:=Lib.hid h1;clear h1)
  |(go_at_call 49;(refine(CR.out _ B1.out).mono ?_);rintro e2 w2 ⟨h1,t,rfl,h2,h3⟩;obtain⟨K,n,tr,tA,tc,tk⟩:=t;simp only[Tv.val,Tv.row];have B2:=Lib.hid (B1.out.trans (h1.mono B1.out.size));have N2:=Lib.hid h2;have O2:=Lib.hid h3;clear h1 h2 h3))
 have X2:=Lib.hid (below_one w2 (.cells #[.int .i64 K,.int .u64 (n:Int),.slice tr.1 tr.2.1 tr.2.2.1,.slice tA tk.length tc] 80))
 have NV:=Lib.hid (Bl.new_ w2 80 #[.int .i64 K,.int .u64 (n:Int),.slice tr.1 tr.2.1 tr.2.2.1,.slice tA tk.length tc])
 have B3:=Lib.hid (B2.out.trans (X2.out.mono B2.out.size))
 have O3:=Lib.hid (O2.out.keep X2.out)
 have S2:=Lib.hid (show U.heap.size≤w2.heap.size from B2.out.size)
 obtain⟨vb,hvb⟩:∃vb,w2.heap.size=vb:=⟨_,rfl⟩
 rw[hvb] at NV S2 ⊢
 generalize w2.alloc (.cells #[.int .i64 K,.int .u64 (n:Int),.slice tr.1 tr.2.1 tr.2.2.1,.slice tA tk.length tc] 80)=w3 at *
 clear X2 O2 B2 B1 CR hU hvb
 have k0:(w3).cell? ⟨w.heap.size+2,0,none⟩=some (.int .i64 0):=(NN.out.below' B3.out).cell_ rfl
 have k1:(w3).cell? ⟨w.heap.size+2,1,none⟩=some (.int .i64 0):=(NN.out.below' B3.out).cell_ rfl
 have k2:(w3).cell? ⟨w.heap.size+2,2,none⟩=some (.int .i64 0):=(NN.out.below' B3.out).cell_ rfl
 have k3:(w3).cell? ⟨w.heap.size+2,3,none⟩=some (.int .i64 0):=(NN.out.below' B3.out).cell_ rfl
 have k4:(w3).cell? ⟨w.heap.size+2,4,none⟩=some (.slice none 0 0):=(NN.out.below' B3.out).cell_ rfl
 have g0:=(NR.out.below' B3.out).frozen 0
 have g1:=(NR.out.below' B3.out).frozen 1
 have g2:=(NR.out.below' B3.out).frozen 2
 have g3:=(NR.out.below' B3.out).frozen 3
 have g4:=(NR.out.below' B3.out).frozen 4
 have r0:(w3).cell? ⟨w.heap.size,0,none⟩=some (.int .i64 0):=(NR.out.below' B3.out).cell_ rfl
 have r1:(w3).cell? ⟨w.heap.size,1,none⟩=some (.int .i64 0):=(NR.out.below' B3.out).cell_ rfl
 have r2:(w3).cell? ⟨w.heap.size,2,none⟩=some (.int .i64 0):=(NR.out.below' B3.out).cell_ rfl
 have r3:(w3).cell? ⟨w.heap.size,3,none⟩=some (.int .i64 0):=(NR.out.below' B3.out).cell_ rfl
 have r4:(w3).cell? ⟨w.heap.size,4,none⟩=some (.slice none 0 0):=(NR.out.below' B3.out).cell_ rfl
 by_cases hy:y=0
 ·rw[if_pos hy]
  subst hy
  clear k0 k1 k2 k3 k4 g0 g1 g2 g3 g4 r0 r1 r2 r3 r4
  have v0:(w3).cell? ⟨vb,0,none⟩=some (.int .i64 K):=(NV.out).cell_ rfl
  have v1:(w3).cell? ⟨vb,1,none⟩=some (.int .u64 (n:Int)):=(NV.out).cell_ rfl
  have v2:(w3).cell? ⟨vb,2,none⟩=some (.slice tr.1 tr.2.1 tr.2.2.1):=(NV.out).cell_ rfl
  have v3:(w3).cell? ⟨vb,3,none⟩=some (.slice tA tk.length tc):=(NV.out).cell_ rfl
  have CO:=Lib.hid (open_v O3.out (by have h1:=(nd_all _ O3.out).2.2.2;rw[h1,N2.out];have:=SV.out;omega) w3 (Below.refl _ _))
  go_upto_region 6 with(go_at_call 50;(refine CO.out.mono ?_);rintro e4 w4 ⟨q,us,rfl,h1,h2,h3,h4,h5⟩;have F4:=Lib.hid h1;have U4:=Lib.hid h2;have Q4:=Lib.hid (And.intro h3 h4);have B4:=Lib.hid h5;clear h1 h2 h3 h4 h5)
  have X4:=Lib.hid (below_one w4 (.cells #[.pointer (some ⟨q,0,none⟩),.slice none 0 0,.bool false] 94))
  have NP:=Lib.hid (Bl.new_ w4 94 #[.pointer (some ⟨q,0,none⟩),.slice none 0 0,.bool false])
  have B5:=Lib.hid (B3.out.trans ((B4.out.trans (X4.out.mono B4.out.size)).mono B3.out.size))
  have hN:nds us=n0V V:=by rw[U4.out,kd_nd,N2.out];rfl
  have us_ok:=(F4.out.below X4.out).ok
  have PS:Ps (w4.alloc (.cells #[.pointer (some ⟨q,0,none⟩),.slice none 0 0,.bool false] 94)) w4.heap.size q false (w0V V) us (w.heap.size+1) 63 z5:=by
   have q4:=Q4.out
   have s3:=B3.out.size
   have sU:=SU.out
   refine⟨⟨NP.out,?_,by omega⟩,⟨NB.out.below' B5.out,z5_pl⟩,?_,by omega,by omega⟩
   ·have h:=F4.out.below X4.out
    rwa [show decide (kd (.mk K n tr tA tc tk)=3)=w0V V from by rw[kd_nd,N2.out];rfl] at h
   ·refine mem_szs ?_
    have h1:=(nds_all us us_ok).2.2.2
    have h2:=szns_mem0 V
    have h3:=SV.out
    rw[h1,hN]
    omega
  obtain⟨P,hP⟩:∃P,nxt (FI 1 4611686018427387904) 1 (w0V V) us=P:=⟨_,rfl⟩;obtain⟨Q,hQ⟩:∃Q,nxt (FI 0 4611686018427387904) 1 P.2.1 P.2.2=Q:=⟨_,rfl⟩;obtain⟨L,hL⟩:∃L,nxt (FL 0 9223372036854775807) 3 Q.2.1 Q.2.2=L:=⟨_,rfl⟩
  have CF:=Lib.hid (timestamp_p PS (Nat.le_refl 5) hP hQ hL)
  have H6:=Lib.hid (And.intro hN (And.intro hP (And.intro hQ hL)))
  have NG:=Lib.hid (show w.heap.size+2 < w4.heap.size∧w.heap.size+2 < q from by have h1:=Q4.out;have h2:=B3.out.size;have h3:=SU.out;omega)
  clear PS us_ok hN hP hQ hL CO F4 U4 Q4 NP v0 v1 v2 v3
  obtain⟨g,hg⟩:∃g,w4.heap.size=g:=⟨_,rfl⟩
  rw[hg] at CF NG ⊢
  obtain⟨w5,hw5⟩:∃w5,w4.alloc (.cells #[.pointer (some ⟨q,0,none⟩),.slice none 0 0,.bool false] 94)=w5:=⟨_,rfl⟩
  rw[hw5] at CF B5 ⊢
  clear hw5 hg X4 B4 w4
  go_upto_region 7 with(go_at_call 40;(refine CF.out.mono ?_);rintro e7 w7 ⟨rfl,vs,X,Y,Zz,A,c,⟨hn,u0,hu0⟩,hX,hY,hZ,p7,c7,t7⟩;have SS:=Lib.hid (ts_steps H6.out.1 hu0 H6.out.2.1 H6.out.2.2.1 H6.out.2.2.2 hn hX hY hZ).is;have P7:=Lib.hid p7;have C7:=Lib.hid c7;have T7:=Lib.hid t7;have CG:=Lib.hid (right_r p7.pr);obtain⟨okb,hok⟩:∃okb,(!(false || !(Zz.2.1 && decide (Zz.2.2.length=0))) && (L.2.1 && decide (L.2.2.length=0)))=okb:=⟨_,rfl⟩;rw[hok] at CG;have OKB:=Lib.hid hok;clear hn hu0 hX hY hZ p7 c7 t7 hok)
  have ng:=NG.out
  have S7:∀k,(fun k=>k=q∨k=w.heap.size+1∨k=g) k→w.heap.size≤k∧k≠w.heap.size∧k≠w.heap.size+2:=fun k e=>by
   rcases e with rfl|rfl|rfl <;> omega
  have B7:=Lib.hid ((BU.out.trans (B5.out.mono BU.out.size)).trans (T7.out.to_below (B:=w.heap.size) (Nat.le_trans BU.out.size B5.out.size) (fun k e=>(S7 k e).1)))
  have R7:=Lib.hid (T7.out.bl (NR.out.below' B5.out) (fun e=>(S7 _ e).2.1 rfl))
  have M7:=Lib.hid (T7.out.bl (NN.out.below' B5.out) (fun e=>(S7 _ e).2.2 rfl))
  clear S7 ng T7 NG
  have E7:=Lib.hid (show Bl w7 (w.heap.size+1) 63 #[.int .i64 (nm P.1:Int),.int .i64 (nm Q.1:Int),.int .i64 (nm X.1:Int),.int .i64 (nm Y.1:Int),.slice A (rw_ Zz.1).2.1 c] from P7.out.bx.bl)
  clear P7
  have k0:(w7).cell? ⟨w.heap.size+2,0,none⟩=some (.int .i64 0):=(M7.out).cell_ rfl
  have k1:(w7).cell? ⟨w.heap.size+2,1,none⟩=some (.int .i64 0):=(M7.out).cell_ rfl
  have k2:(w7).cell? ⟨w.heap.size+2,2,none⟩=some (.int .i64 0):=(M7.out).cell_ rfl
  have k3:(w7).cell? ⟨w.heap.size+2,3,none⟩=some (.int .i64 0):=(M7.out).cell_ rfl
  have k4:(w7).cell? ⟨w.heap.size+2,4,none⟩=some (.slice none 0 0):=(M7.out).cell_ rfl
  have g0:=(R7.out).frozen 0
  have g1:=(R7.out).frozen 1
  have g2:=(R7.out).frozen 2
  have g3:=(R7.out).frozen 3
  have g4:=(R7.out).frozen 4
  have r0:(w7).cell? ⟨w.heap.size,0,none⟩=some (.int .i64 0):=(R7.out).cell_ rfl
  have r1:(w7).cell? ⟨w.heap.size,1,none⟩=some (.int .i64 0):=(R7.out).cell_ rfl
  have r2:(w7).cell? ⟨w.heap.size,2,none⟩=some (.int .i64 0):=(R7.out).cell_ rfl
  have r3:(w7).cell? ⟨w.heap.size,3,none⟩=some (.int .i64 0):=(R7.out).cell_ rfl
  have r4:(w7).cell? ⟨w.heap.size,4,none⟩=some (.slice none 0 0):=(R7.out).cell_ rfl
  have e0:(w7).cell? ⟨w.heap.size+1,0,none⟩=some (.int .i64 (nm P.1:Int)):=(E7.out).cell_ rfl
  have e1:(w7).cell? ⟨w.heap.size+1,1,none⟩=some (.int .i64 (nm Q.1:Int)):=(E7.out).cell_ rfl
  have e2:(w7).cell? ⟨w.heap.size+1,2,none⟩=some (.int .i64 (nm X.1:Int)):=(E7.out).cell_ rfl
  have e3:(w7).cell? ⟨w.heap.size+1,3,none⟩=some (.int .i64 (nm Y.1:Int)):=(E7.out).cell_ rfl
  have e4:(w7).cell? ⟨w.heap.size+1,4,none⟩=some (.slice A (rw_ Zz.1).2.1 c):=(E7.out).cell_ rfl
  have e1:(dn (n3 Zz) && dn (n3 L))=okb:=by
   rw[dn_n3,dn_n3];have h:=OKB.out;cases h1:(Zz.2.1 && decide (Zz.2.2.length=0)) <;> cases h2:(L.2.1 && decide (L.2.2.length=0)) <;> rw[h1,h2] at h <;> first|exact h|rfl
  have E8:=Lib.hid (show tsO V=fin5 okb (n3 P).1 (n3 Q).1 (n3 X).1 (n3 Y).1 (n3 Zz).1 from by rw[←e1];exact SS.out)
  clear e1 SS OKB
  cases okb with
  |true =>
   have E9:=Lib.hid (E8.out.trans (show fin5 true (n3 P).1 (n3 Q).1 (n3 X).1 (n3 Y).1 (n3 Zz).1=some (nmd (n3 P).1,nmd (n3 Q).1,nmd (n3 X).1,nmd (n3 Y).1,bsd (n3 Zz).1) from if_pos rfl))
   clear E8
   go_wp2_with (go_at_call 42;(refine CG.out.mono ?_);rintro e8 w8 ⟨rfl,rfl⟩)
   have hl:(rw_ Zz.1).2.1=(bsd (n3 Zz).1).length:=by rw[show bsd (n3 Zz).1=(rw_ Zz.1).2.2.2 from(bs_nd _).symm];exact C7.out.len
   refine⟨rfl,_,results_c2 rfl _ _ _ ⟨w.heap.size,0,none⟩ _ _ (by kernel_rfl) rfl (run_loadVar_row _ w.heap.size 63 63 #[.int .i64 (nm P.1:Int),.int .i64 (nm Q.1:Int),.int .i64 (nm X.1:Int),.int .i64 (nm Y.1:Int),.slice A (rw_ Zz.1).2.1 c] (0,0) _ (set5_bl (R7.out) _ _ _ _ _) Try.underlying63 rfl (by kernel_rfl)),?_⟩
   rw[E9.out]
   refine⟨set5_below B7.out (Nat.le_refl _) _ _ _ _ _,A,c,?_,?_⟩
   ·show _=Ending.returned (.tuple #[R5 _ _ _ _ A (bsd (n3 Zz).1).length c,_])
    rw[←hl,show nmd (n3 P).1=nm P.1 from(nm_nd _).symm,show nmd (n3 Q).1=nm Q.1 from(nm_nd _).symm,show nmd (n3 X).1=nm X.1 from(nm_nd _).symm,show nmd (n3 Y).1=nm Y.1 from(nm_nd _).symm]
    rfl
   ·rw[←hl,show bsd (n3 Zz).1=(rw_ Zz.1).2.2.2 from(bs_nd _).symm]
    exact set5_pc R7.out (by decide) C7.out z5_pl _ _ _ _ _
  |false =>
   have E9:=Lib.hid (E8.out.trans (show fin5 false (n3 P).1 (n3 Q).1 (n3 X).1 (n3 Y).1 (n3 Zz).1=none from if_neg (by decide)))
   clear E8
   go_wp2_with (go_at_call 42;(refine CG.out.mono ?_);rintro e8 w8 ⟨rfl,rfl⟩)
   refine⟨rfl,_,results_c2 rfl _ _ _ ⟨w.heap.size,0,none⟩ _ _ (by kernel_rfl) rfl (run_loadVar_row _ w.heap.size 63 63 #[.int .i64 0,.int .i64 0,.int .i64 0,.int .i64 0,.slice none 0 0] (0,0) _ (set5_bl (R7.out) _ _ _ _ _) Try.underlying63 rfl (by kernel_rfl)),?_⟩
   rw[E9.out]
   exact⟨set5_below B7.out (Nat.le_refl _) _ _ _ _ _,rfl⟩
 ·rw[if_neg hy]
  go_wp2_with fail
  exact⟨rfl,_,results_c2 rfl _ _ _ ⟨w.heap.size,0,none⟩ _ _ (by kernel_rfl) rfl (run_loadVar_row _ w.heap.size 63 63 #[.int .i64 0,.int .i64 0,.int .i64 0,.int .i64 0,.slice none 0 0] (0,0) _ (set5_bl (NR.out.below' B3.out) _ _ _ _ _) Try.underlying63 rfl (by kernel_rfl)),set5_below (BU.out.trans (B3.out.mono BU.out.size)) (Nat.le_refl _) _ _ _ _ _,rfl⟩
end Go.Proofs.Yteblmphohhbgcaa.Mt
