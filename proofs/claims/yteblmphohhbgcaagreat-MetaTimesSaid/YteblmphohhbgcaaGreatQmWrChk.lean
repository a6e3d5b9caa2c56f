/- Joined texts. -/
import Derived.Test.YteblmphohhbgcaaGreatQmMtYa
import Derived.BigQuiet
import Derived.Test.YteblmphohhbgcaaGreatQmWrBytes
import Derived.Test.YteblmphohhbgcaaGreatQmMtY
set_option linter.unusedVariables false
namespace Go.Proofs.YteblmphohhbgcaaGreat.Wr
open Go.RowKit Go.Proofs.YteblmphohhbgcaaGreat.Gn Go.Proofs.YteblmphohhbgcaaGreat.Fd Go.Deep
def tlen:Tv→Int
 |.mk _ _ r _ _ _=>(r.2.1:Int)
def chk(b c d:Int):List Int→List Tv→Int→Int
 |p :: ps,t :: ts,k=>if b < p then 23 else if c≤k then 24 else if d < tlen t then 2 else chk b c d ps ts (k+1)
 |_,_,_=>0
mutual
theorem chk_go{b c d:Int}(d0:0≤d):∀(v:Tv) (deep k:Int) (ps:List Int) (ts:List Tv),right v=true→k≤c→chk b c d (dps deep v ++ ps) (pre v ++ ts) k=(if(wgo b c d v deep k).1=0 then chk b c d ps ts (wgo b c d v deep k).2 else(wgo b c d v deep k).1)∧((wgo b c d v deep k).1=0→(wgo b c d v deep k).2≤c)
 |.mk K n r A cc ks,deep,k,ps,ts,hr,hk=>by
  rw[right] at hr
  rw[dps,pre,List.cons_append,List.cons_append,chk,tlen,wgo]
  by_cases h1:b < deep
  ·rw[if_pos h1,if_pos h1];exact⟨rfl,fun h=>by cases h⟩
  rw[if_neg h1,if_neg h1]
  by_cases h2:c≤k
  ·have e:k=c:=by omega
   rw[if_pos h2,if_pos e];exact⟨rfl,fun h=>by cases h⟩
  rw[if_neg h2,if_neg (show ¬k=c by omega)]
  by_cases k1:K=1
  ·rw[if_pos k1,Bool.and_eq_true,decide_eq_true_eq,decide_eq_true_eq] at hr
   have e:ks=[]:=List.length_eq_zero_iff.1 hr.2
   subst e
   rw[if_neg (show ¬d < ((r.2.1:Nat):Int) by omega),if_neg (show ¬K=2 by omega),if_neg (show ¬K=3 by omega),dpss,pres]
   exact⟨rfl,fun _=>by show k+1≤c;omega⟩
  rw[if_neg k1] at hr
  by_cases k2:K=2
  ·rw[if_pos k2,Bool.and_eq_true,decide_eq_true_eq,decide_eq_true_eq] at hr
   have e:ks=[]:=List.length_eq_zero_iff.1 hr.2
   subst e
   rw[if_pos k2,dpss,pres]
   by_cases h3:d < ((r.2.1:Nat):Int)
   ·rw[if_pos h3,if_pos h3];exact⟨rfl,fun h=>by cases h⟩
   ·rw[if_neg h3,if_neg h3];exact⟨rfl,fun _=>by show k+1≤c;omega⟩
  rw[if_neg k2] at hr ⊢
  by_cases k3:K=3
  ·rw[if_pos k3,Bool.and_eq_true,Bool.and_eq_true,decide_eq_true_eq,decide_eq_true_eq] at hr
   rw[if_pos k3,if_neg (show ¬d < ((r.2.1:Nat):Int) by omega)]
   exact chks_go d0 ks (deep+1) (k+1) ps ts hr.2 (by omega)
  ·rw[if_neg k3] at hr;cases hr
theorem chks_go{b c d:Int}(d0:0≤d):∀(vs:List Tv) (deep k:Int) (ps:List Int) (ts:List Tv),rights vs=true→k≤c→chk b c d (dpss deep vs ++ ps) (pres vs ++ ts) k=(if(wgos b c d vs deep k).1=0 then chk b c d ps ts (wgos b c d vs deep k).2 else(wgos b c d vs deep k).1)∧((wgos b c d vs deep k).1=0→(wgos b c d vs deep k).2≤c)
 | [],deep,k,ps,ts,_,hk=>by rw[dpss,pres,wgos];exact⟨rfl,fun _=>hk⟩
 |t :: us,deep,k,ps,ts,hr,hk=>by
  rw[rights,Bool.and_eq_true] at hr
  obtain⟨h1,h2⟩:=chk_go (b:=b) (c:=c) d0 t deep k (dpss deep us ++ ps) (pres us ++ ts) hr.1 hk
  rw[dpss,pres,List.append_assoc,List.append_assoc,h1,wgos]
  by_cases h3:(wgo b c d t deep k).1=0
  ·rw[if_pos h3,if_pos h3]
   exact chks_go d0 us deep _ ps ts hr.2 (h2 h3)
  ·rw[if_neg h3,if_neg h3,if_neg h3];exact⟨rfl,fun h=>(h3 h).elim⟩
end
theorem chk_whole{b c d:Int}(c0:0≤c)(d0:0≤d){v:Tv}(hr:right v=true):chk b c d (dps 1 v) (pre v) 0=(wgo b c d v 1 0).1:=by
 have h:=(chk_go (b:=b) d0 v 1 0 [] [] hr c0).1
 rw[List.append_nil,List.append_nil] at h
 rw[h]
 by_cases h1:(wgo b c d v 1 0).1=0
 ·rw[if_pos h1,chk,h1];intros;simp_all
 ·rw[if_neg h1]
theorem chk_drop{b c d:Int}{ps:List Int}{ts:List Tv}{i:Nat}{p:Int}{t:Tv}(hp:ps[i]?=some p)(ht:ts[i]?=some t)(k:Int):chk b c d (ps.drop i) (ts.drop i) k=if b < p then 23 else if c≤k then 24 else if d < tlen t then 2 else chk b c d (ps.drop (i+1)) (ts.drop (i+1)) (k+1):=by
 have e1:ps.drop i=p :: ps.drop (i+1):=by
  obtain⟨h,e⟩:=List.getElem?_eq_some_iff.1 hp
  rw[List.drop_eq_getElem_cons h,e]
 have e2:ts.drop i=t :: ts.drop (i+1):=by
  obtain⟨h,e⟩:=List.getElem?_eq_some_iff.1 ht
  rw[List.drop_eq_getElem_cons h,e]
 rw[e1,e2,chk]
theorem chk_end{b c d:Int}{ps:List Int}{ts:List Tv}{i:Nat}(h:ts.length≤i)(k:Int):chk b c d (ps.drop i) (ts.drop i) k=0:=by
 rw[show ts.drop i=[] from List.drop_eq_nil_of_le h]
 cases ps.drop i <;> rfl
end Go.Proofs.YteblmphohhbgcaaGreat.Wr
namespace Go.Proofs.YteblmphohhbgcaaGreat.Wr
open Go.RowKit Go.Proofs.YteblmphohhbgcaaGreat.Gn Go.Proofs.YteblmphohhbgcaaGreat.Fd Go.Deep
set_option maxHeartbeats 4000000 in
set_option maxRecDepth 100000 in
theorem RWrite_any{w:World}{v:Tv}(hv:Ok w v)(a b cc d:Int)(hz:sz v≤2000) :
  Calls Tryz.prog 75 #[v.val,.agg #[.int .i64 a,.int .i64 b,.int .i64 cc,.int .i64 d]] w (fun e w'=>Below w.heap.size w w'∧((wer (max a 0) (max b 0) (max cc 0) (max d 0) v=0∧∃T,e=.returned (.tuple #[T,.int .i64 0])∧w'.ownsRow w.heap.size 5 1 T (wb v).length (bl (wb v)))∨(wer (max a 0) (max b 0) (max cc 0) (max d 0) v≠0∧e=.returned (.tuple #[.slice none 0 0,.int .i64 (wer (max a 0) (max b 0) (max cc 0) (max d 0) v)])))):=by
 have HV:=Lib.hid hv
 have hlen:=wb_sz hv (by omega)
 have hpl:=pre_len v 1
 obtain⟨PL,hPL⟩:∃PL,pre v=PL:=⟨_,rfl⟩
 obtain⟨DL,hDL⟩:∃DL,dps 1 v=DL:=⟨_,rfl⟩
 have HOK:=Lib.hid (show ∀t∈PL,Ok w t from by rw[←hPL];exact pre_ok v hv)
 have CRi:=Lib.hid (fun u hu=>RRight_any hv u hu)
 have CAl:=Lib.hid (show ∀u,Below w.heap.size w u→Calls Tryz.prog 106 #[v.val,.int .i64 1] u (fun e w'=>∃x y,e=.returned (.tuple #[x,y])∧w'.ownsRow u.heap.size 75 4 x PL.length (flat PL)∧w'.ownsRow u.heap.size 3 1 y PL.length (il DL)∧Below u.heap.size u w') from fun u hu=>by
  have h:=all_any hv 1 (by decide) (by omega) u hu
  unfold AllQ at h
  rw[hPL,hDL] at h
  exact h)
 have CBy:=Lib.hid (fun(hr:right v=true) u hu=>rbytes_any hv hr (by omega) u hu)
 have HCH:=Lib.hid (fun(hr:right v=true)=>chk_whole (b:=max b 0) (c:=max cc 0) (d:=max d 0) (by omega) (by omega) hr)
 rw[hPL,hDL] at HCH
 rw[hPL,hDL] at hpl
 have PL9:PL.length≤2000:=by omega
 have DL9:DL.length=PL.length:=by omega
 have d0:0≤max d 0:=by omega
 obtain⟨WB,hWB⟩:∃WB,wb v=WB:=⟨_,rfl⟩
 rw[hWB] at CBy hlen ⊢
 unfold wer
 rw[hWB]
 have CZa:=Lib.hid (fun u=>zero_any a u)
 have CZb:=Lib.hid (fun u=>zero_any b u)
 have CZc:=Lib.hid (fun u=>zero_any cc u)
 have CZd:=Lib.hid (fun u=>zero_any d u)
 generalize max a 0=a1 at *
 generalize max b 0=b1 at *
 generalize max cc 0=c1 at *
 generalize max d 0=d1 at *
 have hw9:WB.length≤20000:=by omega
 obtain⟨gr,hgr⟩:∃gr,(wgo b1 c1 d1 v 1 0).1=gr:=⟨_,rfl⟩
 rw[hgr] at HCH ⊢
 have P1:1≤PL.length:=by rw[←hPL];cases v;rw[pre];simp
 obtain⟨P,hP⟩:∃P,PL.length=P:=⟨_,rfl⟩
 have HP:=Lib.hid hP
 have HDL:=Lib.hid DL9
 rw[hP] at CAl P1 PL9
 obtain⟨rv,hrv⟩:∃rv,right v=rv:=⟨_,rfl⟩
 rw[hrv] at CRi HCH CBy ⊢
 clear hv hpl hPL hDL DL9 hWB hgr hP hrv hz
 obtain⟨K,n,r,A,c,ks⟩:=v
 obtain⟨m,hm⟩:∃m,ks.length=m:=⟨_,rfl⟩
 simp only[Tv.val,Tv.row,hm] at CRi CAl CBy ⊢
 clear hm HV
 obtain⟨U,hU⟩:∃U,((w.alloc (.cells #[.int .i64 K,.int .u64 (n:Int),.slice r.1 r.2.1 r.2.2.1,.slice A m c] 75)).alloc (.cells #[.int .i64 a,.int .i64 b,.int .i64 cc,.int .i64 d] 132))=U:=⟨_,rfl⟩
 have BU:=Lib.hid (show Below w.heap.size w U from by rw[←hU];exact((Below.refl _ w).alloc (Nat.le_refl _) _).alloc (by simp) _)
 have NV:=Lib.hid (show Bl U w.heap.size 75 #[.int .i64 K,.int .u64 (n:Int),.slice r.1 r.2.1 r.2.2.1,.slice A m c] from by rw[←hU];exact(Bl.new_ w _ _).alloc _)
 have NL:=Lib.hid (show Bl U (w.heap.size+1) 132 #[.int .i64 a,.int .i64 b,.int .i64 cc,.int .i64 d] from by rw[←hU];exact Bl.new' _ _ (by simp))
 have z0:(U).cell? ⟨w.heap.size,0,none⟩=some (.int .i64 K):=(NV.out).cell_ rfl
 have z1:(U).cell? ⟨w.heap.size,1,none⟩=some (.int .u64 (n:Int)):=(NV.out).cell_ rfl
 have z2:(U).cell? ⟨w.heap.size,2,none⟩=some (.slice r.1 r.2.1 r.2.2.1):=(NV.out).cell_ rfl
 have z3:(U).cell? ⟨w.heap.size,3,none⟩=some (.slice A m c):=(NV.out).cell_ rfl
 cases rv with
 |false =>
  rw[if_neg (by decide)]
  clear HCH CBy hlen CAl
  go_enter Tryz.func75,Tryz.ntmps75
  go_wp2_with (go_at_call 105;(refine(CRi.out _ BU.out).mono ?_);rintro e w1 ⟨rfl,hb1⟩;have B1:=Lib.hid (BU.out.trans (hb1.mono BU.out.size));clear hb1)
  go_ret2
  exact⟨B1.out,.inr ⟨by decide,rfl⟩⟩
 |true =>
  rw[if_pos rfl]
  have HC:=Lib.hid (HCH.out rfl)
  clear HCH
  clear hlen
  obtain⟨er,her⟩:∃er,(if gr=0 then(if a1 < (WB.length:Int) then 2 else 0) else gr)=er:=⟨_,rfl⟩
  have HER:=Lib.hid her
  rw[her]
  clear her
  go_enter Tryz.func75,Tryz.ntmps75
  go_upto_region 4 with(first
   |(go_at_call 105;(refine(CRi.out _ BU.out).mono ?_);rintro e w1 ⟨rfl,hb1⟩;have F1:=Lib.hid hb1;have zz0:(w1).cell? ⟨w.heap.size,0,none⟩=some (.int .i64 K):=(NV.out.below' F1.out).cell_ rfl;have zz1:(w1).cell? ⟨w.heap.size,1,none⟩=some (.int .u64 (n:Int)):=(NV.out.below' F1.out).cell_ rfl;have zz2:(w1).cell? ⟨w.heap.size,2,none⟩=some (.slice r.1 r.2.1 r.2.2.1):=(NV.out.below' F1.out).cell_ rfl;have zz3:(w1).cell? ⟨w.heap.size,3,none⟩=some (.slice A m c):=(NV.out.below' F1.out).cell_ rfl;  clear hb1)
   |(go_at_call 106;(refine(CAl.out _ (BU.out.trans (F1.out.mono BU.out.size))).mono ?_);rintro e w2 ⟨x,y,rfl,ox,oy,hb2⟩;obtain⟨X,xc,rfl,xs,-, -, -⟩:=own_form ox;obtain⟨Y,yc,rfl,ys,-, -, -⟩:=own_form oy;have XS:=Lib.hid (show Sl w2 X (4*PL.length) (flat PL) from by rw[HP.out,Nat.mul_comm];exact xs);have YS:=Lib.hid (show Sl w2 Y P (il DL) from by rw[Nat.mul_one] at ys;exact ys);have F2:=Lib.hid (F1.out.trans (hb2.mono F1.out.size));clear ox oy hb2 xs ys))
  go_wp2_with fail
  go_loopg [8] P (fun g1 vi wr=>∃i:Nat,vi=.int .i64 (i:Int)∧i≤P∧P - i≤g1∧Hid (chk b1 c1 d1 (DL.drop i) (PL.drop i) (i:Int)=gr)∧Hid (Below w2.heap.size w2 wr))
  case atStart=>exact⟨0,rfl,Nat.zero_le _,Nat.le_refl _,Lib.hid (by rw[List.drop_zero,List.drop_zero];exact HC.out),Lib.hid (Below.refl _ _)⟩
  case round =>
   obtain⟨i,rfl,hi,hg,CI,WI⟩:=hrel
   have FI:=Lib.hid (show Below U.heap.size U wr from F2.out.trans (WI.out.mono F2.out.size))
   have yy0:(wr).cell? ⟨w.heap.size+1,0,none⟩=some (.int .i64 a):=(NL.out.below' FI.out).cell_ rfl
   have yy1:(wr).cell? ⟨w.heap.size+1,1,none⟩=some (.int .i64 b):=(NL.out.below' FI.out).cell_ rfl
   have yy2:(wr).cell? ⟨w.heap.size+1,2,none⟩=some (.int .i64 cc):=(NL.out.below' FI.out).cell_ rfl
   have yy3:(wr).cell? ⟨w.heap.size+1,3,none⟩=some (.int .i64 d):=(NL.out.below' FI.out).cell_ rfl
   by_cases hlt:i < P
   ·have q0:(i:Int) < (P:Int):=by omega
    obtain⟨t,ht⟩:∃t,PL[i]?=some t:=⟨_,List.getElem?_eq_getElem (by have:=HP.out;omega)⟩
    obtain⟨p,hp⟩:∃p,DL[i]?=some p:=⟨_,List.getElem?_eq_getElem (by have:=HP.out;have:=HDL.out;omega)⟩
    have CD:=Lib.hid (chk_drop (b:=b1) (c:=c1) (d:=d1) hp ht (i:Int))
    have tl:tlen t=tlen t:=rfl
    obtain⟨ady,hady,hcy⟩:=YS.out.2 i (.int .i64 p) (by rw[il_get,hp];rfl)
    subst hady
    have hcy:=(WI.out.cell (cell_lt hcy)).trans hcy
    obtain⟨K2,N2,r2,B2,cc2,us2⟩:=t
    obtain⟨ad,rfl,ae,hae,k0,k1,k2,k3,l1⟩:=kid_cells XS.out ht WI.out
    have jw:IntKind.i64.wrap ((i:Int)+1)=((i+1:Nat):Int):=by simp only[IntKind.wrap_i64];omega
    have HTT:=Lib.hid ht
    clear ht hp
    have QZb:=Lib.hid (fun u=>show Calls _ _ #[.int .i64 b] u (fun e w'=>e=.returned (.int .i64 b1)∧w'=u) from(CZb.out u).mono fun e w' hh=>⟨hh.1,hh.2.symm⟩)
    have QZd:=Lib.hid (fun u=>show Calls _ _ #[.int .i64 d] u (fun e w'=>e=.returned (.int .i64 d1)∧w'=u) from(CZd.out u).mono fun e w' hh=>⟨hh.1,hh.2.symm⟩)
    by_cases e1:b1 < p
    ·have hr1:er=23:=by rw[←HER.out,←CI.out,CD.out,if_pos e1,if_neg (by decide)]
     subst hr1
     clear CI CD HER
     go_upto_region 7 with fail
     go_quiet ((go_at_call 107;exact Calls.quiet_of_same (QZb.out _)))
     have B8:=Lib.hid (show Below wr.heap.size wr (wr.drewN nq) from below_drewN (Below.refl _ _) nq)
     generalize wr.drewN nq=w8 at *
     go_wp2_with fail
     go_ret2
     first|exact⟨BU.out.trans ((FI.out.trans (B8.out.mono FI.out.size)).mono BU.out.size),.inr ⟨by decide,rfl⟩⟩|exact⟨BU.out.trans ((FI.out.trans (B8.out.mono FI.out.size)).mono BU.out.size),rfl⟩
    have CD:=Lib.hid (CD.out.trans (if_neg e1))
    go_upto_region 7 with fail
    go_quiet ((go_at_call 107;exact Calls.quiet_of_same (QZb.out _)))
    have B8:=Lib.hid (show Below wr.heap.size wr (wr.drewN nq) from below_drewN (Below.refl _ _) nq)
    obtain⟨nq0,rfl⟩:∃x,x=nq:=⟨_,rfl⟩
    have WB8:=Lib.hid (show Below w2.heap.size w2 (wr.drewN nq0) from WI.out.trans (B8.out.mono WI.out.size))
    have F8:=Lib.hid (show Below U.heap.size U (wr.drewN nq0) from FI.out.trans (B8.out.mono FI.out.size))
    generalize wr.drewN nq0=w8 at *
    have xx0:(w8).cell? ⟨w.heap.size+1,0,none⟩=some (.int .i64 a):=(NL.out.below' F8.out).cell_ rfl
    have xx1:(w8).cell? ⟨w.heap.size+1,1,none⟩=some (.int .i64 b):=(NL.out.below' F8.out).cell_ rfl
    have xx2:(w8).cell? ⟨w.heap.size+1,2,none⟩=some (.int .i64 cc):=(NL.out.below' F8.out).cell_ rfl
    have xx3:(w8).cell? ⟨w.heap.size+1,3,none⟩=some (.int .i64 d):=(NL.out.below' F8.out).cell_ rfl
    obtain⟨ad',had',ae',hae',m0,m1,m2,m3,m4⟩:=kid_cells XS.out HTT.out WB8.out
    cases had'
    obtain rfl:ae=ae':=hae.symm.trans hae'
    clear hae' m4 k0 k1 k2 k3 hcy
    by_cases e2:c1≤(i:Int)
    ·have hr1:er=24:=by rw[←HER.out,←CI.out,CD.out,if_pos e2,if_neg (by decide)]
     subst hr1
     clear CI CD HER
     go_wp2_with (go_at_call 107;(refine(CZc.out _).mono ?_);rintro e w9 ⟨rfl,rfl⟩)
     go_ret2
     first|exact⟨BU.out.trans (F8.out.mono BU.out.size),.inr ⟨by decide,rfl⟩⟩|exact⟨BU.out.trans (F8.out.mono BU.out.size),rfl⟩
    have CD:=Lib.hid (CD.out.trans (if_neg e2))
    go_upto_region 11 with(go_at_call 107;(refine(CZc.out _).mono ?_);rintro e w9 ⟨rfl,rfl⟩)
    have tl:tlen (.mk K2 N2 r2 B2 cc2 us2)=(r2.2.1:Int):=rfl
    rw[tl] at CD
    by_cases e3:d1 < (r2.2.1:Int)
    ·have hr1:er=2:=by rw[←HER.out,←CI.out,CD.out,if_pos e3,if_neg (by decide)]
     subst hr1
     clear CI CD HER
     go_quiet ((go_at_call 107;exact Calls.quiet_of_same (QZd.out _)))
     have B9:=Lib.hid (show Below w8.heap.size w8 (w8.drewN nq) from below_drewN (Below.refl _ _) nq)
     generalize w8.drewN nq=w9 at *
     go_wp2_with fail
     go_ret2
     first|exact⟨BU.out.trans ((F8.out.trans (B9.out.mono F8.out.size)).mono BU.out.size),.inr ⟨by decide,rfl⟩⟩|exact⟨BU.out.trans ((F8.out.trans (B9.out.mono F8.out.size)).mono BU.out.size),rfl⟩
    have CD:=Lib.hid (CD.out.trans (if_neg e3))
    go_quiet ((go_at_call 107;exact Calls.quiet_of_same (QZd.out _)))
    have B9:=Lib.hid (show Below w8.heap.size w8 (w8.drewN nq) from below_drewN (Below.refl _ _) nq)
    generalize w8.drewN nq=w9 at *
    go_wp2_with fail
    go_roundg (P - (i+1))
    case measure=>omega
    case rel=>exact⟨i+1,by first|rfl|exact congrArg _ jw,by omega,Nat.le_refl _,Lib.hid (by rw[←CI.out,CD.out];rfl),Lib.hid (WB8.out.trans (B9.out.mono WB8.out.size))⟩
   ·obtain rfl:i=P:=by omega
    have q0:¬(i:Int) < (i:Int):=by omega
    have hg0:gr=0:=by rw[←CI.out];exact chk_end (Nat.le_of_eq HP.out) _
    subst hg0
    rw[if_pos rfl] at HER
    have CBx:=Lib.hid (CBy.out (by first|rfl|trivial) _ (BU.out.trans (FI.out.mono BU.out.size)))
    clear CI CBy
    have vv0:(wr).cell? ⟨w.heap.size,0,none⟩=some (.int .i64 K):=(NV.out.below' FI.out).cell_ rfl
    have vv1:(wr).cell? ⟨w.heap.size,1,none⟩=some (.int .u64 (n:Int)):=(NV.out.below' FI.out).cell_ rfl
    have vv2:(wr).cell? ⟨w.heap.size,2,none⟩=some (.slice r.1 r.2.1 r.2.2.1):=(NV.out.below' FI.out).cell_ rfl
    have vv3:(wr).cell? ⟨w.heap.size,3,none⟩=some (.slice A m c):=(NV.out.below' FI.out).cell_ rfl
    go_upto_region 14 with(go_at_call 108;(refine CBx.out.mono ?_);rintro e w10 ⟨T,rfl,ot,hb10⟩;obtain⟨TA,tc,rfl,-, -, -, -⟩:=own_form ot;have OT:=Lib.hid (own_lower ot (Nat.le_trans (Nat.le_trans BU.out.size FI.out.size) (Nat.le_refl _)));have F10:=Lib.hid (FI.out.trans (hb10.mono FI.out.size));have xx0:(w10).cell? ⟨w.heap.size+1,0,none⟩=some (.int .i64 a):=(NL.out.below' F10.out).cell_ rfl;have xx1:(w10).cell? ⟨w.heap.size+1,1,none⟩=some (.int .i64 b):=(NL.out.below' F10.out).cell_ rfl;have xx2:(w10).cell? ⟨w.heap.size+1,2,none⟩=some (.int .i64 cc):=(NL.out.below' F10.out).cell_ rfl;have xx3:(w10).cell? ⟨w.heap.size+1,3,none⟩=some (.int .i64 d):=(NL.out.below' F10.out).cell_ rfl;  clear ot hb10)
    by_cases e4:a1 < (WB.length:Int)
    ·rw[if_pos e4] at HER
     have hr1:er=2:=HER.out.symm
     subst hr1
     clear HER
     go_wp2_with (go_at_call 107;(refine(CZa.out _).mono ?_);rintro e w11 ⟨rfl,rfl⟩)
     go_ret2
     first|exact⟨BU.out.trans (F10.out.mono BU.out.size),.inr ⟨by decide,rfl⟩⟩|exact⟨BU.out.trans (F10.out.mono BU.out.size),rfl⟩
    ·rw[if_neg e4] at HER
     have hr1:er=0:=HER.out.symm
     subst hr1
     clear HER
     go_wp2_with (go_at_call 107;(refine(CZa.out _).mono ?_);rintro e w11 ⟨rfl,rfl⟩)
     go_ret2
     first|exact⟨BU.out.trans (F10.out.mono BU.out.size),.inl ⟨rfl,_,rfl,OT.out⟩⟩|exact⟨BU.out.trans (F10.out.mono BU.out.size),_,rfl,OT.out⟩
end Go.Proofs.YteblmphohhbgcaaGreat.Wr
