/- Joined texts. -/
import Derived.Test.YteblmphohhbgcaaGreatQmWrCopy
import Derived.Test.YteblmphohhbgcaaGreatQmWrDlist
import Derived.Test.YteblmphohhbgcaaGreatQmWrTreadB
set_option linter.unusedVariables false
namespace Go.Proofs.YteblmphohhbgcaaGreat.Wr
open Go.RowKit Go.Proofs.YteblmphohhbgcaaGreat.Gn Go.Proofs.YteblmphohhbgcaaGreat.Fd Go.Deep
theorem dvalue_any:∀F,Df F:=by
 intro F
 induction F using Nat.strongRecOn with
 |ind F IH =>
 intro w g a b c d zb zc zd k r p deep h hzb hzc hzd d1 k0 kc k1 hl9 dp0 dp1 hF
 obtain⟨f,rfl⟩:∃f,F=f+1:=⟨F - 1,by omega⟩
 have pl:p≤r.2.2.2.length:=h.le
 have d0:0≤zd:=by omega
 rw[rdv]
 by_cases hp:p=r.2.2.2.length
 ·rw[if_pos hp];exact dval_short h hzb hzc hzd deep hp
 rw[if_neg hp]
 by_cases hd:zb < deep
 ·rw[if_pos hd];exact dval_deep h hzb hzc hzd deep hp hd
 rw[if_neg hd]
 by_cases hk:k=zc
 ·rw[if_pos hk];exact dval_many h hzb hzc hzd deep hp hd (by omega)
 rw[if_neg hk]
 have hk2:k < zc:=by omega
 have k9:k≤1000000:=by omega
 obtain⟨x,hx⟩:∃x,r.2.2.2[p]?=some x:=⟨_,List.getElem?_eq_getElem (by omega)⟩
 have hg:r.2.2.2.getD p 0=x:=by rw[List.getD_eq_getElem?_getD,hx];rfl
 rw[hg]
 rcases hr:rcl (r.2.2.2.drop (p+1)) with⟨n,m,e⟩
 have hm:=rcl_le hr
 rw[List.length_drop] at hm
 simp only[]
 by_cases x1:x=1
 ·rw[if_pos x1]
  subst x1
  by_cases he:e=0
  ·rw[if_pos he];subst he
   exact dval_num h hzb hzc hzd deep hp hd hk2 k0 k9 hl9 hx hr (rcl_lt (fun y hy=>h.pc.lt y (List.mem_of_mem_drop hy)) hr)
  ·rw[if_neg he,(rcl_zero hr he).2];exact dval_cbad1 h hzb hzc hzd deep hp hd hk2 k0 k9 hl9 hx hr he
 rw[if_neg x1]
 by_cases x2:x=2
 ·rw[if_pos x2]
  subst x2
  by_cases he:e=0
  ·rw[if_pos he];subst he
   by_cases hn:zd < (n:Int)
   ·rw[if_pos hn];exact dval_long h hzb hzc hzd deep hp hd hk2 k0 k9 hl9 hx hr d1 d0 hn
   rw[if_neg hn]
   by_cases hs:r.2.2.2.length < p+1+m+n
   ·rw[if_pos hs];exact dval_few h hzb hzc hzd deep hp hd hk2 k0 k9 hl9 hx hr d1 d0 hn hs
   ·rw[if_neg hs];exact dval_bytes h hzb hzc hzd deep hp hd hk2 k0 k9 hl9 hx hr d1 d0 hn (by omega)
  ·rw[if_neg he,(rcl_zero hr he).2];exact dval_cbad2 h hzb hzc hzd deep hp hd hk2 k0 k9 hl9 hx hr he
 rw[if_neg x2]
 by_cases x3:x=3
 ·rw[if_pos x3]
  subst x3
  by_cases he:e=0
  ·rw[if_pos he];subst he
   have hpos:1≤m:=by have:=rcl_pos (l:=r.2.2.2.drop (p+1)) (by rw[hr]);rwa [hr] at this
   have hv:=dval_list h hzb hzc hzd deep hp hd hk2 k0 k9 hl9 hx hr (rcl_lt (fun y hy=>h.pc.lt y (List.mem_of_mem_drop hy)) hr) d1 (by omega) dp0 (F:=f) rfl (fun f' hf'=>IH f' (by omega)) (by omega) (by omega) (by omega)
   cases hres:rds zb zc zd r.2.2.2 f n (deep+1) (p+1+m) (k+1) [] with
   |bad q en=>rw[hres] at hv;exact hv
   |good vs p2 k2=>rw[hres] at hv;exact hv
  ·rw[if_neg he,(rcl_zero hr he).2];exact dval_cbad3 h hzb hzc hzd deep hp hd hk2 k0 k9 hl9 hx hr he
 rw[if_neg x3]
 exact dval_kind h hzb hzc hzd deep hp hd hk2 hx (by omega)
end Go.Proofs.YteblmphohhbgcaaGreat.Wr
namespace Go.Proofs.YteblmphohhbgcaaGreat.Wr
open Go.RowKit Go.Proofs.YteblmphohhbgcaaGreat.Gn Go.Proofs.YteblmphohhbgcaaGreat.Fd Go.Deep
def RdQL(res:Rr Nd)(w:World)(e:Ending)(w':World):Prop :=
 Below w.heap.size w w'∧match res with
 |.bad p en=>e=.returned (.tuple #[.agg #[.int .i64 0,.int .u64 0,.slice none 0 0,.slice none 0 0],.int .i64 (p:Int),.int .i64 (en:Int)])
 |.good v p k=>∃t,e=.returned (.tuple #[t.val,.int .i64 0,.int .i64 0])∧nd t=v∧Ok w' t∧lies (fun k=>w.heap.size≤k) t
set_option maxHeartbeats 4000000 in
set_option maxRecDepth 100000 in
theorem RRead_lies{w:World}{r:Rw}(hr:Pc w r)(a b c d:Int)(d1:d≤9223372036854775807)(hl9:r.2.1≤900000)(hin:∀ad,r.1=some ad→ad.block < w.heap.size) :
  Calls Tryz.prog 90 #[.slice r.1 r.2.1 r.2.2.1,.agg #[.int .i64 a,.int .i64 b,.int .i64 c,.int .i64 d]] w (RdQL (rdw (max a 0) (max b 0) (max c 0) (max d 0) r.2.2.2) w):=by
 have C1:=Lib.hid (fun(u:World) (g:Nat) (h:Di u g a b c d 0 r 0 0 0)=>dvalue_any (r.2.2.2.length+2) u g a b c d (max b 0) (max c 0) (max d 0) 0 r 0 1 h rfl rfl rfl (by omega) (Int.le_refl _) (by omega) (by have:=hr.len;omega) (by omega) (by decide) (by have:=hr.len;omega) (by omega))
 have CZ:=Lib.hid (fun u=>zero_any a u)
 obtain⟨A,L,cp,l⟩:=r
 have HP:=Lib.hid hr
 have LL:L=l.length:=hr.len
 have HLL:=Lib.hid LL
 have L9:=Lib.hid (show L≤900000 from hl9)
 have HIN:=Lib.hid (show ∀ad,A=some ad→ad.block < w.heap.size from hin)
 clear hr hl9 d1 hin
 have B0:=Lib.hid (show Below w.heap.size w ((w.alloc (.cells #[.int .i64 a,.int .i64 b,.int .i64 c,.int .i64 d] 132)).alloc nod0) from((Below.refl _ w).alloc (Nat.le_refl _) _).alloc (by simp) _)
 have Q0:=Lib.hid (show Bl ((w.alloc (.cells #[.int .i64 a,.int .i64 b,.int .i64 c,.int .i64 d] 132)).alloc nod0) (w.heap.size+1) 75 #[.int .i64 0,.int .u64 0,.slice none 0 0,.slice none 0 0] from Bl.new' (g:=w.heap.size+1) _ _ (by simp))
 have M0:=Lib.hid (show Bl ((w.alloc (.cells #[.int .i64 a,.int .i64 b,.int .i64 c,.int .i64 d] 132)).alloc nod0) w.heap.size 132 #[.int .i64 a,.int .i64 b,.int .i64 c,.int .i64 d] from(Bl.new_ w _ _).alloc _)
 have S0:=Lib.hid (show((w.alloc (.cells #[.int .i64 a,.int .i64 b,.int .i64 c,.int .i64 d] 132)).alloc nod0).heap.size=w.heap.size+1+1 from by simp)
 show Calls _ _ #[.slice A L cp,.agg #[.int .i64 a,.int .i64 b,.int .i64 c,.int .i64 d]] w (RdQL (rdw (max a 0) (max b 0) (max c 0) (max d 0) l) w)
 by_cases h9:max a 0 < (L:Int)
 ·have ER:rdw (max a 0) (max b 0) (max c 0) (max d 0) l=.bad 0 2:=by rw[rdw,if_pos (by omega)]
  rw[ER]
  generalize max a 0=a1 at *
  clear ER LL C1
  go_enter Tryz.func90,Tryz.ntmps90
  go_wp2_with (go_at_call 107;(refine(CZ.out _).mono ?_);rintro e w1 ⟨rfl,rfl⟩)
  refine bodyPost_ret (v:=.tuple #[.agg #[.int .i64 0,.int .u64 0,.slice none 0 0,.slice none 0 0],.int .i64 ((0:Nat):Int),.int .i64 ((2:Nat):Int)]) (results_c3 Tryz.results90 _ _ _ _ _ _ _ rfl rfl rfl (run_loadVar_row _ (w.heap.size+1) 75 75 _ (0,0) _ Q0.out Tryz.underlying75 rfl size34)) rfl ⟨?_,rfl⟩
  exact B0.out
 obtain⟨U,hU⟩:∃U,(((w.alloc (.cells #[.int .i64 a,.int .i64 b,.int .i64 c,.int .i64 d] 132)).alloc nod0).alloc (.cells #[.slice A L cp,.int .i64 0,.int .i64 0,.int .i64 a,.int .i64 b,.int .i64 c,.int .i64 d,.int .i64 0,.int .i64 0] 193))=U:=⟨_,rfl⟩
 have GU:=Lib.hid (show Bl U (w.heap.size+1+1) 193 #[.slice A L cp,.int .i64 0,.int .i64 0,.int .i64 a,.int .i64 b,.int .i64 c,.int .i64 d,.int .i64 0,.int .i64 0] from by rw[←hU];exact Bl.new' (g:=w.heap.size+1+1) _ _ (by simp))
 have ZU:=Lib.hid (show Bl U (w.heap.size+1) 75 #[.int .i64 0,.int .u64 0,.slice none 0 0,.slice none 0 0] from by rw[←hU];exact Q0.out.alloc _)
 have BU:=Lib.hid (show Below w.heap.size w U from by rw[←hU];exact B0.out.alloc (by simp;omega) _)
 have SU:=Lib.hid (show U.heap.size=w.heap.size+3 from by rw[←hU];simp)
 have D0:=Lib.hid (show Di U (w.heap.size+1+1) a b c d 0 (A,L,cp,l) 0 0 0 from⟨GU.out,HP.out.below BU.out,Nat.zero_le _,fun ad e=>by have:=HIN.out ad e;show ad.block≠w.heap.size+1+1;omega⟩)
 have CX:=Lib.hid (C1.out U (w.heap.size+1+1) D0.out)
 clear C1
 cases hres:rdv (max b 0) (max c 0) (max d 0) l (l.length+2) 1 0 0 with
 |bad q en =>
  have ER:rdw (max a 0) (max b 0) (max c 0) (max d 0) l=.bad q en:=by rw[rdw,if_neg (by omega),hres]
  rw[ER]
  have EN:=Lib.hid (rdv_bad _ _ _ _ _ _ _ _ hres)
  have CY:=Lib.hid (show Calls _ _ #[.pointer (some ⟨w.heap.size+1+1,0,none⟩),.int .i64 1] U (DbQ q en U (w.heap.size+1+1) a b c d (A,L,cp,l)) from by have h:=CX.out;rw[show((A,L,cp,l):Rw).2.2.2=l from rfl,hres] at h;exact h)
  generalize max a 0=a1 at *
  have en0:¬(en:Int)=0:=by have:=EN.out;omega
  clear CX ER LL hres
  go_enter Tryz.func90,Tryz.ntmps90
  go_wp2_with (first
   |(go_at_call 107;(refine(CZ.out _).mono ?_);rintro e w1 ⟨rfl,rfl⟩)
   |(go_at_call 115;(refine CY.out.mono ?_);rintro e w4 ⟨h1,⟨t,rfl⟩,p4,k4,hd⟩;obtain⟨K,N,rr,BB,cc,us⟩:=t;simp only[Tv.val,Tv.row];have X4:=Lib.hid (below_one w4 (.cells #[.int .i64 K,.int .u64 (N:Int),.slice rr.1 rr.2.1 rr.2.2.1,.slice BB us.length cc] 75));have D5:=Lib.hid (hd.below X4.out);have Z5:=Lib.hid (show Bl (w4.alloc (.cells #[.int .i64 K,.int .u64 (N:Int),.slice rr.1 rr.2.1 rr.2.2.1,.slice BB us.length cc] 75)) (w.heap.size+1) 75 #[.int .i64 0,.int .u64 0,.slice none 0 0,.slice none 0 0] from(ZU.out.grown h1 (by intro e;injection e with e;omega)).alloc _);have W4:=Lib.hid (show Below w.heap.size w w4 from BU.out.grown h1 (by have:=SU.out;omega) (by intro k e;injection e with e;omega));have W5:=Lib.hid (W4.out.trans (X4.out.mono W4.out.size));have G4:=Lib.hid h1;have w5_:=W5.out.size;have e1:(w4.alloc (.cells #[.int .i64 K,.int .u64 (N:Int),.slice rr.1 rr.2.1 rr.2.2.1,.slice BB us.length cc] 75)).cell? ⟨w.heap.size+1+1,1,none⟩=some (.int .i64 (p4:Int)):=D5.out.row.cell_ rfl;have e7:(w4.alloc (.cells #[.int .i64 K,.int .u64 (N:Int),.slice rr.1 rr.2.1 rr.2.2.1,.slice BB us.length cc] 75)).cell? ⟨w.heap.size+1+1,7,none⟩=some (.int .i64 (en:Int)):=D5.out.row.cell_ rfl;have e8:(w4.alloc (.cells #[.int .i64 K,.int .u64 (N:Int),.slice rr.1 rr.2.1 rr.2.2.1,.slice BB us.length cc] 75)).cell? ⟨w.heap.size+1+1,8,none⟩=some (.int .i64 (q:Int)):=D5.out.row.cell_ rfl;have y0:(w4.alloc (.cells #[.int .i64 K,.int .u64 (N:Int),.slice rr.1 rr.2.1 rr.2.2.1,.slice BB us.length cc] 75)).cell? ⟨w.heap.size+1,0,none⟩=some (.int .i64 0):=Z5.out.cell_ rfl;have f0:=Z5.out.frozen 0;have y1:(w4.alloc (.cells #[.int .i64 K,.int .u64 (N:Int),.slice rr.1 rr.2.1 rr.2.2.1,.slice BB us.length cc] 75)).cell? ⟨w.heap.size+1,1,none⟩=some (.int .u64 0):=Z5.out.cell_ rfl;have f1:=Z5.out.frozen 1;have y2:(w4.alloc (.cells #[.int .i64 K,.int .u64 (N:Int),.slice rr.1 rr.2.1 rr.2.2.1,.slice BB us.length cc] 75)).cell? ⟨w.heap.size+1,2,none⟩=some (.slice none 0 0):=Z5.out.cell_ rfl;have f2:=Z5.out.frozen 2;have y3:(w4.alloc (.cells #[.int .i64 K,.int .u64 (N:Int),.slice rr.1 rr.2.1 rr.2.2.1,.slice BB us.length cc] 75)).cell? ⟨w.heap.size+1,3,none⟩=some (.slice none 0 0):=Z5.out.cell_ rfl;have f3:=Z5.out.frozen 3;clear h1 hd))
  go_wp2_with fail
  go_region
  go_wp2_with fail
  have L4:=Lib.hid (st4_bl Z5.out (.int .i64 0) (.int .u64 0) (.slice none 0 0) (.slice none 0 0))
  refine bodyPost_ret (v:=.tuple #[.agg #[.int .i64 0,.int .u64 0,.slice none 0 0,.slice none 0 0],.int .i64 (q:Int),.int .i64 (en:Int)]) (results_c3 Tryz.results90 _ _ _ _ _ _ _ rfl rfl rfl (run_loadVar_row _ (w.heap.size+1) 75 75 _ (0,0) _ (L4.out.drewN 1) Tryz.underlying75 rfl size34)) rfl ⟨?_,rfl⟩
  exact(below_st4' W5.out (Nat.le_succ _) _ _ _ _).drew
 |good v p k =>
  have ER:rdw (max a 0) (max b 0) (max c 0) (max d 0) l=if p < l.length then .bad p 25 else .good v p k:=by rw[rdw,if_neg (by omega),hres]
  rw[ER]
  have CY:=Lib.hid (show Calls _ _ #[.pointer (some ⟨w.heap.size+1+1,0,none⟩),.int .i64 1] U (DgQ v p U (w.heap.size+1+1) a b c d k (A,L,cp,l)) from by have h:=CX.out;rw[show((A,L,cp,l):Rw).2.2.2=l from rfl,hres] at h;exact h)
  generalize max a 0=a1 at *
  clear CX ER hres
  by_cases hp:p < l.length
  ·rw[if_pos hp]
   have hp2:(p:Int) < (L:Int):=by omega
   clear LL
   go_enter Tryz.func90,Tryz.ntmps90
   go_wp2_with (first
    |(go_at_call 107;(refine(CZ.out _).mono ?_);rintro e w1 ⟨rfl,rfl⟩)
    |(go_at_call 115;(refine CY.out.mono ?_);rintro e w4 ⟨h1,t,rfl,hv,ho,hl,hd⟩;obtain⟨K,N,rr,BB,cc,us⟩:=t;simp only[Tv.val,Tv.row];have X4:=Lib.hid (below_one w4 (.cells #[.int .i64 K,.int .u64 (N:Int),.slice rr.1 rr.2.1 rr.2.2.1,.slice BB us.length cc] 75));have D5:=Lib.hid (hd.below X4.out);have Z5:=Lib.hid (show Bl (w4.alloc (.cells #[.int .i64 K,.int .u64 (N:Int),.slice rr.1 rr.2.1 rr.2.2.1,.slice BB us.length cc] 75)) (w.heap.size+1) 75 #[.int .i64 0,.int .u64 0,.slice none 0 0,.slice none 0 0] from(ZU.out.grown h1 (by intro e;injection e with e;omega)).alloc _);have W4:=Lib.hid (show Below w.heap.size w w4 from BU.out.grown h1 (by have:=SU.out;omega) (by intro k e;injection e with e;omega));have W5:=Lib.hid (W4.out.trans (X4.out.mono W4.out.size));have G4:=Lib.hid h1;have e1:(w4.alloc (.cells #[.int .i64 K,.int .u64 (N:Int),.slice rr.1 rr.2.1 rr.2.2.1,.slice BB us.length cc] 75)).cell? ⟨w.heap.size+1+1,1,none⟩=some (.int .i64 (p:Int)):=D5.out.row.cell_ rfl;have e7:(w4.alloc (.cells #[.int .i64 K,.int .u64 (N:Int),.slice rr.1 rr.2.1 rr.2.2.1,.slice BB us.length cc] 75)).cell? ⟨w.heap.size+1+1,7,none⟩=some (.int .i64 0):=D5.out.row.cell_ rfl;have e8:(w4.alloc (.cells #[.int .i64 K,.int .u64 (N:Int),.slice rr.1 rr.2.1 rr.2.2.1,.slice BB us.length cc] 75)).cell? ⟨w.heap.size+1+1,8,none⟩=some (.int .i64 0):=D5.out.row.cell_ rfl;have y0:(w4.alloc (.cells #[.int .i64 K,.int .u64 (N:Int),.slice rr.1 rr.2.1 rr.2.2.1,.slice BB us.length cc] 75)).cell? ⟨w.heap.size+1,0,none⟩=some (.int .i64 0):=Z5.out.cell_ rfl;have f0:=Z5.out.frozen 0;have y1:(w4.alloc (.cells #[.int .i64 K,.int .u64 (N:Int),.slice rr.1 rr.2.1 rr.2.2.1,.slice BB us.length cc] 75)).cell? ⟨w.heap.size+1,1,none⟩=some (.int .u64 0):=Z5.out.cell_ rfl;have f1:=Z5.out.frozen 1;have y2:(w4.alloc (.cells #[.int .i64 K,.int .u64 (N:Int),.slice rr.1 rr.2.1 rr.2.2.1,.slice BB us.length cc] 75)).cell? ⟨w.heap.size+1,2,none⟩=some (.slice none 0 0):=Z5.out.cell_ rfl;have f2:=Z5.out.frozen 2;have y3:(w4.alloc (.cells #[.int .i64 K,.int .u64 (N:Int),.slice rr.1 rr.2.1 rr.2.2.1,.slice BB us.length cc] 75)).cell? ⟨w.heap.size+1,3,none⟩=some (.slice none 0 0):=Z5.out.cell_ rfl;have f3:=Z5.out.frozen 3;have CF:=Lib.hid (fail_any D5.out (p:Int) 25 (by decide));have w5_:=W5.out.size;clear h1 hd hv ho hl)
    |(go_at_call 116;(refine CF.out.mono ?_);rintro e w6 ⟨rfl,h1,h2⟩;clear e1 e7 e8 y0 y1 y2 y3 f0 f1 f2 f3;have D6:=Lib.hid h1;have Z6:=Lib.hid (show Bl w6 (w.heap.size+1) 75 #[.int .i64 0,.int .u64 0,.slice none 0 0,.slice none 0 0] from Z5.out.grown h2 (by intro e;injection e with e;omega));have W6:=Lib.hid (show Below w.heap.size w w6 from W5.out.grown h2 (by omega) (by intro k e;injection e with e;omega));have e1:w6.cell? ⟨w.heap.size+1+1,1,none⟩=some (.int .i64 (p:Int)):=D6.out.row.cell_ rfl;have e7:w6.cell? ⟨w.heap.size+1+1,7,none⟩=some (.int .i64 25):=D6.out.row.cell_ rfl;have e8:w6.cell? ⟨w.heap.size+1+1,8,none⟩=some (.int .i64 (p:Int)):=D6.out.row.cell_ rfl;have y0:w6.cell? ⟨w.heap.size+1,0,none⟩=some (.int .i64 0):=Z6.out.cell_ rfl;have f0:=Z6.out.frozen 0;have y1:w6.cell? ⟨w.heap.size+1,1,none⟩=some (.int .u64 0):=Z6.out.cell_ rfl;have f1:=Z6.out.frozen 1;have y2:w6.cell? ⟨w.heap.size+1,2,none⟩=some (.slice none 0 0):=Z6.out.cell_ rfl;have f2:=Z6.out.frozen 2;have y3:w6.cell? ⟨w.heap.size+1,3,none⟩=some (.slice none 0 0):=Z6.out.cell_ rfl;have f3:=Z6.out.frozen 3;clear h1 h2))
   go_wp2_with fail
   go_region
   go_wp2_with fail
   have L4:=Lib.hid (st4_bl Z6.out (.int .i64 0) (.int .u64 0) (.slice none 0 0) (.slice none 0 0))
   refine bodyPost_ret (v:=.tuple #[.agg #[.int .i64 0,.int .u64 0,.slice none 0 0,.slice none 0 0],.int .i64 (p:Int),.int .i64 ((25:Nat):Int)]) (results_c3 Tryz.results90 _ _ _ _ _ _ _ rfl rfl rfl (run_loadVar_row _ (w.heap.size+1) 75 75 _ (0,0) _ (L4.out.drewN 1) Tryz.underlying75 rfl size34)) rfl ⟨?_,rfl⟩
   exact(below_st4' W6.out (Nat.le_succ _) _ _ _ _).drew
  ·rw[if_neg hp]
   have hp2:¬(p:Int) < (L:Int):=by omega
   clear LL
   go_enter Tryz.func90,Tryz.ntmps90
   go_wp2_with (first
    |(go_at_call 107;(refine(CZ.out _).mono ?_);rintro e w1 ⟨rfl,rfl⟩)
    |(go_at_call 115;(refine CY.out.mono ?_);rintro e w4 ⟨h1,t,rfl,hv,ho,hl,hd⟩;obtain⟨K,N,rr,BB,cc,us⟩:=t;simp only[Tv.val,Tv.row];have X4:=Lib.hid (below_one w4 (.cells #[.int .i64 K,.int .u64 (N:Int),.slice rr.1 rr.2.1 rr.2.2.1,.slice BB us.length cc] 75));have D5:=Lib.hid (hd.below X4.out);have Z5:=Lib.hid (show Bl (w4.alloc (.cells #[.int .i64 K,.int .u64 (N:Int),.slice rr.1 rr.2.1 rr.2.2.1,.slice BB us.length cc] 75)) (w.heap.size+1) 75 #[.int .i64 0,.int .u64 0,.slice none 0 0,.slice none 0 0] from(ZU.out.grown h1 (by intro e;injection e with e;omega)).alloc _);have W4:=Lib.hid (show Below w.heap.size w w4 from BU.out.grown h1 (by have:=SU.out;omega) (by intro k e;injection e with e;omega));have W5:=Lib.hid (W4.out.trans (X4.out.mono W4.out.size));have G4:=Lib.hid h1;have e1:(w4.alloc (.cells #[.int .i64 K,.int .u64 (N:Int),.slice rr.1 rr.2.1 rr.2.2.1,.slice BB us.length cc] 75)).cell? ⟨w.heap.size+1+1,1,none⟩=some (.int .i64 (p:Int)):=D5.out.row.cell_ rfl;have e7:(w4.alloc (.cells #[.int .i64 K,.int .u64 (N:Int),.slice rr.1 rr.2.1 rr.2.2.1,.slice BB us.length cc] 75)).cell? ⟨w.heap.size+1+1,7,none⟩=some (.int .i64 0):=D5.out.row.cell_ rfl;have e8:(w4.alloc (.cells #[.int .i64 K,.int .u64 (N:Int),.slice rr.1 rr.2.1 rr.2.2.1,.slice BB us.length cc] 75)).cell? ⟨w.heap.size+1+1,8,none⟩=some (.int .i64 0):=D5.out.row.cell_ rfl;have y0:(w4.alloc (.cells #[.int .i64 K,.int .u64 (N:Int),.slice rr.1 rr.2.1 rr.2.2.1,.slice BB us.length cc] 75)).cell? ⟨w.heap.size+1,0,none⟩=some (.int .i64 0):=Z5.out.cell_ rfl;have f0:=Z5.out.frozen 0;have y1:(w4.alloc (.cells #[.int .i64 K,.int .u64 (N:Int),.slice rr.1 rr.2.1 rr.2.2.1,.slice BB us.length cc] 75)).cell? ⟨w.heap.size+1,1,none⟩=some (.int .u64 0):=Z5.out.cell_ rfl;have f1:=Z5.out.frozen 1;have y2:(w4.alloc (.cells #[.int .i64 K,.int .u64 (N:Int),.slice rr.1 rr.2.1 rr.2.2.1,.slice BB us.length cc] 75)).cell? ⟨w.heap.size+1,2,none⟩=some (.slice none 0 0):=Z5.out.cell_ rfl;have f2:=Z5.out.frozen 2;have y3:(w4.alloc (.cells #[.int .i64 K,.int .u64 (N:Int),.slice rr.1 rr.2.1 rr.2.2.1,.slice BB us.length cc] 75)).cell? ⟨w.heap.size+1,3,none⟩=some (.slice none 0 0):=Z5.out.cell_ rfl;have f3:=Z5.out.frozen 3;have w5_:=W5.out.size;have HV:=Lib.hid hv;have HO:=Lib.hid (ho.keep X4.out);have HL:=Lib.hid hl;clear h1 hd hv ho hl))
   have L4:=Lib.hid (st4_bl Z5.out (.int .i64 K) (.int .u64 (N:Int)) (.slice rr.1 rr.2.1 rr.2.2.1) (.slice BB us.length cc))
   refine bodyPost_ret (v:=.tuple #[(Tv.mk K N rr BB cc us).val,.int .i64 0,.int .i64 0]) (results_c3 Tryz.results90 _ _ _ _ _ _ _ rfl rfl rfl (run_loadVar_row _ (w.heap.size+1) 75 75 _ (0,0) _ L4.out Tryz.underlying75 rfl size34)) rfl ⟨?_,.mk K N rr BB cc us,rfl,HV.out,?_,lies.mono (fun k h=>by have:=SU.out;omega) HL.out⟩
   ·exact below_st4' W5.out (Nat.le_succ _) _ _ _ _
   ·exact HO.out.kept HL.out (fun k hk hlt=>st4_keep _ _ _ _ _ (by have:=SU.out;omega))
end Go.Proofs.YteblmphohhbgcaaGreat.Wr
