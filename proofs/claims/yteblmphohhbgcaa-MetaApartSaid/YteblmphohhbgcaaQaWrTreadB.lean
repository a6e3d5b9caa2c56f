/- Joined texts. -/
import Derived.Test.YteblmphohhbgcaaQaWrTread
import Derived.Test.YteblmphohhbgcaaQaWrWriteB
set_option linter.unusedVariables false
namespace Go.Proofs.Yteblmphohhbgcaa.Wr
open Go.RowKit Go.Proofs.Yteblmphohhbgcaa.Gn Go.Proofs.Yteblmphohhbgcaa.Fd Go.Deep
def RdQ(res:Rr Nd)(w:World)(e:Ending)(w':World):Prop :=
 Below w.heap.size w w'∧match res with
 |.bad p en=>e=.returned (.tuple #[.agg #[.int .i64 0,.int .u64 0,.slice none 0 0,.slice none 0 0],.int .i64 (p:Int),.int .i64 (en:Int)])
 |.good v p k=>∃t,e=.returned (.tuple #[t.val,.int .i64 0,.int .i64 0])∧nd t=v∧Ok w' t
theorem results_c3{fn:Func}{a b c:Tmp}{t:TypeId}(h:fn.results = #[.cell a t,.tmp b,.tmp c])(tmps:Array Value)(P:Program)(w:World)(ad:Addr)(v u x:Value)(ha:tmps.getD a undef=.pointer (some ad))(hb:tmps.getD b undef=u)(hc:tmps.getD c undef=x)(hl:(loadVar t ad).run P w=.ok v w) :
  (results fn tmps).run P w=.ok (.tuple #[v,u,x]) w:=by
 have ha':tmps[a]?.getD undef=.pointer (some ad):=by simpa using ha
 have hb':tmps[b]?.getD undef=u:=by simpa using hb
 have hc':tmps[c]?.getD undef=x:=by simpa using hc
 simp[results,h,ha',hb',hc',hl,asAddr]
theorem below_st4'{B:Nat}{w w3:World}(h:Below B w w3){q:Nat}(hq:B≤q)(v0 v1 v2 v3:Value):Below B w (st4 w3 q v0 v1 v2 v3) :=
 (((h.setCell (p:=⟨q,0,none⟩) hq v0).setCell (p:=⟨q,1,none⟩) hq v1).setCell (p:=⟨q,2,none⟩) hq v2).setCell (p:=⟨q,3,none⟩) hq v3
theorem below_st4{w w3:World}(h:Below w.heap.size w w3){q:Nat}(hq:w.heap.size≤q)(v0 v1 v2 v3:Value)(o:Obj):Below w.heap.size w ((st4 w3 q v0 v1 v2 v3).alloc o) :=
 (below_st4' h hq v0 v1 v2 v3).alloc (by rw[st4_size];exact h.size) o
abbrev flt0:Obj:=.cells #[.int .i64 0,.int .i64 0] 123
set_option maxHeartbeats 4000000 in
set_option maxRecDepth 100000 in
theorem Read_any{w:World}{r:Rw}(hr:Pc w r)(a b c d:Int)(d1:d≤9223372036854775807)(hl9:r.2.1≤900000)(hin:∀ad,r.1=some ad→ad.block < w.heap.size) :
  Calls Try.prog 49 #[.slice r.1 r.2.1 r.2.2.1,lim a b c d] w (RdQ (rdw (max a 0) (max b 0) (max c 0) (max d 0) r.2.2.2) w):=by
 have C1:=Lib.hid (fun(u:World) (g p q:Nat) (h:Rt u g (max a 0) (max b 0) (max c 0) (max d 0) 0 r 0) hp hq (hn:q≠g)=>Read1_any (p:=p) (q:=q) h (by omega) (by omega) hl9 hp hq hn)
 have CRo:=Lib.hid (fun u=>roomOf_any a b c d u)
 generalize rdw (max a 0) (max b 0) (max c 0) (max d 0) r.2.2.2=res at *
 generalize max a 0=a1 at *
 generalize max b 0=b1 at *
 generalize max c 0=c1 at *
 generalize max d 0=d1 at *
 clear hl9
 obtain⟨A,L,cp,l⟩:=r
 have HP:=Lib.hid hr
 clear hr
 have A0:=Lib.hid ((below_one w (.cells #[.int .i64 a,.int .i64 b,.int .i64 c,.int .i64 d] 86)).trans ((below_one (w.alloc (.cells #[.int .i64 a,.int .i64 b,.int .i64 c,.int .i64 d] 86)) nod0).mono (by simp)))
 have Q0:=Lib.hid (show Bl ((w.alloc (.cells #[.int .i64 a,.int .i64 b,.int .i64 c,.int .i64 d] 86)).alloc nod0) (w.heap.size+1) 80 #[.int .i64 0,.int .u64 0,.slice none 0 0,.slice none 0 0] from Bl.new' (g:=w.heap.size+1) _ _ (by simp))
 show Calls _ _ #[.slice A L cp,lim a b c d] w _
 go_enter Try.func49,Try.ntmps49
 go_wp2_with (go_at_call 57;(refine(CRo.out _).mono ?_);rintro e w1 ⟨rfl,hb⟩;have B1:=Lib.hid hb;clear hb)
 obtain⟨U,hU⟩:∃U,(((w1.alloc (.cells #[.int .i64 a1,.int .i64 b1,.int .i64 c1,.int .i64 d1,.int .i64 0,.slice A L cp,.int .i64 0] 143)).alloc (.cells #[.pointer (some ⟨w1.heap.size,0,none⟩)] 141)).alloc nod0)=U:=⟨_,rfl⟩
 have BW:=Lib.hid (show Below w.heap.size w w1 from A0.out.trans (B1.out.mono A0.out.size))
 have BU:=Lib.hid (show Below w1.heap.size w1 U from by rw[←hU];exact(((Below.refl _ w1).alloc (Nat.le_refl _) _).alloc (by simp) _).alloc (by simp;omega) _)
 have GU:=Lib.hid (show Bl U w1.heap.size 143 #[.int .i64 a1,.int .i64 b1,.int .i64 c1,.int .i64 d1,.int .i64 0,.slice A L cp,.int .i64 0] from by rw[←hU];exact((Bl.new_ w1 _ _).alloc _).alloc _)
 have PU:=Lib.hid (show Bl U (w1.heap.size+1) 141 #[.pointer (some ⟨w1.heap.size,0,none⟩)] from by rw[←hU];exact(Bl.new' (g:=w1.heap.size+1) _ _ (by simp)).alloc _)
 have QU:=Lib.hid (show Bl U (w1.heap.size+1+1) 80 #[.int .i64 0,.int .u64 0,.slice none 0 0,.slice none 0 0] from by rw[←hU];exact Bl.new' (g:=w1.heap.size+1+1) _ _ (by simp))
 have SU:=Lib.hid (show U.heap.size=w1.heap.size+3 from by rw[←hU];simp)
 have Z1:=Lib.hid (show Bl w1 (w.heap.size+1) 80 _ from Q0.out.below' B1.out)
 have lz:=Z1.out.lt
 have ZU:=Lib.hid (show Bl U (w.heap.size+1) 80 _ from Z1.out.below' BU.out)
 have BF:=Lib.hid (below_one U flt0)
 have SF:=Lib.hid (show(U.alloc flt0).heap.size=U.heap.size+1 from by simp)
 have PF:=Lib.hid (show Pc (U.alloc flt0) (A,L,cp,l) from((HP.out.below BW.out).below BU.out).below BF.out)
 have R0:=Lib.hid (show Rt (U.alloc flt0) w1.heap.size a1 b1 c1 d1 0 (A,L,cp,l) 0 from⟨GU.out.alloc _,PF.out,Nat.zero_le _,fun ad e=>by have h1:=hin ad e;have h2:=BW.out.size;show ad.block≠w1.heap.size;omega⟩)
 have CX:=Lib.hid (C1.out (U.alloc flt0) w1.heap.size (w1.heap.size+1) (w1.heap.size+1+1) R0.out ((PU.out.alloc _).cell_ rfl) (QU.out.alloc _) (by omega))
 rw[hU]
 clear hU C1
 cases res with
 |bad x en =>
  have CF:=Lib.hid (faultOf_panR #[.pointer (some ⟨w1.heap.size+1,0,none⟩),.pointer (some ⟨w1.heap.size+1+1,0,none⟩)] U (x:Int) (en:Int) (fun w2=>(U.alloc flt0).grownBy w2 (some w1.heap.size)) (fun w2 h=>(h.block U.heap.size (by rw[SF.out];omega) (by rw[SU.out];intro e;injection e with e;omega)).trans (Bl.new_ U _ _)) (CX.out.mono fun e w2 h=>⟨h.1,h.2⟩))
  refine CF.out.mono ?_
  rintro e w3 ⟨rfl,w2,h2,h3⟩
  have Q3:=Lib.hid (show Bl w3 (w1.heap.size+1+1) 80 #[.int .i64 0,.int .u64 0,.slice none 0 0,.slice none 0 0] from((QU.out.alloc _).grown h2 (by intro e;injection e with e;omega)).grown h3 (by rw[SU.out];intro e;injection e with e;omega))
  have Z3:=Lib.hid (show Bl w3 (w.heap.size+1) 80 #[.int .i64 0,.int .u64 0,.slice none 0 0,.slice none 0 0] from((ZU.out.alloc _).grown h2 (by intro e;injection e with e;omega)).grown h3 (by rw[SU.out];intro e;injection e with e;omega))
  have W3:=Lib.hid (show Below w.heap.size w w3 from(((BW.out.trans ((BU.out.mono BW.out.size).trans (BF.out.mono (Nat.le_trans BW.out.size BU.out.size)))).grown h2 (by have h4:=BW.out.size;rw[SF.out,SU.out];omega) (by intro k e;injection e with e;have:=BW.out.size;omega))).grown h3 (by have h4:=BW.out.size;have h5:=h2.size;rw[SF.out,SU.out] at h5;omega) (by intro k e;injection e with e;have:=BW.out.size;have h5:=SU.out;omega))
  clear h2 h3 CF CX R0 PF SF BF ZU lz Z1 SU QU PU GU BU B1 A0 Q0 CRo HP hin
  have q0:w3.cell? ⟨w1.heap.size+1+1,0,none⟩=some (.int .i64 0):=Q3.out.cell_ rfl
  have q1:w3.cell? ⟨w1.heap.size+1+1,1,none⟩=some (.int .u64 0):=Q3.out.cell_ rfl
  have q2:w3.cell? ⟨w1.heap.size+1+1,2,none⟩=some (.slice none 0 0):=Q3.out.cell_ rfl
  have q3:w3.cell? ⟨w1.heap.size+1+1,3,none⟩=some (.slice none 0 0):=Q3.out.cell_ rfl
  have y0:w3.cell? ⟨w.heap.size+1,0,none⟩=some (.int .i64 0):=Z3.out.cell_ rfl
  have y1:w3.cell? ⟨w.heap.size+1,1,none⟩=some (.int .u64 0):=Z3.out.cell_ rfl
  have y2:w3.cell? ⟨w.heap.size+1,2,none⟩=some (.slice none 0 0):=Z3.out.cell_ rfl
  have y3:w3.cell? ⟨w.heap.size+1,3,none⟩=some (.slice none 0 0):=Z3.out.cell_ rfl
  have f0:=Z3.out.frozen 0
  have f1:=Z3.out.frozen 1
  have f2:=Z3.out.frozen 2
  have f3:=Z3.out.frozen 3
  have lq:=Q3.out.lt
  have lz:=Z3.out.lt
  generalize hq1:w1.heap.size+1+1=sq at *
  go_wp2_with fail
  go_region
  go_wp2_with fail
  have W4:=W3.out
  have L4:=Lib.hid (st4_bl Z3.out (.int .i64 0) (.int .u64 0) (.slice none 0 0) (.slice none 0 0))
  refine bodyPost_ret (v:=.tuple #[.agg #[.int .i64 0,.int .u64 0,.slice none 0 0,.slice none 0 0],.int .i64 (x:Int),.int .i64 (en:Int)]) (results_c3 Try.results49 _ _ _ _ _ _ _ rfl rfl rfl (run_loadVar_row _ (w.heap.size+1) 80 80 _ (0,0) _ ((L4.out.alloc _).drewN 1) Try.underlying80 rfl size34)) rfl ⟨?_,rfl⟩
  exact(below_st4 W4 (Nat.le_succ _) _ _ _ _ _).drew
 |good v p k =>
  have CF:=Lib.hid (faultOf_retR #[.pointer (some ⟨w1.heap.size+1,0,none⟩),.pointer (some ⟨w1.heap.size+1+1,0,none⟩)] U (fun w2=>∃t wa,(U.alloc flt0).grownBy wa (some w1.heap.size)∧nd t=v∧Ok wa t∧lies (fun k=>(U.alloc flt0).heap.size≤k) t∧w2=st4 wa (w1.heap.size+1+1) (t.row.getD 0 undef) (t.row.getD 1 undef) (t.row.getD 2 undef) (t.row.getD 3 undef)) (fun w2 ⟨t,wa,h,_,_,_,e⟩=>by
   rw[e]
   exact(st4_keep wa _ _ _ _ (by rw[SU.out];omega)).trans ((h.block U.heap.size (by rw[SF.out];omega) (by rw[SU.out];intro e;injection e with e;omega)).trans (Bl.new_ U _ _))) (CX.out.mono fun e w2 ⟨h1,h⟩=>⟨h1,h⟩))
  refine CF.out.mono ?_
  rintro e w3 ⟨rfl,w2,⟨t,wa,h2,hv,ho,hl,rfl⟩,h3⟩
  obtain⟨K,N,rr,B,cc,us⟩:=t
  have Q3:=Lib.hid (show Bl w3 (w1.heap.size+1+1) 80 #[.int .i64 K,.int .u64 (N:Int),.slice rr.1 rr.2.1 rr.2.2.1,.slice B us.length cc] from(st4_bl ((QU.out.alloc _).grown h2 (by intro e;injection e with e;omega)) _ _ _ _).grown h3 (by rw[SU.out];intro e;injection e with e;omega))
  have Z3:=Lib.hid (show Bl w3 (w.heap.size+1) 80 #[.int .i64 0,.int .u64 0,.slice none 0 0,.slice none 0 0] from(show Bl (st4 wa _ _ _ _ _) _ _ _ from(st4_keep wa _ _ _ _ (by omega)).trans ((ZU.out.alloc _).grown h2 (by intro e;injection e with e;omega))).grown h3 (by rw[SU.out];intro e;injection e with e;omega))
  have hw9:w.heap.size≤w1.heap.size:=BW.out.size
  have hu9:=SU.out
  have hf9:=SF.out
  have h29:=h2.size
  have W2:=Lib.hid (show Below w.heap.size w wa from(BW.out.trans ((BU.out.mono BW.out.size).trans (BF.out.mono (Nat.le_trans BW.out.size BU.out.size)))).grown h2 (by omega) (by intro k e;injection e with e;omega))
  have W3:=Lib.hid (show Below w.heap.size w w3 from(below_st4' W2.out (by omega) _ _ _ _).grown h3 (by rw[st4_size];omega) (by intro k e;injection e with e;omega))
  have O3:=Lib.hid (show Ok w3 (.mk K N rr B cc us) from(ho.kept hl (w':=st4 wa (w1.heap.size+1+1) ((Tv.mk K N rr B cc us).row.getD 0 undef) ((Tv.mk K N rr B cc us).row.getD 1 undef) ((Tv.mk K N rr B cc us).row.getD 2 undef) ((Tv.mk K N rr B cc us).row.getD 3 undef)) (fun k hk hlt=>st4_keep wa _ _ _ _ (by omega))).kept hl (fun k hk hlt=>h3.block k hlt (fun e=>by injection e with e;omega)))
  have HV:=Lib.hid hv
  have HL:=Lib.hid hl
  clear h2 h3 CF CX R0 PF SF BF ZU lz Z1 SU QU PU GU BU B1 A0 Q0 CRo HP hin hv ho hl W2
  have q0:w3.cell? ⟨w1.heap.size+1+1,0,none⟩=some (.int .i64 K):=Q3.out.cell_ rfl
  have q1:w3.cell? ⟨w1.heap.size+1+1,1,none⟩=some (.int .u64 (N:Int)):=Q3.out.cell_ rfl
  have q2:w3.cell? ⟨w1.heap.size+1+1,2,none⟩=some (.slice rr.1 rr.2.1 rr.2.2.1):=Q3.out.cell_ rfl
  have q3:w3.cell? ⟨w1.heap.size+1+1,3,none⟩=some (.slice B us.length cc):=Q3.out.cell_ rfl
  have y0:w3.cell? ⟨w.heap.size+1,0,none⟩=some (.int .i64 0):=Z3.out.cell_ rfl
  have y1:w3.cell? ⟨w.heap.size+1,1,none⟩=some (.int .u64 0):=Z3.out.cell_ rfl
  have y2:w3.cell? ⟨w.heap.size+1,2,none⟩=some (.slice none 0 0):=Z3.out.cell_ rfl
  have y3:w3.cell? ⟨w.heap.size+1,3,none⟩=some (.slice none 0 0):=Z3.out.cell_ rfl
  have f0:=Z3.out.frozen 0
  have f1:=Z3.out.frozen 1
  have f2:=Z3.out.frozen 2
  have f3:=Z3.out.frozen 3
  have lq:=Q3.out.lt
  have lz:=Z3.out.lt
  generalize hq1:w1.heap.size+1+1=sq at *
  go_wp2_with fail
  go_region
  go_wp2_with fail
  have L4:=Lib.hid (st4_bl Z3.out (.int .i64 K) (.int .u64 (N:Int)) (.slice rr.1 rr.2.1 rr.2.2.1) (.slice B us.length cc))
  refine bodyPost_ret (v:=.tuple #[(Tv.mk K N rr B cc us).val,.int .i64 0,.int .i64 0]) (results_c3 Try.results49 _ _ _ _ _ _ _ rfl rfl rfl (run_loadVar_row _ (w.heap.size+1) 80 80 _ (0,0) _ ((L4.out.alloc _).drewN 1) Try.underlying80 rfl size34)) rfl ⟨?_,.mk K N rr B cc us,rfl,HV.out,?_⟩
  ·exact(below_st4 W3.out (Nat.le_succ _) _ _ _ _ _).drew
  ·exact O3.out.kept HL.out (fun k hk hlt=>(Below.heap_alloc _ _ k (by rw[st4_size];exact hlt)).trans (st4_keep w3 _ _ _ _ (by omega)))
end Go.Proofs.Yteblmphohhbgcaa.Wr
