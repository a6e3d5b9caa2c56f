/- Joined texts. -/
import Derived.Test.YteblmphohhbgcaaGreatQmMtAb
set_option linter.unusedVariables false
namespace Go.Proofs.YteblmphohhbgcaaGreat.Mt
open Go.RowKit Go.Proofs.YteblmphohhbgcaaGreat.Gn Go.Proofs.YteblmphohhbgcaaGreat.Fd Go.Proofs.YteblmphohhbgcaaGreat.Wr Go.Deep
set_option maxRecDepth 100000
def R3L(x y:Int)(V:Nd)(w:World)(e:Ending)(w':World):Prop :=
 Below w.heap.size w w'∧∃t:Tv,e=.returned (.tuple #[t.val,.int .i64 x,.int .i64 y])∧Wr.nd t=V∧Ok w' t∧lies (fun k=>w.heap.size≤k) t
theorem rd_vall(l:List Nat):∃(x y:Int) (V:Nd),(∀w e w',RdQ (rdw 8192 8 1024 8192 l) w e w'→R3Q x y V w e w')∧(∀w e w',RdQL (rdw 8192 8 1024 8192 l) w e w'→R3L x y V w e w')∧(∀f,bO f l=if y=0 then f V else none)∧szn V≤l.length+1:=by
 obtain⟨x,y,V,h1,h2,h3,h4,h5⟩:=rdq3 (a:=8192) (b:=8) (c:=1024) (d:=8192) (l:=l)
 refine⟨x,y,V,h1,fun w e w' h=>?_,fun f=>?_,h5⟩
 ·obtain⟨hb,h⟩:=h
  cases hres:rdw 8192 8 1024 8192 l with
  |good v p k =>
   rw[hres] at h
   obtain⟨e1,e2⟩:=h3 v p k hres
   have h0:=h1 w e w' (by rw[hres];obtain⟨t,q1,q2,q3,q4⟩:=h;exact⟨hb,t,q1,q2,q3⟩)
   obtain⟨t,q1,q2,q3,q4⟩:=h
   obtain⟨-, s,r1,r2,r3⟩:=h0
   have hx:x=0:=by
    rw[q1] at r1;injection r1 with r1;injection r1 with r1;injection r1 with r1;injection r1 with _ r1;injection r1 with r1 _;injection r1 with _ r1;exact r1.symm
   subst hx e1 e2
   exact⟨hb,t,q1,q2,q3,q4⟩
  |bad p en =>
   rw[hres] at h
   obtain⟨e1,e2,e3⟩:=h4 p en hres
   subst e1 e2 e3
   exact⟨hb,.mk 0 0 (none,0,0,[]) none 0 [],h,rfl,ok_leaf (by decide) (nil_pc _),by rw[lies];exact⟨(fun ad e=>by cases e),(fun ad e=>by cases e),by rw[liess];trivial⟩⟩
 ·unfold bO
  cases hres:rdw 8192 8 1024 8192 l with
  |good v p k =>
   obtain⟨e1,e2⟩:=h3 v p k hres
   rw[if_pos e1,e2]
  |bad p en =>
   rw[if_neg (fun e=>by obtain⟨p',k',e'⟩:=h2 e;rw[hres] at e';cases e')]
set_option maxHeartbeats 4000000 in
theorem value_d{w:World}{r:Rw}(hr:Pc w r)(hr9:r.2.1≤800000)(hin:∀ad,r.1=some ad→ad.block < w.heap.size){x y:Int}{V:Nd}(hQ:∀w e w',RdQL (rdw 8192 8 1024 8192 r.2.2.2) w e w'→R3L x y V w e w'):Calls Tryz.prog 64 #[.slice r.1 r.2.1 r.2.2.1] w fun e w'=>Below w.heap.size w w'∧∃t:Tv,e=.returned (.tuple #[t.val,.bool (decide (y=0))])∧Wr.nd t=V∧Ok w' t:=by
 obtain⟨U,hU⟩:∃U,w.alloc nod0=U:=⟨_,rfl⟩
 have BU:=Lib.hid (show Below w.heap.size w U from by rw[←hU];exact below_one w _)
 have NR:=Lib.hid (show Bl U w.heap.size 75 #[.int .i64 0,.int .u64 0,.slice none 0 0,.slice none 0 0] from by rw[←hU];exact Bl.new_ w _ _)
 have SU:=Lib.hid (show U.heap.size=w.heap.size+1 from by rw[←hU];simp)
 have CR:=Lib.hid (fun u (hu:Below U.heap.size U u)=>show Calls _ _ #[_,lim 8192 8 1024 8192] u (R3L x y V u) from by
  have h:=RRead_lies (hr.below (BU.out.trans (hu.mono BU.out.size))) 8192 8 1024 8192 (by decide) (by omega) (fun ad e=>Nat.lt_of_lt_of_le (hin ad e) (Nat.le_trans BU.out.size hu.size))
  rw[show max (8192:Int) 0=8192 from rfl,show max (8:Int) 0=8 from rfl,show max (1024:Int) 0=1024 from rfl] at h
  exact h.mono (hQ u))
 clear hr hr9 hin hQ
 obtain⟨rA,rn,rc,rl⟩:=r
 simp only at CR ⊢
 go_enter Tryz.func64,Tryz.ntmps64
 go_upto_region 2 with(first
  |(go_at_call 76;(refine(rlimits_any _).mono ?_);rintro e1 w1 ⟨rfl,h1⟩;have B1:=Lib.hid h1;clear h1)
  |(go_at_call 90;(refine(CR.out _ B1.out).mono ?_);rintro e2 w2 ⟨h1,t,rfl,h2,h3,h4⟩;obtain⟨K,n,tr,tA,tc,tk⟩:=t;simp only[Tv.val,Tv.row];have B2:=Lib.hid (B1.out.trans (h1.mono B1.out.size));have N2:=Lib.hid h2;have O2:=Lib.hid h3;have L2:=Lib.hid (lies.mono (Qb:=fun k=>k≠w.heap.size) (fun k hk=>by have h5:=B1.out.size;have h6:=SU.out;omega) h4);clear h1 h2 h3 h4))
 obtain⟨P,hP⟩:∃P,tk.length=P:=⟨_,rfl⟩
 simp only[hP]
 have X2:=Lib.hid (below_one w2 (.cells #[.int .i64 K,.int .u64 (n:Int),.slice tr.1 tr.2.1 tr.2.2.1,.slice tA P tc] 75))
 have NV:=Lib.hid (Bl.new_ w2 75 #[.int .i64 K,.int .u64 (n:Int),.slice tr.1 tr.2.1 tr.2.2.1,.slice tA P tc])
 have B3:=Lib.hid (B2.out.trans (X2.out.mono B2.out.size))
 have O3:=Lib.hid (O2.out.keep X2.out)
 have N3:=Lib.hid (NR.out.below' B3.out)
 obtain⟨vb,hvb⟩:∃vb,w2.heap.size=vb:=⟨_,rfl⟩
 rw[hvb] at NV ⊢
 generalize w2.alloc (.cells #[.int .i64 K,.int .u64 (n:Int),.slice tr.1 tr.2.1 tr.2.2.1,.slice tA P tc] 75)=w3 at *
 clear X2 O2 hvb hU B2 B1 CR
 have v0:w3.cell? ⟨vb,0,none⟩=some (.int .i64 K):=NV.out.cell_ rfl
 have v1:w3.cell? ⟨vb,1,none⟩=some (.int .u64 (n:Int)):=NV.out.cell_ rfl
 have v2:w3.cell? ⟨vb,2,none⟩=some (.slice tr.1 tr.2.1 tr.2.2.1):=NV.out.cell_ rfl
 have v3:w3.cell? ⟨vb,3,none⟩=some (.slice tA P tc):=NV.out.cell_ rfl
 have d0:w3.cell? ⟨w.heap.size,0,none⟩=some (.int .i64 0):=N3.out.cell_ rfl
 have y0:=N3.out.frozen 0
 have d1:w3.cell? ⟨w.heap.size,1,none⟩=some (.int .u64 0):=N3.out.cell_ rfl
 have y1:=N3.out.frozen 1
 have d2:w3.cell? ⟨w.heap.size,2,none⟩=some (.slice none 0 0):=N3.out.cell_ rfl
 have y2:=N3.out.frozen 2
 have d3:w3.cell? ⟨w.heap.size,3,none⟩=some (.slice none 0 0):=N3.out.cell_ rfl
 have y3:=N3.out.frozen 3
 have HP:=Lib.hid hP
 clear hP
 go_wp2_with fail
 refine⟨rfl,_,results_c2 rfl _ _ _ ⟨w.heap.size,0,none⟩ _ _ (by kernel_rfl) rfl (run_loadVar_row _ w.heap.size 75 75 #[.int .i64 K,.int .u64 (n:Int),.slice tr.1 tr.2.1 tr.2.2.1,.slice tA P tc] (0,0) _ (st4_bl N3.out _ _ _ _) Tryz.underlying75 rfl size34),below_st4' (BU.out.trans (B3.out.mono BU.out.size)) (Nat.le_refl _) _ _ _ _,.mk K n tr tA tc tk,?_,N2.out,O3.out.kept L2.out (fun k hk _=>st4_keep _ _ _ _ _ hk)⟩
 rw[←HP.out]
 rfl
end Go.Proofs.YteblmphohhbgcaaGreat.Mt
namespace Go.Proofs.YteblmphohhbgcaaGreat.Mt
open Go.RowKit Go.Proofs.YteblmphohhbgcaaGreat.Gn Go.Proofs.YteblmphohhbgcaaGreat.Fd Go.Proofs.YteblmphohhbgcaaGreat.Wr Go.Deep
set_option maxRecDepth 100000
abbrev nd0:Nd:=.mk 0 0 [] []
def isL(V:Nd)(m:Nat):Bool:=decide (knd V=3) && decide ((ksd V).length=m)
def k_(V:Nd)(i:Nat):Nd:=(ksd V).getD i nd0
def TwQ(y:Int)(V:Nd)(m:Nat)(w:World)(e:Ending)(w':World):Prop :=
 Below w.heap.size w w'∧((y=0∧isL V m=true∧∃(A:Option Addr) (c:Nat) (us:List Tv),e=.returned (.tuple #[.int .i64 (nuV (k_ V 0):Int),.int .i64 (nuV (k_ V 1):Int),.slice A m c,.bool (nuB (k_ V 0) && nuB (k_ V 1))])∧nds us=ksd V∧Sl w' A (4*us.length) (flat us)∧(∀t∈us,Ok w' t))∨(¬(y=0∧isL V m=true)∧e=.returned (.tuple #[.int .i64 0,.int .i64 0,.slice none 0 0,.bool false])))
theorem el_cells{w:World}{A:Option Addr}{us:List Tv}(h:Sl w A (4*us.length) (flat us)){k:Nat}{K:Int}{n:Nat}{r:Rw}{B:Option Addr}{c:Nat}{ks:List Tv}(hk:us[k]?=some (.mk K n r B c ks)):∃ad,A=some ad∧w.cell? (ad.add (4*k))=some (.int .i64 K)∧w.cell? (ad.add (4*k+1))=some (.int .u64 (n:Int))∧w.cell? (ad.add (4*k+2))=some (.slice r.1 r.2.1 r.2.2.1)∧w.cell? (ad.add (4*k+3))=some (.slice B ks.length c):=by
 obtain⟨ad,e,h0⟩:=h.2 _ _ (flat_get us k 0 _ _ hk rfl)
 obtain⟨ad1,e1,h1⟩:=h.2 _ _ (flat_get us k 1 _ _ hk rfl)
 obtain⟨ad2,e2,h2⟩:=h.2 _ _ (flat_get us k 2 _ _ hk rfl)
 obtain⟨ad3,e3,h3⟩:=h.2 _ _ (flat_get us k 3 _ _ hk rfl)
 rw[e] at e1 e2 e3
 cases e1;cases e2;cases e3
 exact⟨ad,e,h0,h1,h2,h3⟩
theorem results_tmp4{fn:Func}{a b c d:Tmp}(h:fn.results = #[.tmp a,.tmp b,.tmp c,.tmp d])(tmps:Array Value)(P:Program)(w:World):(results fn tmps).run P w=.ok (.tuple #[tmps.getD a undef,tmps.getD b undef,tmps.getD c undef,tmps.getD d undef]) w:=by
 simp[results,h]
set_option maxHeartbeats 4000000 in
theorem two_d{w:World}{r:Rw}(hr:Pc w r)(hr9:r.2.1≤800000)(hin:∀ad,r.1=some ad→ad.block < w.heap.size){x y:Int}{V:Nd}(hQ:∀w e w',RdQL (rdw 8192 8 1024 8192 r.2.2.2) w e w'→R3L x y V w e w')(m:Nat)(hm:2≤m):Calls Tryz.prog 42 #[.slice r.1 r.2.1 r.2.2.1,.int .i64 (m:Int)] w (TwQ y V m w):=by
 have CV:=Lib.hid (value_d hr hr9 hin hQ)
 have HM:=Lib.hid hm
 clear hr hr9 hin hQ hm
 obtain⟨rA,rn,rc,rl⟩:=r
 simp only at CV ⊢
 go_enter Tryz.func42,Tryz.ntmps42
 go_upto_region 2 with(go_at_call 64;(refine CV.out.mono ?_);rintro e1 w1 ⟨h1,t,rfl,h2,h3⟩;obtain⟨K,n,tr,tA,tc,tk⟩:=t;simp only[Tv.val,Tv.row];have B1:=Lib.hid h1;have N1:=Lib.hid h2;have O1:=Lib.hid h3;clear h1 h2 h3)
 have XO:=Lib.hid (below_one w1 (.cells #[.int .i64 K,.int .u64 (n:Int),.slice tr.1 tr.2.1 tr.2.2.1,.slice tA tk.length tc] 75))
 have NV:=Lib.hid (Bl.new_ w1 75 #[.int .i64 K,.int .u64 (n:Int),.slice tr.1 tr.2.1 tr.2.2.1,.slice tA tk.length tc])
 have B2:=Lib.hid (B1.out.trans (XO.out.mono B1.out.size))
 have O2:=Lib.hid (O1.out.keep XO.out)
 obtain⟨vb,hvb⟩:∃vb,w1.heap.size=vb:=⟨_,rfl⟩
 rw[hvb] at NV ⊢
 generalize w1.alloc (.cells #[.int .i64 K,.int .u64 (n:Int),.slice tr.1 tr.2.1 tr.2.2.1,.slice tA tk.length tc] 75)=w2 at *
 clear XO O1 B1 CV hvb
 have v0:w2.cell? ⟨vb,0,none⟩=some (.int .i64 K):=NV.out.cell_ rfl
 have v1:w2.cell? ⟨vb,1,none⟩=some (.int .u64 (n:Int)):=NV.out.cell_ rfl
 have v2:w2.cell? ⟨vb,2,none⟩=some (.slice tr.1 tr.2.1 tr.2.2.1):=NV.out.cell_ rfl
 have v3:w2.cell? ⟨vb,3,none⟩=some (.slice tA tk.length tc):=NV.out.cell_ rfl
 have KV:=Lib.hid (show K=knd V from by rw[←N1.out];exact kd_nd (.mk K n tr tA tc tk))
 have TK:=Lib.hid (show nds tk=ksd V from by rw[←N1.out];exact ks_nd (.mk K n tr tA tc tk))
 have LK:=Lib.hid (show tk.length=(ksd V).length from by rw[←TK.out,nds_len])
 have CO:=Lib.hid (fun u=>open_d K n tr tA tc tk m u)
 obtain⟨b1,hb1⟩:∃b,decide (y=0)=b:=⟨_,rfl⟩
 obtain⟨b2,hb2⟩:∃b,(decide (K=3) && decide (tk.length=m))=b:=⟨_,rfl⟩
 have E2:=Lib.hid (show isL V m=b2 from by unfold isL;rw[←KV.out,←LK.out];exact hb2)
 rw[hb2] at CO
 simp only[Tv.val,Tv.row] at CO
 rw[hb1]
 have E1:=Lib.hid hb1
 have EL:=Lib.hid hb2
 clear hb1 hb2
 obtain⟨P,hP⟩:∃P,tk.length=P:=⟨_,rfl⟩
 rw[hP] at CO v3
 have HP:=Lib.hid hP
 clear hP
 cases b1 with
 |false =>
  go_wp2_with (go_at_call 43;(refine(CO.out _).mono ?_);rintro e3 w3 ⟨rfl,h1⟩;have B3:=Lib.hid (B2.out.trans (h1.mono B2.out.size));clear h1)
  refine bodyPost_ret (results_tmp4 rfl _ _ _) rfl ?_
  exact⟨B3.out,.inr ⟨fun h=>of_decide_eq_false E1.out h.1,rfl⟩⟩
 |true =>
  cases b2 with
  |false =>
   go_wp2_with (go_at_call 43;(refine(CO.out _).mono ?_);rintro e3 w3 ⟨rfl,h1⟩;have B3:=Lib.hid (B2.out.trans (h1.mono B2.out.size));clear h1)
   refine bodyPost_ret (results_tmp4 rfl _ _ _) rfl ?_
   exact⟨B3.out,.inr ⟨fun h=>by rw[E2.out] at h;exact absurd h.2 (by decide),rfl⟩⟩
  |true =>
   have PM:P=m:=by
    have h:=EL.out
    rw[Bool.and_eq_true,decide_eq_true_eq,decide_eq_true_eq] at h
    rw[←HP.out];exact h.2
   subst PM
   obtain⟨a,b,rest,rfl⟩:∃a b rest,tk=a :: b :: rest:=by
    cases tk with
    |nil=>have:=HP.out;have:=HM.out;simp at *;omega
    |cons a t=>cases t with
     |nil=>have:=HP.out;have:=HM.out;simp at *;omega
     |cons b rest=>exact⟨a,b,rest,rfl⟩
   obtain⟨Ka,na,ra,Aa,ca,ka⟩:=a
   obtain⟨Kb,nb,rb,Ab,cb_,kb⟩:=b
   go_upto_region 5 with(go_at_call 43;(refine(CO.out _).mono ?_);rintro e3 w3 ⟨rfl,h1⟩;have B3:=Lib.hid (B2.out.trans (h1.mono B2.out.size));have O3:=Lib.hid (O2.out.keep h1);clear h1)
   have EL3:=Lib.hid (el_cells (us:=.mk Ka na ra Aa ca ka :: .mk Kb nb rb Ab cb_ kb :: rest) (show Sl w3 tA (4*_) _ from by cases O3.out with|mk h1 h2 h3 h4 h5 h6 h7=>exact h3) (k:=0) rfl)
   have EL4:=Lib.hid (el_cells (us:=.mk Ka na ra Aa ca ka :: .mk Kb nb rb Ab cb_ kb :: rest) (show Sl w3 tA (4*_) _ from by cases O3.out with|mk h1 h2 h3 h4 h5 h6 h7=>exact h3) (k:=1) rfl)
   obtain⟨ad,rfl,a0,a1,a2,a3⟩:=EL3.out
   obtain⟨ad',e',c0,c1,c2,c3⟩:=EL4.out
   cases e'
   clear EL3 EL4
   rw[show 4*0=0 from rfl,ad_zero] at a0
   rw[show 4*0+1=1 from rfl,ad_pos _ (by decide)] at a1
   rw[show 4*0+2=2 from rfl,ad_pos _ (by decide)] at a2
   rw[show 4*0+3=3 from rfl,ad_pos _ (by decide)] at a3
   rw[show 4*1=4 from rfl,ad_pos _ (by decide)] at c0
   rw[show 4*1+1=5 from rfl,ad_pos _ (by decide)] at c1
   rw[show 4*1+2=6 from rfl,ad_pos _ (by decide)] at c2
   rw[show 4*1+3=7 from rfl,ad_pos _ (by decide)] at c3
   have q0:(0:Int) < (P:Int):=by have:=HM.out;omega
   have q1:(1:Int) < (P:Int):=by have:=HM.out;omega
   have SL3:=Lib.hid (show Sl w3 (some ad) (4*_) (flat (.mk Ka na ra Aa ca ka :: .mk Kb nb rb Ab cb_ kb :: rest)) from by cases O3.out with|mk h1 h2 h3 h4 h5 h6 h7=>exact h3)
   have KK3:=Lib.hid (kids_ok O3.out)
   go_upto_region 6 with(go_at_call 53;(refine(number_d (.mk Ka na ra Aa ca ka) _).mono ?_);rintro e4 w4 ⟨rfl,h1⟩;have B4:=Lib.hid h1;clear h1)
   clear a0 a1 a2 a3 c0 c1 c2 c3
   obtain⟨ad',e',c0,c1,c2,c3⟩:=el_cells (us:=.mk Ka na ra Aa ca ka :: .mk Kb nb rb Ab cb_ kb :: rest) (SL3.out.below B4.out) (k:=1) rfl
   cases e'
   rw[show 4*1=4 from rfl,ad_pos _ (by decide)] at c0
   rw[show 4*1+1=5 from rfl,ad_pos _ (by decide)] at c1
   rw[show 4*1+2=6 from rfl,ad_pos _ (by decide)] at c2
   rw[show 4*1+3=7 from rfl,ad_pos _ (by decide)] at c3
   obtain⟨n0,hn0⟩:∃n0,nuB (Wr.nd (.mk Ka na ra Aa ca ka))=n0:=⟨_,rfl⟩
   obtain⟨n1,hn1⟩:∃n1,nuB (Wr.nd (.mk Kb nb rb Ab cb_ kb))=n1:=⟨_,rfl⟩
   have CB:=Lib.hid (fun u=>number_d (.mk Kb nb rb Ab cb_ kb) u)
   rw[hn1] at CB
   rw[hn0]
   simp only[Tv.val,Tv.row] at CB
   have K0:=Lib.hid (show Wr.nd (.mk Ka na ra Aa ca ka)=k_ V 0 from by unfold k_;rw[←TK.out,nds_map];rfl)
   have K1:=Lib.hid (show Wr.nd (.mk Kb nb rb Ab cb_ kb)=k_ V 1 from by unfold k_;rw[←TK.out,nds_map];rfl)
   have F0:=Lib.hid hn0
   have F1:=Lib.hid hn1
   clear hn0 hn1
   cases n0 <;>
   ·go_wp2_with (go_at_call 53;(refine(CB.out _).mono ?_);rintro e5 w5 ⟨rfl,h1⟩;have B5:=Lib.hid (B4.out.trans (h1.mono B4.out.size));clear h1)
    refine bodyPost_ret (results_tmp4 rfl _ _ _) rfl ?_
    refine⟨B3.out.trans (B5.out.mono B3.out.size),.inl ⟨of_decide_eq_true E1.out,E2.out,some ad,tc,_,?_,TK.out,SL3.out.below B5.out,fun t ht=>(KK3.out t ht).keep B5.out⟩⟩
    rw[←K0.out,←K1.out,F0.out,F1.out]
    first|rfl|(cases n1 <;> rfl)
end Go.Proofs.YteblmphohhbgcaaGreat.Mt
