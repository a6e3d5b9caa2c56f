/- Joined texts. -/
import Derived.Deep.LoopGhost
import Derived.Test.YteblmphohhbgcaaGreatQmWrDvalB
import Derived.Test.YteblmphohhbgcaaGreatQmWrGo
set_option linter.unusedVariables false
namespace Go.Proofs.YteblmphohhbgcaaGreat.Wr
open Go.RowKit Go.Proofs.YteblmphohhbgcaaGreat.Gn Go.Proofs.YteblmphohhbgcaaGreat.Fd Go.Deep
def DgQ(v:Nd)(p':Nat)(w:World)(g:Nat)(a b c d k':Int)(r:Rw)(e:Ending)(w':World):Prop :=
 w.grownBy w' (some g)∧∃t,e=.returned t.val∧nd t=v∧Ok w' t∧lies (fun k=>w.heap.size≤k) t∧Di w' g a b c d k' r p' 0 0
theorem dfin{w w4:World}{g:Nat}{a b c d k:Int}{r:Rw}{p:Nat}{t:Tv}{v:Nd}{v0 v1 v2 v3:Value}(ht:t.row=[v0,v1,v2,v3])(hv:nd t=v)(hp:Pc w r)(G4:w.grownBy w4 (some g))(R4:Di w4 g a b c d k r p 0 0)(O4:Ok w4 t)(L4:lies (fun k=>w.heap.size < k) t)(glt:g < w.heap.size) :
  DgQ v p w g a b c d k r (.returned (.agg #[v0,v1,v2,v3])) (st4 w4 w.heap.size v0 v1 v2 v3) :=
 ⟨st4_only G4 (Nat.le_refl _) _ _ _ _,t,by rw[Tv.val,ht],hv,O4.kept (lies.lt O4 L4) (fun k hk _=>st4_keep w4 _ _ _ _ (by omega)),lies.mono (fun k h=>Nat.le_of_lt h) L4,st4_di R4 (by omega) (fun ad e hn=>by have:=pc_lt hp ad e hn;omega) _ _ _ _⟩
theorem set_di{a:World}{g:Nat}{x b c d k:Int}{r:Rw}{p:Nat}{E B:Int}(h:Di a g x b c d k r p E B){q:Nat}(hq:g≠q)(ha:∀ad,r.1=some ad→0 < r.2.2.2.length→ad.block≠q)(o:Nat)(v:Value):Di (a.setCell ⟨q,o,none⟩ v) g x b c d k r p E B :=
 ⟨h.row.other (p:=⟨q,o,none⟩) hq v,⟨h.pc.len,Sl.kept h.pc.row (fun ad e hn _=>Below.heap_setCell a ⟨q,o,none⟩ v _ (ha ad e hn)),h.pc.lt,h.pc.cap,h.pc.nil⟩,h.le,h.apart⟩
theorem pc_set{a:World}{r:Rw}(h:Pc a r){q:Nat}(ha:∀ad,r.1=some ad→0 < r.2.2.2.length→ad.block≠q)(o:Nat)(v:Value):Pc (a.setCell ⟨q,o,none⟩ v) r :=
 ⟨h.len,Sl.kept h.row (fun ad e hn _=>Below.heap_setCell a ⟨q,o,none⟩ v _ (ha ad e hn)),h.lt,h.cap,h.nil⟩
set_option maxHeartbeats 4000000 in
set_option maxRecDepth 100000 in
theorem dval_num{w:World}{g:Nat}{a b c d zb zc zd k:Int}{r:Rw}{p:Nat}(h:Di w g a b c d k r p 0 0)(hzb:max b 0=zb)(hzc:max c 0=zc)(hzd:max d 0=zd)(deep:Int)(hp:¬p=r.2.2.2.length)(hd:¬zb < deep)(hk:k < zc)(k0:0≤k)(k1:k≤1000000)(hl9:r.2.1≤1000000)(hx:r.2.2.2[p]?=some 1){n m:Nat}(hr:rcl (r.2.2.2.drop (p+1))=(n,m,0))(hn:n < 18446744073709551616) :
  Calls Tryz.prog 115 #[.pointer (some ⟨g,0,none⟩),.int .i64 deep] w (DgQ (.mk 1 n [] []) (p+1+m) w g a b c d (k+1) r):=by
 obtain⟨A,L,cp,l⟩:=r
 have hL:L=l.length:=h.pc.len
 have hple:p≤l.length:=h.le
 have A0:=Lib.hid (below_one w nod0)
 have H0:=Lib.hid (h.below A0.out)
 have N0:=Lib.hid (Bl.new_ w 75 #[.int .i64 0,.int .u64 0,.slice none 0 0,.slice none 0 0])
 have c0:(w.alloc nod0).cell? ⟨g,0,none⟩=some (.slice A L cp):=H0.out.row.cell_ rfl
 have c1:(w.alloc nod0).cell? ⟨g,1,none⟩=some (.int .i64 (p:Int)):=H0.out.row.cell_ rfl
 have c2:(w.alloc nod0).cell? ⟨g,2,none⟩=some (.int .i64 k):=H0.out.row.cell_ rfl
 have c4:(w.alloc nod0).cell? ⟨g,4,none⟩=some (.int .i64 b):=H0.out.row.cell_ rfl
 have c5:(w.alloc nod0).cell? ⟨g,5,none⟩=some (.int .i64 c):=H0.out.row.cell_ rfl
 have c6:(w.alloc nod0).cell? ⟨g,6,none⟩=some (.int .i64 d):=H0.out.row.cell_ rfl
 have c7:(w.alloc nod0).cell? ⟨g,7,none⟩=some (.int .i64 0):=H0.out.row.cell_ rfl
 have CZb:=Lib.hid (fun u=>show Calls _ _ #[.int .i64 b] u (fun e w'=>e=.returned (.int .i64 zb)∧u=w') from hzb▸zero_any b u)
 have CZc:=Lib.hid (fun u=>show Calls _ _ #[.int .i64 c] u (fun e w'=>e=.returned (.int .i64 zc)∧u=w') from hzc▸zero_any c u)
 have CZd:=Lib.hid (fun u=>show Calls _ _ #[.int .i64 d] u (fun e w'=>e=.returned (.int .i64 zd)∧u=w') from hzd▸zero_any d u)
 have glt:g < w.heap.size:=h.row.lt
 have HP:=Lib.hid h.pc
 have HL:=Lib.hid hL
 clear h hzb hzc hzd
 have hpl:p < L:=by have:¬p=l.length:=hp;omega
 clear hp hL
 have QZc:=Lib.hid (fun u=>show Calls _ _ #[.int .i64 c] u (fun e w'=>e=.returned (.int .i64 zc)∧w'=u) from(CZc.out u).mono fun e w' hh=>⟨hh.1,hh.2.symm⟩)
 obtain⟨ad,rfl,hc0,-, hx8⟩:=pc_at H0.out.pc hx
 have hc:(w.alloc nod0).cell? (ad.add p)=some (.int .u8 1):=hc0
 have fg2:=H0.out.row.frozen 2
 have fg1:=H0.out.row.frozen 1
 have lad:ad.block < (w.alloc nod0).heap.size:=by have:=cell_lt hc0;rwa [add_block] at this
 have apg:ad.block≠g:=H0.out.apart ad rfl
 have hx9:=Lib.hid hx
 clear hc0 hx
 go_enter Tryz.func115,Tryz.ntmps115
 go_wp2_with (go_at_call 107;(first|(with_reducible refine(CZb.out _).mono ?_)|(with_reducible refine(CZc.out _).mono ?_)|(with_reducible refine(CZd.out _).mono ?_));rintro e w1 ⟨rfl,rfl⟩)
 go_quiet ((go_at_call 107;exact Calls.quiet_of_same (QZc.out _)))
 go_upto_region 13 with fail
 have D1:=Lib.hid (show Di (((w.alloc nod0).drewN nq).setCell ⟨g,2,none⟩ (.int .i64 (k+1))) g a b c d (k+1) (some ad,L,cp,l) p 0 0 from⟨(H0.out.row.drewN nq).set_ 2 _,rt_pc (H0.out.pc.below (below_drewN (Below.refl _ _) nq)) H0.out.apart _,H0.out.le,H0.out.apart⟩)
 have G1:=Lib.hid (show w.grownBy (((w.alloc nod0).drewN nq).setCell ⟨g,2,none⟩ (.int .i64 (k+1))) (some g) from only_set (only_drewN (only_below A0.out (some g)) nq) (p:=⟨g,2,none⟩) (Or.inl rfl) _)
 have N1:=Lib.hid (show Bl (((w.alloc nod0).drewN nq).setCell ⟨g,2,none⟩ (.int .i64 (k+1))) w.heap.size 75 #[.int .i64 0,.int .u64 0,.slice none 0 0,.slice none 0 0] from(N0.out.drewN nq).other (p:=⟨g,2,none⟩) (by show w.heap.size≠g;omega) _)
 have S1:=Lib.hid (show(((w.alloc nod0).drewN nq).setCell ⟨g,2,none⟩ (.int .i64 (k+1))).heap.size=w.heap.size+1 from by rw[setc_size];show(w.alloc nod0).heap.size=_;simp)
 have hc1:(((w.alloc nod0).drewN nq).setCell ⟨g,2,none⟩ (.int .i64 (k+1))).cell? (ad.add p)=some (.int .u8 1):=by
  obtain⟨ad',e',h1,-, -⟩:=pc_at D1.out.pc hx9.out
  cases e';exact h1
 clear hc c0 c1 c2 c4 c5 c6 c7 fg1 fg2 N0 H0 A0 QZc
 generalize(((w.alloc nod0).drewN nq).setCell ⟨g,2,none⟩ (.int .i64 (k+1)))=w1 at *
 have c0:w1.cell? ⟨g,0,none⟩=some (.slice (some ad) L cp):=D1.out.row.cell_ rfl
 have c1:w1.cell? ⟨g,1,none⟩=some (.int .i64 (p:Int)):=D1.out.row.cell_ rfl
 have fg1:=D1.out.row.frozen 1
 have lg1:g < w1.heap.size:=D1.out.row.lt
 go_upto_region 16 with fail
 have D2:=Lib.hid (show Di ((w1.setCell ⟨g,1,none⟩ (.int .i64 ((p:Int)+1))).alloc (.cells #[.int .i64 1,.int .u64 0,.slice none 0 0,.slice none 0 0] 75)) g a b c d (k+1) (some ad,L,cp,l) (p+1) 0 0 from Di.below ⟨D1.out.row.set_ 1 _,rt_pc D1.out.pc D1.out.apart _,by have:=HL.out;show p+1≤l.length;omega,D1.out.apart⟩ (below_one _ _))
 have G2:=Lib.hid (show w.grownBy ((w1.setCell ⟨g,1,none⟩ (.int .i64 ((p:Int)+1))).alloc (.cells #[.int .i64 1,.int .u64 0,.slice none 0 0,.slice none 0 0] 75)) (some g) from only_alloc (only_set G1.out (p:=⟨g,1,none⟩) (Or.inl rfl) _) _)
 have N2:=Lib.hid (show Bl ((w1.setCell ⟨g,1,none⟩ (.int .i64 ((p:Int)+1))).alloc (.cells #[.int .i64 1,.int .u64 0,.slice none 0 0,.slice none 0 0] 75)) w.heap.size 75 #[.int .i64 0,.int .u64 0,.slice none 0 0,.slice none 0 0] from(N1.out.other (p:=⟨g,1,none⟩) (by show w.heap.size≠g;omega) _).alloc _)
 have T2:=Lib.hid (show Bl ((w1.setCell ⟨g,1,none⟩ (.int .i64 ((p:Int)+1))).alloc (.cells #[.int .i64 1,.int .u64 0,.slice none 0 0,.slice none 0 0] 75)) (w.heap.size+1) 75 #[.int .i64 1,.int .u64 0,.slice none 0 0,.slice none 0 0] from Bl.new' _ _ (by rw[setc_size];exact S1.out))
 rw[S1.out]
 clear c0 c1 fg1 lg1 hc1 N1 G1 D1
 generalize((w1.setCell ⟨g,1,none⟩ (.int .i64 ((p:Int)+1))).alloc (.cells #[.int .i64 1,.int .u64 0,.slice none 0 0,.slice none 0 0] 75))=w2 at *
 clear S1
 clear w1
 have CT:=Lib.hid (dcount_ok D2.out (by show L≤1000000000;have:L≤1000000:=hl9;omega) hr)
 have HN9:=Lib.hid hn
 clear hr hl9 hn
 go_wp2_with (go_at_call 131;(refine CT.out.mono ?_);rintro e w4 ⟨rfl,h1,h2⟩;have D4:=Lib.hid h1;have G4:=Lib.hid h2;have N4:=Lib.hid (show Bl w4 w.heap.size 75 _ from N2.out.grown h2 (by intro e;injection e with e;omega));have T4:=Lib.hid (show Bl w4 (w.heap.size+1) 75 _ from T2.out.grown h2 (by intro e;injection e with e;omega));have e7:w4.cell? ⟨g,7,none⟩=some (.int .i64 0):=h1.row.cell_ rfl;have y0:w4.cell? ⟨w.heap.size,0,none⟩=some (.int .i64 0):=N4.out.cell_ rfl;have f0:=N4.out.frozen 0;have y1:w4.cell? ⟨w.heap.size,1,none⟩=some (.int .u64 0):=N4.out.cell_ rfl;have f1:=N4.out.frozen 1;have y2:w4.cell? ⟨w.heap.size,2,none⟩=some (.slice none 0 0):=N4.out.cell_ rfl;have f2:=N4.out.frozen 2;have y3:w4.cell? ⟨w.heap.size,3,none⟩=some (.slice none 0 0):=N4.out.cell_ rfl;have f3:=N4.out.frozen 3;have x0:w4.cell? ⟨w.heap.size+1,0,none⟩=some (.int .i64 1):=T4.out.cell_ rfl;have g0:=T4.out.frozen 0;have x1:w4.cell? ⟨w.heap.size+1,1,none⟩=some (.int .u64 0):=T4.out.cell_ rfl;have g1:=T4.out.frozen 1;have x2:w4.cell? ⟨w.heap.size+1,2,none⟩=some (.slice none 0 0):=T4.out.cell_ rfl;have g2:=T4.out.frozen 2;have x3:w4.cell? ⟨w.heap.size+1,3,none⟩=some (.slice none 0 0):=T4.out.cell_ rfl;have g3:=T4.out.frozen 3;have LT4:=Lib.hid (show w.heap.size+1 < w4.heap.size from T4.out.lt);clear h1 h2)
 have PX:=Lib.hid (show ∀q,w.heap.size≤q→∀ad_,(some ad:Option Addr)=some ad_→0 < l.length→ad_.block≠q from fun q hq ad_ e hn=>by have:=pc_lt HP.out ad_ e hn;omega)
 have N5:=Lib.hid (show Bl (w4.setCell ⟨w.heap.size+1,1,none⟩ (.int .u64 (n:Int))) w.heap.size 75 _ from N4.out.other (p:=⟨w.heap.size+1,1,none⟩) (by show w.heap.size≠w.heap.size+1;omega) _)
 have HL4:=Lib.hid (st4_bl N5.out (.int .i64 1) (.int .u64 (n:Int)) (.slice none 0 0) (.slice none 0 0))
 exact⟨rfl,_,results_c rfl _ _ _ ⟨w.heap.size,0,none⟩ _ (by kernel_rfl) (run_loadVar_row _ w.heap.size 75 75 _ (0,0) _ HL4.out Tryz.underlying75 rfl size34),dfin (t:=.mk 1 n (none,0,0,[]) none 0 []) rfl rfl HP.out (only_set (only_trans G2.out G4.out) (p:=⟨w.heap.size+1,1,none⟩) (Or.inr (Nat.le_succ _)) _) (set_di D4.out (by omega) (PX.out _ (Nat.le_succ _)) 1 _) (ok_leaf HN9.out (nil_pc _)) (by rw[lies];exact⟨fun ad e=>(by cases e),fun ad e=>(by cases e),by rw[liess];trivial⟩) glt⟩
set_option maxHeartbeats 4000000 in
set_option maxRecDepth 100000 in
theorem dval_long{w:World}{g:Nat}{a b c d zb zc zd k:Int}{r:Rw}{p:Nat}(h:Di w g a b c d k r p 0 0)(hzb:max b 0=zb)(hzc:max c 0=zc)(hzd:max d 0=zd)(deep:Int)(hp:¬p=r.2.2.2.length)(hd:¬zb < deep)(hk:k < zc)(k0:0≤k)(k1:k≤1000000)(hl9:r.2.1≤1000000)(hx:r.2.2.2[p]?=some 2){n m:Nat}(hr:rcl (r.2.2.2.drop (p+1))=(n,m,0))(d1:zd≤9223372036854775807)(d0:0≤zd)(hn:zd < (n:Int)) :
  Calls Tryz.prog 115 #[.pointer (some ⟨g,0,none⟩),.int .i64 deep] w (DbQ (p+1) 2 w g a b c d r):=by
 obtain⟨A,L,cp,l⟩:=r
 have hL:L=l.length:=h.pc.len
 have hple:p≤l.length:=h.le
 have A0:=Lib.hid (below_one w nod0)
 have H0:=Lib.hid (h.below A0.out)
 have N0:=Lib.hid (Bl.new_ w 75 #[.int .i64 0,.int .u64 0,.slice none 0 0,.slice none 0 0])
 have c0:(w.alloc nod0).cell? ⟨g,0,none⟩=some (.slice A L cp):=H0.out.row.cell_ rfl
 have c1:(w.alloc nod0).cell? ⟨g,1,none⟩=some (.int .i64 (p:Int)):=H0.out.row.cell_ rfl
 have c2:(w.alloc nod0).cell? ⟨g,2,none⟩=some (.int .i64 k):=H0.out.row.cell_ rfl
 have c4:(w.alloc nod0).cell? ⟨g,4,none⟩=some (.int .i64 b):=H0.out.row.cell_ rfl
 have c5:(w.alloc nod0).cell? ⟨g,5,none⟩=some (.int .i64 c):=H0.out.row.cell_ rfl
 have c6:(w.alloc nod0).cell? ⟨g,6,none⟩=some (.int .i64 d):=H0.out.row.cell_ rfl
 have c7:(w.alloc nod0).cell? ⟨g,7,none⟩=some (.int .i64 0):=H0.out.row.cell_ rfl
 have CZb:=Lib.hid (fun u=>show Calls _ _ #[.int .i64 b] u (fun e w'=>e=.returned (.int .i64 zb)∧u=w') from hzb▸zero_any b u)
 have CZc:=Lib.hid (fun u=>show Calls _ _ #[.int .i64 c] u (fun e w'=>e=.returned (.int .i64 zc)∧u=w') from hzc▸zero_any c u)
 have CZd:=Lib.hid (fun u=>show Calls _ _ #[.int .i64 d] u (fun e w'=>e=.returned (.int .i64 zd)∧u=w') from hzd▸zero_any d u)
 have glt:g < w.heap.size:=h.row.lt
 have HP:=Lib.hid h.pc
 have HL:=Lib.hid hL
 clear h hzb hzc hzd
 have hpl:p < L:=by have:¬p=l.length:=hp;omega
 clear hp hL
 have QZc:=Lib.hid (fun u=>show Calls _ _ #[.int .i64 c] u (fun e w'=>e=.returned (.int .i64 zc)∧w'=u) from(CZc.out u).mono fun e w' hh=>⟨hh.1,hh.2.symm⟩)
 obtain⟨ad,rfl,hc0,-, hx8⟩:=pc_at H0.out.pc hx
 have hc:(w.alloc nod0).cell? (ad.add p)=some (.int .u8 2):=hc0
 have fg2:=H0.out.row.frozen 2
 have fg1:=H0.out.row.frozen 1
 have lad:ad.block < (w.alloc nod0).heap.size:=by have:=cell_lt hc0;rwa [add_block] at this
 have apg:ad.block≠g:=H0.out.apart ad rfl
 have hx9:=Lib.hid hx
 clear hc0 hx
 go_enter Tryz.func115,Tryz.ntmps115
 go_wp2_with (go_at_call 107;(first|(with_reducible refine(CZb.out _).mono ?_)|(with_reducible refine(CZc.out _).mono ?_)|(with_reducible refine(CZd.out _).mono ?_));rintro e w1 ⟨rfl,rfl⟩)
 go_quiet ((go_at_call 107;exact Calls.quiet_of_same (QZc.out _)))
 go_upto_region 13 with fail
 have D1:=Lib.hid (show Di (((w.alloc nod0).drewN nq).setCell ⟨g,2,none⟩ (.int .i64 (k+1))) g a b c d (k+1) (some ad,L,cp,l) p 0 0 from⟨(H0.out.row.drewN nq).set_ 2 _,rt_pc (H0.out.pc.below (below_drewN (Below.refl _ _) nq)) H0.out.apart _,H0.out.le,H0.out.apart⟩)
 have G1:=Lib.hid (show w.grownBy (((w.alloc nod0).drewN nq).setCell ⟨g,2,none⟩ (.int .i64 (k+1))) (some g) from only_set (only_drewN (only_below A0.out (some g)) nq) (p:=⟨g,2,none⟩) (Or.inl rfl) _)
 have N1:=Lib.hid (show Bl (((w.alloc nod0).drewN nq).setCell ⟨g,2,none⟩ (.int .i64 (k+1))) w.heap.size 75 #[.int .i64 0,.int .u64 0,.slice none 0 0,.slice none 0 0] from(N0.out.drewN nq).other (p:=⟨g,2,none⟩) (by show w.heap.size≠g;omega) _)
 have S1:=Lib.hid (show(((w.alloc nod0).drewN nq).setCell ⟨g,2,none⟩ (.int .i64 (k+1))).heap.size=w.heap.size+1 from by rw[setc_size];show(w.alloc nod0).heap.size=_;simp)
 have hc1:(((w.alloc nod0).drewN nq).setCell ⟨g,2,none⟩ (.int .i64 (k+1))).cell? (ad.add p)=some (.int .u8 2):=by
  obtain⟨ad',e',h1,-, -⟩:=pc_at D1.out.pc hx9.out
  cases e';exact h1
 clear hc c0 c1 c2 c4 c5 c6 c7 fg1 fg2 N0 H0 A0 QZc
 generalize(((w.alloc nod0).drewN nq).setCell ⟨g,2,none⟩ (.int .i64 (k+1)))=w1 at *
 have c0:w1.cell? ⟨g,0,none⟩=some (.slice (some ad) L cp):=D1.out.row.cell_ rfl
 have c1:w1.cell? ⟨g,1,none⟩=some (.int .i64 (p:Int)):=D1.out.row.cell_ rfl
 have fg1:=D1.out.row.frozen 1
 have lg1:g < w1.heap.size:=D1.out.row.lt
 go_upto_region 16 with fail
 have D2:=Lib.hid (show Di ((w1.setCell ⟨g,1,none⟩ (.int .i64 ((p:Int)+1))).alloc (.cells #[.int .i64 2,.int .u64 0,.slice none 0 0,.slice none 0 0] 75)) g a b c d (k+1) (some ad,L,cp,l) (p+1) 0 0 from Di.below ⟨D1.out.row.set_ 1 _,rt_pc D1.out.pc D1.out.apart _,by have:=HL.out;show p+1≤l.length;omega,D1.out.apart⟩ (below_one _ _))
 have G2:=Lib.hid (show w.grownBy ((w1.setCell ⟨g,1,none⟩ (.int .i64 ((p:Int)+1))).alloc (.cells #[.int .i64 2,.int .u64 0,.slice none 0 0,.slice none 0 0] 75)) (some g) from only_alloc (only_set G1.out (p:=⟨g,1,none⟩) (Or.inl rfl) _) _)
 have N2:=Lib.hid (show Bl ((w1.setCell ⟨g,1,none⟩ (.int .i64 ((p:Int)+1))).alloc (.cells #[.int .i64 2,.int .u64 0,.slice none 0 0,.slice none 0 0] 75)) w.heap.size 75 #[.int .i64 0,.int .u64 0,.slice none 0 0,.slice none 0 0] from(N1.out.other (p:=⟨g,1,none⟩) (by show w.heap.size≠g;omega) _).alloc _)
 have T2:=Lib.hid (show Bl ((w1.setCell ⟨g,1,none⟩ (.int .i64 ((p:Int)+1))).alloc (.cells #[.int .i64 2,.int .u64 0,.slice none 0 0,.slice none 0 0] 75)) (w.heap.size+1) 75 #[.int .i64 2,.int .u64 0,.slice none 0 0,.slice none 0 0] from Bl.new' _ _ (by rw[setc_size];exact S1.out))
 rw[S1.out]
 clear c0 c1 fg1 lg1 hc1 N1 G1 D1
 generalize((w1.setCell ⟨g,1,none⟩ (.int .i64 ((p:Int)+1))).alloc (.cells #[.int .i64 2,.int .u64 0,.slice none 0 0,.slice none 0 0] 75))=w2 at *
 clear S1
 clear w1
 have CT:=Lib.hid (dcount_ok D2.out (by show L≤1000000000;have:L≤1000000:=hl9;omega) hr)
 have CF:=Lib.hid (fun(u:World) (hu:Di u g a b c d (k+1) (some ad,L,cp,l) (p+1+m) 0 0)=>fail_any hu ((p+1:Nat):Int) 2 (by decide))
 have zw:IntKind.u64.wrap zd=zd:=by simp only[IntKind.wrap_u64];omega
 clear hr hl9 d0 d1
 go_wp2_with (first|(go_at_call 131;(refine CT.out.mono ?_);rintro e w4 ⟨rfl,h1,h2⟩;have D4:=Lib.hid h1;have G4:=Lib.hid h2;have N4:=Lib.hid (show Bl w4 w.heap.size 75 _ from N2.out.grown h2 (by intro e;injection e with e;omega));have T4:=Lib.hid (show Bl w4 (w.heap.size+1) 75 _ from T2.out.grown h2 (by intro e;injection e with e;omega));have e7:w4.cell? ⟨g,7,none⟩=some (.int .i64 0):=h1.row.cell_ rfl;have y0:w4.cell? ⟨w.heap.size,0,none⟩=some (.int .i64 0):=N4.out.cell_ rfl;have f0:=N4.out.frozen 0;have y1:w4.cell? ⟨w.heap.size,1,none⟩=some (.int .u64 0):=N4.out.cell_ rfl;have f1:=N4.out.frozen 1;have y2:w4.cell? ⟨w.heap.size,2,none⟩=some (.slice none 0 0):=N4.out.cell_ rfl;have f2:=N4.out.frozen 2;have y3:w4.cell? ⟨w.heap.size,3,none⟩=some (.slice none 0 0):=N4.out.cell_ rfl;have f3:=N4.out.frozen 3;have x0:w4.cell? ⟨w.heap.size+1,0,none⟩=some (.int .i64 2):=T4.out.cell_ rfl;have g0:=T4.out.frozen 0;have x1:w4.cell? ⟨w.heap.size+1,1,none⟩=some (.int .u64 0):=T4.out.cell_ rfl;have g1:=T4.out.frozen 1;have x2:w4.cell? ⟨w.heap.size+1,2,none⟩=some (.slice none 0 0):=T4.out.cell_ rfl;have g2:=T4.out.frozen 2;have x3:w4.cell? ⟨w.heap.size+1,3,none⟩=some (.slice none 0 0):=T4.out.cell_ rfl;have g3:=T4.out.frozen 3;have m6:w4.cell? ⟨g,6,none⟩=some (.int .i64 d):=h1.row.cell_ rfl;have m1:w4.cell? ⟨g,1,none⟩=some (.int .i64 ((p+1+m:Nat):Int)):=h1.row.cell_ rfl;have m0:w4.cell? ⟨g,0,none⟩=some (.slice (some ad) L cp):=h1.row.cell_ rfl;have LT4:=Lib.hid (show w.heap.size+1 < w4.heap.size from T4.out.lt);clear h1 h2)|(go_at_call 107;(with_reducible refine(CZd.out _).mono ?_);rintro e w1 ⟨rfl,rfl⟩)|(go_at_call 116;(refine(CF.out _ D4.out).mono ?_);rintro e w5 ⟨rfl,h1,h2⟩;have D5:=Lib.hid h1;have G5:=Lib.hid h2;have N5:=Lib.hid (show Bl w5 w.heap.size 75 _ from N4.out.grown h2 (by intro e;injection e with e;omega));have y0:w5.cell? ⟨w.heap.size,0,none⟩=some (.int .i64 0):=N5.out.cell_ rfl;have f0:=N5.out.frozen 0;have y1:w5.cell? ⟨w.heap.size,1,none⟩=some (.int .u64 0):=N5.out.cell_ rfl;have f1:=N5.out.frozen 1;have y2:w5.cell? ⟨w.heap.size,2,none⟩=some (.slice none 0 0):=N5.out.cell_ rfl;have f2:=N5.out.frozen 2;have y3:w5.cell? ⟨w.heap.size,3,none⟩=some (.slice none 0 0):=N5.out.cell_ rfl;have f3:=N5.out.frozen 3;clear h1 h2))
 have HL4:=Lib.hid (st4_bl N5.out (.int .i64 0) (.int .u64 0) (.slice none 0 0) (.slice none 0 0))
 exact⟨rfl,_,results_c rfl _ _ _ ⟨w.heap.size,0,none⟩ _ (by kernel_rfl) (run_loadVar_row _ w.heap.size 75 75 _ (0,0) _ HL4.out Tryz.underlying75 rfl size34),dbad HP.out (only_trans (only_trans G2.out G4.out) G5.out) D5.out glt⟩
end Go.Proofs.YteblmphohhbgcaaGreat.Wr
