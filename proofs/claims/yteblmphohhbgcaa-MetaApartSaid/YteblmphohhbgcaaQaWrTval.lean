/- Joined texts. -/
import Derived.Test.YteblmphohhbgcaaQaWrRv
import Derived.Deep.LoopGhost
set_option linter.unusedVariables false
namespace Go.Proofs.Yteblmphohhbgcaa.Wr
open Go.RowKit Go.Proofs.Yteblmphohhbgcaa.Gn Go.Proofs.Yteblmphohhbgcaa.Fd Go.Deep
abbrev nod0:Obj:=.cells #[.int .i64 0,.int .u64 0,.slice none 0 0,.slice none 0 0] 80
set_option maxHeartbeats 4000000 in
set_option maxRecDepth 100000 in
theorem tval_short{w:World}{g:Nat}{a b c d k:Int}{r:Rw}{p:Nat}(h:Rt w g a b c d k r p)(deep:Int)(hp:p=r.2.2.2.length) :
  Calls Try.prog 84 #[.pointer (some ⟨g,0,none⟩),.int .i64 deep] w fun e w'=>e=pan (p:Int) 20∧w.grownBy w' (some g):=by
 obtain⟨A,L,cp,l⟩:=r
 have hL:L=l.length:=h.pc.len
 obtain rfl:L=p:=hL.trans hp.symm
 have A0:=Lib.hid (below_one w nod0)
 have H0:=Lib.hid (h.below A0.out)
 have c5:(w.alloc nod0).cell? ⟨g,5,none⟩=some (.slice A L cp):=H0.out.row.cell_ rfl
 have c6:(w.alloc nod0).cell? ⟨g,6,none⟩=some (.int .i64 (L:Int)):=H0.out.row.cell_ rfl
 clear h hp hL
 go_enter Try.func84,Try.ntmps84
 go_wp2_with fail
 exact⟨rfl,rfl,only_below A0.out _⟩
set_option maxHeartbeats 4000000 in
set_option maxRecDepth 100000 in
theorem tval_deep{w:World}{g:Nat}{a b c d k:Int}{r:Rw}{p:Nat}(h:Rt w g a b c d k r p)(deep:Int)(hp:¬p=r.2.2.2.length)(hd:b < deep) :
  Calls Try.prog 84 #[.pointer (some ⟨g,0,none⟩),.int .i64 deep] w fun e w'=>e=pan (p:Int) 23∧w.grownBy w' (some g):=by
 obtain⟨A,L,cp,l⟩:=r
 have hL:L=l.length:=h.pc.len
 have q0:¬(p:Int)=(L:Int):=fun e=>hp (by show p=l.length;omega)
 have A0:=Lib.hid (below_one w nod0)
 have H0:=Lib.hid (h.below A0.out)
 have c5:(w.alloc nod0).cell? ⟨g,5,none⟩=some (.slice A L cp):=H0.out.row.cell_ rfl
 have c6:(w.alloc nod0).cell? ⟨g,6,none⟩=some (.int .i64 (p:Int)):=H0.out.row.cell_ rfl
 have CB:=Lib.hid (fun x=>tbegin_deep H0.out x deep hd)
 clear h hp hL hd
 go_enter Try.func84,Try.ntmps84
 go_wp2_with (go_at_call 91;(refine(CB.out _).mono ?_);rintro e w1 ⟨rfl,rfl⟩)
 exact⟨rfl,rfl,only_below A0.out _⟩
set_option maxHeartbeats 4000000 in
set_option maxRecDepth 100000 in
theorem tval_many{w:World}{g:Nat}{a b c d:Int}{r:Rw}{p:Nat}(h:Rt w g a b c d c r p)(deep:Int)(hp:¬p=r.2.2.2.length)(hd:¬b < deep) :
  Calls Try.prog 84 #[.pointer (some ⟨g,0,none⟩),.int .i64 deep] w fun e w'=>e=pan (p:Int) 24∧w.grownBy w' (some g):=by
 obtain⟨A,L,cp,l⟩:=r
 have hL:L=l.length:=h.pc.len
 have q0:¬(p:Int)=(L:Int):=fun e=>hp (by show p=l.length;omega)
 have A0:=Lib.hid (below_one w nod0)
 have H0:=Lib.hid (h.below A0.out)
 have c5:(w.alloc nod0).cell? ⟨g,5,none⟩=some (.slice A L cp):=H0.out.row.cell_ rfl
 have c6:(w.alloc nod0).cell? ⟨g,6,none⟩=some (.int .i64 (p:Int)):=H0.out.row.cell_ rfl
 have CB:=Lib.hid (fun x=>tbegin_many H0.out x deep hd)
 clear h hp hL hd
 go_enter Try.func84,Try.ntmps84
 go_wp2_with (go_at_call 91;(refine(CB.out _).mono ?_);rintro e w1 ⟨rfl,q,rfl⟩)
 exact⟨rfl,rfl,only_drewN (only_below A0.out _) q⟩
end Go.Proofs.Yteblmphohhbgcaa.Wr
namespace Go.Proofs.Yteblmphohhbgcaa.Wr
open Go.RowKit Go.Proofs.Yteblmphohhbgcaa.Gn Go.Proofs.Yteblmphohhbgcaa.Fd Go.Deep
abbrev st4(w:World)(q:Nat)(v0 v1 v2 v3:Value):World:=(((w.setCell ⟨q,0,none⟩ v0).setCell ⟨q,1,none⟩ v1).setCell ⟨q,2,none⟩ v2).setCell ⟨q,3,none⟩ v3
theorem st4_only{w a:World}{g q:Nat}(h:w.grownBy a (some g))(hq:w.heap.size≤q)(v0 v1 v2 v3:Value):w.grownBy (st4 a q v0 v1 v2 v3) (some g) :=
 only_set (only_set (only_set (only_set h (p:=⟨q,0,none⟩) (Or.inr hq) v0) (p:=⟨q,1,none⟩) (Or.inr hq) v1) (p:=⟨q,2,none⟩) (Or.inr hq) v2) (p:=⟨q,3,none⟩) (Or.inr hq) v3
theorem st4_keep(a:World){q:Nat}(v0 v1 v2 v3:Value){k:Nat}(hk:k≠q):(st4 a q v0 v1 v2 v3).heap[k]?=a.heap[k]? :=
 (((Below.heap_setCell _ _ _ k hk).trans (Below.heap_setCell _ _ _ k hk)).trans (Below.heap_setCell _ _ _ k hk)).trans (Below.heap_setCell _ _ _ k hk)
theorem st4_size(a:World)(q:Nat)(v0 v1 v2 v3:Value):(st4 a q v0 v1 v2 v3).heap.size=a.heap.size:=by simp only[st4,setc_size]
theorem st4_bl{a:World}{q:Nat}{c0 c1 c2 c3:Value}(h:Bl a q 80 #[c0,c1,c2,c3])(v0 v1 v2 v3:Value):Bl (st4 a q v0 v1 v2 v3) q 80 #[v0,v1,v2,v3]:=(((h.set_ 0 v0).set_ 1 v1).set_ 2 v2).set_ 3 v3
theorem st4_rt{a:World}{g:Nat}{x b c d k:Int}{r:Rw}{p:Nat}(h:Rt a g x b c d k r p){q:Nat}(hq:g≠q)(ha:∀ad,r.1=some ad→0 < r.2.2.2.length→ad.block≠q)(v0 v1 v2 v3:Value):Rt (st4 a q v0 v1 v2 v3) g x b c d k r p :=
 ⟨(((h.row.other (p:=⟨q,0,none⟩) hq v0).other (p:=⟨q,1,none⟩) hq v1).other (p:=⟨q,2,none⟩) hq v2).other (p:=⟨q,3,none⟩) hq v3,⟨h.pc.len,Sl.kept h.pc.row (fun ad e hn _=>st4_keep a v0 v1 v2 v3 (ha ad e hn)),h.pc.lt,h.pc.cap,h.pc.nil⟩,h.le,h.apart⟩
theorem pc_lt{w:World}{r:Rw}(h:Pc w r):∀ad,r.1=some ad→0 < r.2.2.2.length→ad.block < w.heap.size:=by
 intro ad e hn
 obtain⟨ad',e',hc⟩:=h.row.at_ hn
 rw[e] at e';cases e'
 have:=cell_lt (v:=(bl r.2.2.2)[0]'(by simpa[bl] using hn)) (by rw[hc];exact List.getElem?_eq_getElem _)
 rwa [add_block] at this
def RgQ(v:Nd)(p':Nat)(w:World)(g:Nat)(a b c d k':Int)(r:Rw)(e:Ending)(w':World):Prop :=
 w.grownBy w' (some g)∧∃t,e=.returned t.val∧nd t=v∧Ok w' t∧lies (fun k=>w.heap.size≤k) t∧Rt w' g a b c d k' r p'
theorem tfin{w w4:World}{g:Nat}{a b c d k:Int}{r:Rw}{p:Nat}{t:Tv}{v:Nd}{v0 v1 v2 v3:Value}(ht:t.row=[v0,v1,v2,v3])(hv:nd t=v)(hp:Pc w r)(G4:w.grownBy w4 (some g))(R4:Rt w4 g a b c d k r p)(O4:Ok w4 t)(L4:lies (fun k=>w.heap.size < k) t)(glt:g < w.heap.size) :
  RgQ v p w g a b c d k r (.returned (.agg #[v0,v1,v2,v3])) (st4 w4 w.heap.size v0 v1 v2 v3) :=
 ⟨st4_only G4 (Nat.le_refl _) _ _ _ _,t,by rw[Tv.val,ht],hv,O4.kept (lies.lt O4 L4) (fun k hk _=>st4_keep w4 _ _ _ _ (by omega)),lies.mono (fun k h=>Nat.le_of_lt h) L4,st4_rt R4 (by omega) (fun ad e hn=>by have:=pc_lt hp ad e hn;omega) _ _ _ _⟩
set_option maxHeartbeats 4000000 in
set_option maxRecDepth 100000 in
theorem tval_num{w:World}{g:Nat}{a b c d k:Int}{r:Rw}{p:Nat}(h:Rt w g a b c d k r p)(deep:Int)(hp:¬p=r.2.2.2.length)(hd:¬b < deep)(hk:¬k=c)(k0:0≤k)(k1:k≤1000000)(hl9:r.2.1≤1000000)(hx:r.2.2.2[p]?=some 1){n m:Nat}(hr:rcl (r.2.2.2.drop (p+1))=(n,m,0))(hn:n < 18446744073709551616) :
  Calls Try.prog 84 #[.pointer (some ⟨g,0,none⟩),.int .i64 deep] w (RgQ (.mk 1 n [] []) (p+1+m) w g a b c d (k+1) r):=by
 obtain⟨A,L,cp,l⟩:=r
 have hL:L=l.length:=h.pc.len
 have hple:p≤l.length:=h.le
 have q0:¬(p:Int)=(L:Int):=fun e=>hp (by show p=l.length;omega)
 have hpl:p < L:=by have:¬p=l.length:=hp;omega
 have A0:=Lib.hid (below_one w nod0)
 have H0:=Lib.hid (h.below A0.out)
 have N0:=Lib.hid (Bl.new_ w 80 #[.int .i64 0,.int .u64 0,.slice none 0 0,.slice none 0 0])
 have c5:(w.alloc nod0).cell? ⟨g,5,none⟩=some (.slice A L cp):=H0.out.row.cell_ rfl
 have c6:(w.alloc nod0).cell? ⟨g,6,none⟩=some (.int .i64 (p:Int)):=H0.out.row.cell_ rfl
 have CB:=Lib.hid (fun x=>tbegin_ok H0.out x deep hd hk k0 k1)
 have glt:g < w.heap.size:=h.row.lt
 have HP:=Lib.hid h.pc
 have HL:=Lib.hid hL
 clear h hp hL hd hk
 go_enter Try.func84,Try.ntmps84
 go_upto_region 6 with(go_at_call 91;(refine(CB.out _).mono ?_);rintro e w1 ⟨rfl,h1,q,h2⟩;have R1:=Lib.hid h1;have G1:=Lib.hid (show(w.alloc nod0).grownBy w1 (some g) from by rw[h2];exact only_set (only_drewN (World.grownBy.refl _ (some g)) q) (p:=⟨g,4,none⟩) (Or.inl rfl) _);have d6:w1.cell? ⟨g,6,none⟩=some (.int .i64 (p:Int)):=h1.row.cell_ rfl;have e6:=h1.row.frozen 6;have d5:w1.cell? ⟨g,5,none⟩=some (.slice A L cp):=h1.row.cell_ rfl;clear h1 h2)
 have R2:=Lib.hid (show Rt (w1.setCell ⟨g,6,none⟩ (.int .i64 ((p:Int)+1))) g a b c d (k+1) (A,L,cp,l) (p+1) from⟨R1.out.row.set_ 6 _,rt_pc R1.out.pc R1.out.apart _,by have:=HL.out;show p+1≤l.length;omega,R1.out.apart⟩)
 have G2:=Lib.hid (only_set G1.out (p:=⟨g,6,none⟩) (Or.inl rfl) (.int .i64 ((p:Int)+1)))
 clear R1 G1 d6 e6 d5 c5 c6 CB
 generalize w1.setCell ⟨g,6,none⟩ (.int .i64 ((p:Int)+1))=w2 at *
 clear w1
 have N2:=Lib.hid (N0.out.grown G2.out (by intro e;injection e with e;omega))
 have GW:=Lib.hid (only_trans (only_below A0.out (some g)) G2.out)
 obtain⟨ad,rfl,hc0,-, -⟩:=pc_at R2.out.pc hx
 have hc:w2.cell? (ad.add p)=some (.int .u8 1):=hc0
 have d5:w2.cell? ⟨g,5,none⟩=some (.slice (some ad) L cp):=R2.out.row.cell_ rfl
 clear hc0 hx
 have CT:=Lib.hid (tcount_good R2.out (by show L≤1000000000;have:L≤1000000:=hl9;omega) hr)
 have CN:=Lib.hid (fun u=>(Num_any n hn u).mono fun e w' h=>(show e=Ending.returned (.agg #[.int .i64 1,.int .u64 (n:Int),.slice none 0 0,.slice none 0 0])∧Ok w' (.mk 1 n (none,0,0,[]) none 0 [])∧Below u.heap.size u w' from h))
 clear hr hn hl9
 go_wp2_with (first
  |(go_at_call 96;(refine CT.out.mono ?_);rintro e w3 ⟨rfl,h1,h2⟩;have R3:=Lib.hid h1;have G3:=Lib.hid h2;clear h1 h2)
  |(go_at_call 36;(refine(CN.out _).mono ?_);rintro e w4 ⟨rfl,h1,h2⟩;have O4:=Lib.hid h1;have B4:=Lib.hid h2;have R4:=Lib.hid (R3.out.below h2);have N4:=Lib.hid (show Bl w4 w.heap.size 80 _ from(N2.out.grown G3.out (by intro e;injection e with e;omega)).below' h2);have y0:w4.cell? ⟨w.heap.size,0,none⟩=some (.int .i64 0):=N4.out.cell_ rfl;have f0:=N4.out.frozen 0;have y1:w4.cell? ⟨w.heap.size,1,none⟩=some (.int .u64 0):=N4.out.cell_ rfl;have f1:=N4.out.frozen 1;have y2:w4.cell? ⟨w.heap.size,2,none⟩=some (.slice none 0 0):=N4.out.cell_ rfl;have f2:=N4.out.frozen 2;have y3:w4.cell? ⟨w.heap.size,3,none⟩=some (.slice none 0 0):=N4.out.cell_ rfl;have f3:=N4.out.frozen 3;clear h1 h2))
 have HL:=Lib.hid (st4_bl N4.out (.int .i64 1) (.int .u64 (n:Int)) (.slice none 0 0) (.slice none 0 0))
 exact⟨rfl,_,results_c rfl _ _ _ ⟨w.heap.size,0,none⟩ _ (by kernel_rfl) (run_loadVar_row _ w.heap.size 80 80 _ (0,0) _ HL.out Try.underlying80 rfl size34),tfin (t:=.mk 1 n (none,0,0,[]) none 0 []) rfl rfl HP.out (only_then (only_trans GW.out G3.out) (B4.out.mono (only_trans GW.out G3.out).size)) R4.out O4.out (by rw[lies];exact⟨fun ad e=>(by cases e),fun ad e=>(by cases e),by rw[liess];trivial⟩) glt⟩
end Go.Proofs.Yteblmphohhbgcaa.Wr
