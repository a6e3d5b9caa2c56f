/- Joined texts. -/
import Derived.Test.YteblmphohhbgcaaQaMtV
import Derived.Test.YteblmphohhbgcaaQaGnB
set_option linter.unusedVariables false
namespace Go.Proofs.Yteblmphohhbgcaa.Mt
open Go.RowKit Go.Proofs.Yteblmphohhbgcaa.Gn Go.Proofs.Yteblmphohhbgcaa.Fd Go.Proofs.Yteblmphohhbgcaa.Wr Go.Deep
set_option maxHeartbeats 4000000 in
theorem Write_timestamp{w:World}{v e rv rs:Int}{rA:Option Addr}{rn rc:Nat}{rl:List Nat}(hp:Pc w (rA,rn,rc,rl))(hr9:rn≤800000) :
  Calls Try.prog 21 #[.agg #[.int .i64 v,.int .i64 e,.int .i64 rv,.int .i64 rs,.slice rA rn rc]] w (WpQ (wE (tmB v e rv rs rn) (lN (tmN v e rv rs rl))) (wL (tmB v e rv rs rn) (lN (tmN v e rv rs rl))) w):=by
 obtain⟨U,hU⟩:∃U,w.alloc (.cells #[.int .i64 v,.int .i64 e,.int .i64 rv,.int .i64 rs,.slice rA rn rc] 63)=U:=⟨_,rfl⟩
 have BX:=Lib.hid (show Below w.heap.size w U from by rw[←hU];exact below_one w _)
 have NX:=Lib.hid (show Bl U w.heap.size 63 #[.int .i64 v,.int .i64 e,.int .i64 rv,.int .i64 rs,.slice rA rn rc] from by rw[←hU];exact Bl.new_ w _ _)
 have CW:=Lib.hid (write_timestamp (v:=v) (e:=e) (rv:=rv) (rs:=rs) (hp.below BX.out) hr9)
 have c0:U.cell? ⟨w.heap.size,0,none⟩=some (.int .i64 v):=NX.out.cell_ rfl
 have c1:U.cell? ⟨w.heap.size,1,none⟩=some (.int .i64 e):=NX.out.cell_ rfl
 have c2:U.cell? ⟨w.heap.size,2,none⟩=some (.int .i64 rv):=NX.out.cell_ rfl
 have c3:U.cell? ⟨w.heap.size,3,none⟩=some (.int .i64 rs):=NX.out.cell_ rfl
 have c4:U.cell? ⟨w.heap.size,4,none⟩=some (.slice rA rn rc):=NX.out.cell_ rfl
 obtain⟨er,hE⟩:∃er,wE (tmB v e rv rs rn) (lN (tmN v e rv rs rl))=er:=⟨_,rfl⟩
 obtain⟨L,hL⟩:∃L,wL (tmB v e rv rs rn) (lN (tmN v e rv rs rl))=L:=⟨_,rfl⟩
 rw[hE,hL] at CW ⊢
 clear hp hr9 hE hL
 go_enter Try.func21,Try.ntmps21
 go_wp2_with (go_at_call 39;(refine CW.out.mono ?_);rintro e1 w1 ⟨hb1,A1,k1,rfl,p1,l1⟩;have W1:=Lib.hid (wpq_up (B:=w) (er:=er) (BX.out.trans (hb1.mono BX.out.size)) p1 l1);clear hb1 p1 l1)
 go_ret2
 exact W1.out
end Go.Proofs.Yteblmphohhbgcaa.Mt
namespace Go.Proofs.Yteblmphohhbgcaa.Mt
open Go.RowKit Go.Proofs.Yteblmphohhbgcaa.Gn Go.Proofs.Yteblmphohhbgcaa.Fd Go.Proofs.Yteblmphohhbgcaa.Wr Go.Deep
def w0V(V:Nd):Bool:=decide (knd V=3)
def n0V(V:Nd):List Nd:=if knd V=3 then ksd V else[]
abbrev A5:=Nat × Nat × Nat × Nat × List Nat
def fin5(ok:Bool)(a b c d:Nd)(h:Nd):Option A5:=if ok=true then some (nmd a,nmd b,nmd c,nmd d,bsd h) else none
abbrev N3:=Nd × Bool × List Nd
structure TsS (V:Nd) (P Q L X Y Z:N3):Prop where
 p:nx (dI 1 4611686018427387904) 1 (w0V V) (n0V V)=P
 q:nx (dI 0 4611686018427387904) 1 P.2.1 P.2.2=Q
 l:nx (dL 0 9223372036854775807) 3 Q.2.1 Q.2.2=L
 x:nx (dI 1 4611686018427387904) 1 true (ksd L.1)=X
 y:nx (dI 0 4611686018427387904) 1 X.2.1 X.2.2=Y
 z:nx (dB 32 32) 2 Y.2.1 Y.2.2=Z
def dn(Z:N3):Bool:=Z.2.1 && decide (Z.2.2.length=0)
def tsF(V:Nd):N3 × N3 × N3 × N3 × N3 × N3 :=
 let P:=nx (dI 1 4611686018427387904) 1 (w0V V) (n0V V)
 let Q:=nx (dI 0 4611686018427387904) 1 P.2.1 P.2.2
 let L:=nx (dL 0 9223372036854775807) 3 Q.2.1 Q.2.2
 let X:=nx (dI 1 4611686018427387904) 1 true (ksd L.1)
 let Y:=nx (dI 0 4611686018427387904) 1 X.2.1 X.2.2
 let Z:=nx (dB 32 32) 2 Y.2.1 Y.2.2
 (P,Q,L,X,Y,Z)
def tsO(V:Nd):Option A5:=match tsF V with|(P,Q,L,X,Y,Z)=>fin5 (dn Z && dn L) P.1 Q.1 X.1 Y.1 Z.1
theorem TsS.is{V:Nd}{P Q L X Y Z:N3}(h:TsS V P Q L X Y Z):tsO V=fin5 (dn Z && dn L) P.1 Q.1 X.1 Y.1 Z.1:=by
 obtain⟨h1,h2,h3,h4,h5,h6⟩:=h
 subst h1 h2 h3 h4 h5 h6
 rfl
abbrev n3(X:Tv × Bool × List Tv):N3:=(Wr.nd X.1,X.2.1,nds X.2.2)
theorem nxt_mem(F:Tv→Bool)(k:Int)(wh:Bool)(ks:List Tv):∀t∈(nxt F k wh ks).2.2,t∈ks:=by
 rcases nxt_is F k wh ks with⟨-, h1⟩|⟨t,ts,rfl,-, -, h1⟩
 ·rw[h1];exact fun u hu=>(List.not_mem_nil hu).elim
 ·rw[h1];exact fun u hu=>List.mem_cons_of_mem _ hu
theorem nx_I{a b:Int}{wh:Bool}{ks:List Tv}{X:Tv × Bool × List Tv}(h:nxt (FI a b) 1 wh ks=X):nx (dI a b) 1 wh (nds ks)=n3 X:=by
 subst h
 obtain⟨h1,h2,h3⟩:=nxt_nx (F:=FI a b) (G:=dI a b) (k:=1) (wh:=wh) (ks:=ks) (fun t _=>fi_nd a b t)
 show nx (dI a b) 1 wh (nds ks)=(Wr.nd _,_,nds _)
 rw[h1,h2,h3]
theorem nx_L{a b:Int}{wh:Bool}{ks:List Tv}{X:Tv × Bool × List Tv}(h:nxt (FL a b) 3 wh ks=X):nx (dL a b) 3 wh (nds ks)=n3 X:=by
 subst h
 obtain⟨h1,h2,h3⟩:=nxt_nx (F:=FL a b) (G:=dL a b) (k:=3) (wh:=wh) (ks:=ks) (fun t _=>fl_nd a b t)
 show nx (dL a b) 3 wh (nds ks)=(Wr.nd _,_,nds _)
 rw[h1,h2,h3]
theorem nx_B{w:World}{a b:Int}{wh:Bool}{ks:List Tv}(hk:∀t∈ks,Ok w t){X:Tv × Bool × List Tv}(h:nxt (FB a b) 2 wh ks=X):nx (dB a b) 2 wh (nds ks)=n3 X:=by
 subst h
 obtain⟨h1,h2,h3⟩:=nxt_nx (F:=FB a b) (G:=dB a b) (k:=2) (wh:=wh) (ks:=ks) (fun t ht=>fb_nd a b (hk t ht))
 show nx (dB a b) 2 wh (nds ks)=(Wr.nd _,_,nds _)
 rw[h1,h2,h3]
theorem nds_len(ks:List Tv):(nds ks).length=ks.length:=by rw[nds_map,List.length_map]
theorem dn_n3(X:Tv × Bool × List Tv):dn (n3 X)=(X.2.1 && decide (X.2.2.length=0)):=by unfold dn;rw[nds_len]
theorem ts_steps{V:Nd}{us vs:List Tv}{u:World}(hN:nds us=n0V V)(hv:∀t∈vs,Ok u t){P Q L X Y Z:Tv × Bool × List Tv}(hP:nxt (FI 1 4611686018427387904) 1 (w0V V) us=P)(hQ:nxt (FI 0 4611686018427387904) 1 P.2.1 P.2.2=Q)(hL:nxt (FL 0 9223372036854775807) 3 Q.2.1 Q.2.2=L)(hn:nds vs=nds (kids L.1))(hX:nxt (FI 1 4611686018427387904) 1 true vs=X)(hY:nxt (FI 0 4611686018427387904) 1 X.2.1 X.2.2=Y)(hZ:nxt (FB 32 32) 2 Y.2.1 Y.2.2=Z):TsS V (n3 P) (n3 Q) (n3 L) (n3 X) (n3 Y) (n3 Z):=by
 refine⟨by rw[←hN];exact nx_I hP,nx_I hQ,nx_L hL,?_,nx_I hY,nx_B (w:=u) (fun t ht=>hv t ?_) hZ⟩
 ·rw[show ksd (n3 L).1=nds vs from by rw[hn];exact(ks_nd _).symm];exact nx_I hX
 ·subst hY hX;exact nxt_mem _ _ _ _ t (nxt_mem _ _ _ _ t ht)
def bO(f:Nd→Option A5)(l:List Nat):Option A5 :=
 match rdw 8192 8 1024 8192 l with
 |.good V _ _=>f V
 |.bad _ _=>none
def R5(a b c d:Int)(A:Option Addr)(n c':Nat):Value:=.agg #[.int .i64 a,.int .i64 b,.int .i64 c,.int .i64 d,.slice A n c']
def A5Q(o:Option A5)(w:World)(e:Ending)(w':World):Prop :=
 Below w.heap.size w w'∧match o with
 |none=>e=.returned (.tuple #[R5 0 0 0 0 none 0 0,.int .i64 80])
 |some (a,b,c,d,h)=>∃A c',e=.returned (.tuple #[R5 a b c d A h.length c',.int .i64 0])∧Pc w' (A,h.length,c',h)
abbrev z5:Array Value:=#[.int .i64 0,.int .i64 0,.int .i64 0,.int .i64 0,.slice none 0 0]
theorem z5_pl:∀(i:Nat) v,z5[i]?=some v→pl v=true:=by
 intro i v h
 rcases i with _|_|_|_|_|i
 all_goals first|(cases h;rfl)|simp[z5] at h
theorem szns_mem0(V:Nd):szns (n0V V)≤szn V:=by
 obtain⟨k,n,l,us⟩:=V
 unfold n0V
 split
 ·rw[szn];show szns us≤_;omega
 ·rw[szns];exact Nat.zero_le _
theorem rd_val(l:List Nat):∃(x y:Int) (V:Nd),(∀w e w',RdQ (rdw 8192 8 1024 8192 l) w e w'→R3Q x y V w e w')∧(∀f,bO f l=if y=0 then f V else none)∧szn V≤l.length+1:=by
 obtain⟨x,y,V,h1,h2,h3,h4,h5⟩:=rdq3 (a:=8192) (b:=8) (c:=1024) (d:=8192) (l:=l)
 refine⟨x,y,V,h1,fun f=>?_,h5⟩
 unfold bO
 cases hres:rdw 8192 8 1024 8192 l with
 |good v p k =>
  obtain⟨e1,e2⟩:=h3 v p k hres
  rw[if_pos e1,e2]
 |bad p en =>
  rw[if_neg (fun e=>by obtain⟨p',k',e'⟩:=h2 e;rw[hres] at e';cases e')]
theorem read_r3{w:World}{r:Rw}(hr:Pc w r)(hr9:r.2.1≤800000)(hin:∀ad,r.1=some ad→ad.block < w.heap.size){x y:Int}{V:Nd}(hQ:∀w e w',RdQ (rdw 8192 8 1024 8192 r.2.2.2) w e w'→R3Q x y V w e w'):Calls Try.prog 49 #[.slice r.1 r.2.1 r.2.2.1,lim 8192 8 1024 8192] w (R3Q x y V w):=by
 have h:=Read_any hr 8192 8 1024 8192 (by decide) (by omega) hin
 rw[show max (8192:Int) 0=8192 from rfl,show max (8:Int) 0=8 from rfl,show max (1024:Int) 0=1024 from rfl] at h
 exact h.mono (hQ w)
end Go.Proofs.Yteblmphohhbgcaa.Mt
