/- Joined texts. -/
import Derived.Test.YteblmphohhbgcaaGreatQmMtAf
import Derived.Test.YteblmphohhbgcaaGreatQmMtAh
set_option linter.unusedVariables false
namespace Go.Proofs.YteblmphohhbgcaaGreat.Mt
open Go.RowKit Go.Proofs.YteblmphohhbgcaaGreat.Gn Go.Proofs.YteblmphohhbgcaaGreat.Fd Go.Proofs.YteblmphohhbgcaaGreat.Wr Go.Deep
theorem nx_or(F:Nd→Bool)(k:Int)(wh:Bool)(N:List Nd):nx F k wh N=(nd0,false,[])∨∃t ts,N=t :: ts∧knd t=k∧F t=true∧nx F k wh N=(t,wh,ts):=by
 cases N with
 |nil=>exact .inl rfl
 |cons t ts =>
  rw[nx]
  by_cases h1:knd t=k
  ·rw[if_pos h1]
   cases h2:F t with
   |true=>exact .inr ⟨t,ts,rfl,h1,h2,by rw[if_pos rfl]⟩
   |false=>exact .inl (by rw[if_neg (by decide)])
  ·rw[if_neg h1];exact .inl rfl
theorem nx_go{F:Nd→Bool}{k:Int}{wh:Bool}{t:Nd}{ts:List Nd}(h1:knd t=k)(h2:F t=true):nx F k wh (t :: ts)=(t,wh,ts):=by rw[nx,if_pos h1,if_pos h2]
theorem nx_dn{F:Nd→Bool}{k:Int}{wh:Bool}{N:List Nd}(h:(nx F k wh N).2.1=true):wh=true∧∃t ts,N=t :: ts∧knd t=k∧F t=true∧nx F k wh N=(t,true,ts):=by
 rcases nx_or F k wh N with e|⟨t,ts,e1,e2,e3,e4⟩
 ·rw[e] at h;cases h
 ·rw[e4] at h
  have h:wh=true:=h
  subst h
  exact⟨rfl,t,ts,e1,e2,e3,e4⟩
theorem nu_of{V:Nd}{a b:Int}(h1:knd V=1)(h2:dI a b V=true)(hb:b≤4611686018427387904):nuB V=true∧nuV V=nmd V∧bd a b (nmd V:Int)=true:=by
 have h3:bd a b (nmd V:Int)=true:=by
  unfold dI inB at h2
  unfold bd
  rw[Bool.and_eq_true] at h2
  exact h2.2
 have h4:nuB V=true:=by
  unfold nuB
  unfold bd at h3
  rw[Bool.and_eq_true,decide_eq_true_eq,decide_eq_true_eq] at h3
  rw[decide_eq_true h1,Bool.true_and,decide_eq_true_eq]
  omega
 exact⟨h4,by unfold nuV;rw[if_pos h4],h3⟩
theorem nu_to{V:Nd}{a b:Int}(h1:nuB V=true)(h2:bd a b (nuV V:Int)=true):knd V=1∧dI a b V=true∧nuV V=nmd V:=by
 have hv:nuV V=nmd V:=by unfold nuV;rw[if_pos h1]
 rw[hv] at h2
 unfold nuB at h1
 rw[Bool.and_eq_true,decide_eq_true_eq,decide_eq_true_eq] at h1
 refine⟨h1.1,?_,hv⟩
 unfold dI isI inB
 rw[Bool.and_eq_true]
 refine⟨?_,h2⟩
 rw[decide_eq_true_eq]
 omega
theorem b32_of{V:Nd}(h1:knd V=2)(h2:dB 32 32 V=true):isB V 32=true∧bd 32 32 ((bsd V).length:Int)=true:=by
 unfold dB inB at h2
 have h3:bd 32 32 ((bsd V).length:Int)=true:=h2
 refine⟨?_,h3⟩
 unfold isB
 rw[decide_eq_true h1,Bool.true_and,decide_eq_true_eq]
 exact bd_len h3
theorem b32_to{V:Nd}(h:isB V 32=true):knd V=2∧dB 32 32 V=true:=by
 unfold isB at h
 rw[Bool.and_eq_true,decide_eq_true_eq,decide_eq_true_eq] at h
 refine⟨h.1,?_⟩
 unfold dB inB
 rw[h.2];decide
theorem list3{l:List Nd}(h:l.length=3):∃a b c,l=[a,b,c]:=by
 rcases l with _|⟨a,_|⟨b,_|⟨c,_|⟨d,r⟩⟩⟩⟩
 ·cases h
 ·cases h
 ·cases h
 ·exact⟨a,b,c,rfl⟩
 ·simp at h
theorem list5{l:List Nd}(h:l.length=5):∃a b c d e,l=[a,b,c,d,e]:=by
 rcases l with _|⟨a,_|⟨b,l⟩⟩
 ·cases h
 ·cases h
 ·obtain⟨c,d,e,rfl⟩:=list3 (l:=l) (by simp at h;omega)
  exact⟨a,b,c,d,e,rfl⟩
theorem dn_yes{Z:N3}(h:dn Z=true):Z.2.1=true∧Z.2.2=[]:=by
 unfold dn at h
 rw[Bool.and_eq_true,decide_eq_true_eq] at h
 exact⟨h.1,List.length_eq_zero_iff.1 h.2⟩
theorem isL_to{V:Nd}{m:Nat}(h:isL V m=true):w0V V=true∧n0V V=ksd V∧knd V=3∧(ksd V).length=m:=by
 unfold isL at h
 rw[Bool.and_eq_true,decide_eq_true_eq,decide_eq_true_eq] at h
 exact⟨decide_eq_true h.1,if_pos h.1,h.1,h.2⟩
theorem w0_to{V:Nd}(h:w0V V=true):knd V=3∧n0V V=ksd V:=by
 have h:=of_decide_eq_true h
 exact⟨h,if_pos h⟩
theorem dL_3(V:Nd)(h:(ksd V).length=3):dL 0 9223372036854775807 V=true:=by
 unfold dL inB;rw[h];decide
theorem ts_same(V:Nd):tsO V=dtO V:=by
 cases hk:tsOK V with
 |true =>
  rw[dtO_yes hk]
  unfold tsOK at hk
  simp only[Bool.and_eq_true] at hk
  obtain⟨k1,⟨k2,k3⟩,k4,k5,k6,k7,k8⟩:=hk
  obtain⟨e1,e2,e3,e4⟩:=isL_to k1
  obtain⟨a,b,c,e5⟩:=list3 e4
  have ea:k_ V 0=a:=by unfold k_;rw[e5];rfl
  have eb:k_ V 1=b:=by unfold k_;rw[e5];rfl
  have ec:k_ V 2=c:=by unfold k_;rw[e5];rfl
  rw[ea] at k2 k8 ⊢
  rw[eb] at k3 k8 ⊢
  rw[ec] at k4 k5 k6 k7 k8 ⊢
  obtain⟨-, -, f3,f4⟩:=isL_to k4
  obtain⟨p,q,z,f5⟩:=list3 f4
  have ep:k_ c 0=p:=by unfold k_;rw[f5];rfl
  have eq:k_ c 1=q:=by unfold k_;rw[f5];rfl
  have ez:k_ c 2=z:=by unfold k_;rw[f5];rfl
  rw[ep] at k5 k8 ⊢
  rw[eq] at k6 k8 ⊢
  rw[ez] at k7 k8 ⊢
  unfold tmB hdB rfB at k8
  simp only[Bool.and_eq_true] at k8
  obtain⟨⟨m1,m2⟩,m3,m4,m5⟩:=k8
  obtain⟨a1,a2,a3⟩:=nu_to k2 m1
  obtain⟨b1,b2,b3⟩:=nu_to k3 m2
  obtain⟨p1,p2,p3⟩:=nu_to k5 m3
  obtain⟨q1,q2,q3⟩:=nu_to k6 m4
  obtain⟨z1,z2⟩:=b32_to k7
  have S:TsS V (a,true,[b,c]) (b,true,[c]) (c,true,[]) (p,true,[q,z]) (q,true,[z]) (z,true,[]) :=
   ⟨by rw[e1,e2,e5];exact nx_go a1 a2,nx_go b1 b2,nx_go f3 (dL_3 c f4),by show nx _ _ _ (ksd c)=_;rw[f5];exact nx_go p1 p2,nx_go q1 q2,nx_go z1 z2⟩
  rw[S.is,a3,b3,p3,q3]
  rfl
 |false =>
  rw[dtO_no hk]
  obtain⟨P,hP⟩:∃P,nx (dI 1 4611686018427387904) 1 (w0V V) (n0V V)=P:=⟨_,rfl⟩
  obtain⟨Q,hQ⟩:∃Q,nx (dI 0 4611686018427387904) 1 P.2.1 P.2.2=Q:=⟨_,rfl⟩
  obtain⟨L,hL⟩:∃L,nx (dL 0 9223372036854775807) 3 Q.2.1 Q.2.2=L:=⟨_,rfl⟩
  obtain⟨X,hX⟩:∃X,nx (dI 1 4611686018427387904) 1 true (ksd L.1)=X:=⟨_,rfl⟩
  obtain⟨Y,hY⟩:∃Y,nx (dI 0 4611686018427387904) 1 X.2.1 X.2.2=Y:=⟨_,rfl⟩
  obtain⟨Z,hZ⟩:∃Z,nx (dB 32 32) 2 Y.2.1 Y.2.2=Z:=⟨_,rfl⟩
  rw[(TsS.mk hP hQ hL hX hY hZ).is]
  cases hd:(dn Z && dn L) with
  |false=>rfl
  |true =>
   exfalso
   rw[Bool.and_eq_true] at hd
   obtain⟨d1,d2⟩:=dn_yes hd.1
   obtain⟨d3,d4⟩:=dn_yes hd.2
   rw[←hZ] at d1
   obtain⟨y1,z,zs,y2,z1,z2,z3⟩:=nx_dn d1
   rw[←hY] at y1
   obtain⟨x1,q,qs,x2,q1,q2,q3⟩:=nx_dn y1
   rw[←hX] at x1
   obtain⟨-, p,ps,l2,p1,p2,p3⟩:=nx_dn x1
   rw[←hL] at d3
   obtain⟨c0,c,cs,c2,c1,c3,c4⟩:=nx_dn d3
   rw[←hQ] at c0
   obtain⟨b0,b,bs,b2,b1,b3,b4⟩:=nx_dn c0
   rw[←hP] at b0
   obtain⟨a0,a,as',a2,a1,a3,a4⟩:=nx_dn b0
   obtain⟨v1,v2⟩:=w0_to a0
   rw[hZ] at z3;rw[z3] at d2
   rw[hY] at q3;rw[q3] at y2
   rw[hX] at p3;rw[p3] at x2
   rw[hL] at c4;rw[c4] at d4 l2
   rw[hQ] at b4;rw[b4] at c2
   rw[hP] at a4;rw[a4] at b2
   have eV:ksd V=[a,b,c]:=by rw[←v2,a2];show a :: as'=_;rw[show as'=b :: bs from b2,show bs=c :: cs from c2,show cs=[] from d4]
   have eC:ksd c=[p,q,z]:=by rw[show ksd c=p :: ps from l2,show ps=q :: qs from x2,show qs=z :: zs from y2,show zs=[] from d2]
   obtain⟨na,va,ba⟩:=nu_of a1 a3 (by decide)
   obtain⟨nb,vb,bb⟩:=nu_of b1 b3 (by decide)
   obtain⟨np,vp,bp⟩:=nu_of p1 p2 (by decide)
   obtain⟨nq,vq,bq⟩:=nu_of q1 q2 (by decide)
   obtain⟨nz',bz⟩:=b32_of z1 z2
   have:tsOK V=true:=by
    unfold tsOK
    rw[show k_ V 0=a from by unfold k_;rw[eV];rfl,show k_ V 1=b from by unfold k_;rw[eV];rfl,show k_ V 2=c from by unfold k_;rw[eV];rfl,show k_ c 0=p from by unfold k_;rw[eC];rfl,show k_ c 1=q from by unfold k_;rw[eC];rfl,show k_ c 2=z from by unfold k_;rw[eC];rfl,na,nb,np,nq,nz',va,vb,vp,vq]
    unfold isL tmB hdB rfB
    rw[v1,eV,c1,eC,ba,bb,bp,bq,bz]
    rfl
   rw[this] at hk
   cases hk
theorem tg_same(V:Nd):tgO V=dgO V:=by
 cases hk:tgOK V with
 |true =>
  rw[dgO_yes hk]
  unfold tgOK at hk
  simp only[Bool.and_eq_true] at hk
  obtain⟨k1,⟨k2,k3⟩,k5,k6,k7,k8⟩:=hk
  obtain⟨e1,e2,e3,e4⟩:=isL_to k1
  obtain⟨a,b,p,q,z,e5⟩:=list5 e4
  have ea:k_ V 0=a:=by unfold k_;rw[e5];rfl
  have eb:k_ V 1=b:=by unfold k_;rw[e5];rfl
  have ep:k_ V 2=p:=by unfold k_;rw[e5];rfl
  have eq:k_ V 3=q:=by unfold k_;rw[e5];rfl
  have ez:k_ V 4=z:=by unfold k_;rw[e5];rfl
  rw[ea] at k2 k8 ⊢
  rw[eb] at k3 k8 ⊢
  rw[ep] at k5 k8 ⊢
  rw[eq] at k6 k8 ⊢
  rw[ez] at k7 k8 ⊢
  unfold tgB hdB at k8
  simp only[Bool.and_eq_true] at k8
  obtain⟨⟨m1,m2⟩,m3,m4,m5⟩:=k8
  obtain⟨a1,a2,a3⟩:=nu_to k2 m1
  obtain⟨b1,b2,b3⟩:=nu_to k3 m2
  obtain⟨p1,p2,p3⟩:=nu_to k5 m3
  obtain⟨q1,q2,q3⟩:=nu_to k6 m4
  obtain⟨z1,z2⟩:=b32_to k7
  have S:TgS V (a,true,[b,p,q,z]) (b,true,[p,q,z]) (p,true,[q,z]) (q,true,[z]) (z,true,[]) :=
   ⟨by rw[e1,e2,e5];exact nx_go a1 a2,nx_go b1 b2,nx_go p1 p2,nx_go q1 q2,nx_go z1 z2⟩
  rw[S.is,a3,b3,p3,q3]
  rfl
 |false =>
  rw[dgO_no hk]
  obtain⟨P,hP⟩:∃P,nx (dI 1 4611686018427387904) 1 (w0V V) (n0V V)=P:=⟨_,rfl⟩
  obtain⟨Q,hQ⟩:∃Q,nx (dI 0 4611686018427387904) 1 P.2.1 P.2.2=Q:=⟨_,rfl⟩
  obtain⟨X,hX⟩:∃X,nx (dI 1 131072) 1 Q.2.1 Q.2.2=X:=⟨_,rfl⟩
  obtain⟨Y,hY⟩:∃Y,nx (dI 64 1024) 1 X.2.1 X.2.2=Y:=⟨_,rfl⟩
  obtain⟨Z,hZ⟩:∃Z,nx (dB 32 32) 2 Y.2.1 Y.2.2=Z:=⟨_,rfl⟩
  rw[(TgS.mk hP hQ hX hY hZ).is]
  cases hd:dn Z with
  |false=>rfl
  |true =>
   exfalso
   obtain⟨d1,d2⟩:=dn_yes hd
   rw[←hZ] at d1
   obtain⟨y1,z,zs,y2,z1,z2,z3⟩:=nx_dn d1
   rw[←hY] at y1
   obtain⟨x1,q,qs,x2,q1,q2,q3⟩:=nx_dn y1
   rw[←hX] at x1
   obtain⟨c0,p,ps,l2,p1,p2,p3⟩:=nx_dn x1
   rw[←hQ] at c0
   obtain⟨b0,b,bs,b2,b1,b3,b4⟩:=nx_dn c0
   rw[←hP] at b0
   obtain⟨a0,a,as',a2,a1,a3,a4⟩:=nx_dn b0
   obtain⟨v1,v2⟩:=w0_to a0
   rw[hZ] at z3;rw[z3] at d2
   rw[hY] at q3;rw[q3] at y2
   rw[hX] at p3;rw[p3] at x2
   rw[hQ] at b4;rw[b4] at l2
   rw[hP] at a4;rw[a4] at b2
   have eV:ksd V=[a,b,p,q,z]:=by rw[←v2,a2];show a :: as'=_;rw[show as'=b :: bs from b2,show bs=p :: ps from l2,show ps=q :: qs from x2,show qs=z :: zs from y2,show zs=[] from d2]
   obtain⟨na,va,ba⟩:=nu_of a1 a3 (by decide)
   obtain⟨nb,vb,bb⟩:=nu_of b1 b3 (by decide)
   obtain⟨np,vp,bp⟩:=nu_of p1 p2 (by decide)
   obtain⟨nq,vq,bq⟩:=nu_of q1 q2 (by decide)
   obtain⟨nz',bz⟩:=b32_of z1 z2
   have:tgOK V=true:=by
    unfold tgOK
    rw[show k_ V 0=a from by unfold k_;rw[eV];rfl,show k_ V 1=b from by unfold k_;rw[eV];rfl,show k_ V 2=p from by unfold k_;rw[eV];rfl,show k_ V 3=q from by unfold k_;rw[eV];rfl,show k_ V 4=z from by unfold k_;rw[eV];rfl,na,nb,np,nq,nz',va,vb,vp,vq]
    unfold isL tgB hdB
    rw[v1,eV,ba,bb,bp,bq,bz]
    rfl
   rw[this] at hk
   cases hk
theorem bO_same{f g:Nd→Option A5}(h:∀V,f V=g V)(l:List Nat):bO f l=bO g l:=by
 rw[show f=g from funext h]
end Go.Proofs.YteblmphohhbgcaaGreat.Mt
namespace Go.Proofs.YteblmphohhbgcaaGreat.Mt
open Go.RowKit Go.Proofs.YteblmphohhbgcaaGreat.Gn Go.Proofs.YteblmphohhbgcaaGreat.Fd Go.Proofs.YteblmphohhbgcaaGreat.Wr Go.Deep
set_option maxRecDepth 100000
abbrev zr:List Nat:=List.replicate 32 0
def kV:Nd:=lN (tmN 1 9 2 3 zr)
def kB:List Nat:=[3,3,1,1,1,9,3,3,1,2,1,3,2,32,0,0,0,0,0,0,0,0,0,0,0,0,0,0,0,0,0,0,0,0,0,0,0,0,0,0,0,0,0,0,0,0]
theorem kV_wern:wern 8192 8 1024 8192 kV=0:=by decide +kernel
theorem kV_wbn:wbn kV=kB:=by decide +kernel
theorem kV_wE:wE (tmB 1 9 2 3 32) (lN (tmN 1 9 2 3 zr))=0:=by rw[show tmB 1 9 2 3 32=true from by decide];exact wE_ok kV_wern
theorem kV_wL:wL (tmB 1 9 2 3 32) (lN (tmN 1 9 2 3 zr))=kB:=by
 rw[show tmB 1 9 2 3 32=true from by decide,wL_ok]
 exact(if_pos kV_wern).trans kV_wbn
theorem kV_smn:smn kV:=by
 simp only[kV,smn,smns,List.length_cons,List.length_nil,List.length_replicate]
 refine⟨by decide,by decide,by decide,⟨un_lt _,by decide,by decide,trivial⟩,⟨un_lt _,by decide,by decide,trivial⟩,⟨by decide,by decide,by decide,⟨un_lt _,by decide,by decide,trivial⟩,⟨un_lt _,by decide,by decide,trivial⟩,⟨by decide,by decide,by decide,trivial⟩,trivial⟩,trivial⟩
theorem kB_good:∃k,rdw 8192 8 1024 8192 kB=.good kV kB.length k:=by
 have h:=wern_back kV_smn kV_wern
 rw[kV_wbn] at h
 exact h
theorem kB_ts:bO tsO kB=some (1,9,2,3,zr):=by
 obtain⟨k,h⟩:=kB_good
 unfold bO
 rw[h]
 show tsO kV=some (1,9,2,3,zr)
 decide +kernel
theorem kB_rt:(ksd (rtL kV).1).length≠4:=by decide +kernel
end Go.Proofs.YteblmphohhbgcaaGreat.Mt
namespace Go.Proofs.YteblmphohhbgcaaGreat.Mt
open Go.RowKit Go.Proofs.YteblmphohhbgcaaGreat.Gn Go.Proofs.YteblmphohhbgcaaGreat.Fd Go.Proofs.YteblmphohhbgcaaGreat.Wr Go.Deep
set_option maxRecDepth 100000
theorem infob:(Tryz.prog.info? 5).map (fun i=>(i.zero,i.size,i.bytes))=some (some (.int .u8 0),1,1):=by kernel_rfl
theorem zr_pc(w:World):Pc (w.alloc (.cells (madeCells #[.int .u8 0] 32) 5)) (some ⟨w.heap.size,0,none⟩,32,32,zr) :=
 ⟨rfl,by have h:=Sl.new_ w 5 (bl zr);rw[show((bl zr).toArray:Array Value)=madeCells #[.int .u8 0] 32 from by kernel_rfl] at h;exact h,fun x hx=>by rw[List.eq_of_mem_replicate hx];decide,Nat.le_refl _,fun e=>by cases e⟩
theorem read_kB{w:World}{A:Option Addr}{c:Nat}(hp:Pc w (A,46,c,kB))(hin:∀ad,A=some ad→ad.block < w.heap.size):Calls Tryz.prog 19 #[.slice A 46 c] w fun e w'=>Below w.heap.size w w'∧∃A2 c2,e=.returned (.tuple #[.agg #[.int .i64 1,.int .i64 9,.int .i64 2,.int .i64 3,.slice A2 32 c2],.int .i64 0]):=by
 have h:=Read_timestamp hp (by show 46≤800000;decide) hin
 rw[show bO tsO ((A,46,c,kB):Rw).2.2.2=some (1,9,2,3,zr) from kB_ts] at h
 refine h.mono fun e w' ⟨hb,A2,c2,h1,_⟩=>⟨hb,A2,c2,h1⟩
theorem root_kB{w:World}{A:Option Addr}{c:Nat}(hp:Pc w (A,46,c,kB))(hin:∀ad,A=some ad→ad.block < w.heap.size):Calls Tryz.prog 12 #[.slice A 46 c] w (NoR w):=by
 obtain⟨k,h⟩:=kB_good
 exact ReadRoot_bad (r:=(A,46,c,kB)) (V:=kV) (p:=kB.length) (k:=k) hp (by show 46≤800000;decide) hin h kB_rt
theorem write_kB{w:World}{A:Option Addr}(hp:Pc w (A,32,32,zr)):Calls Tryz.prog 16 #[.agg #[.int .i64 1,.int .i64 9,.int .i64 2,.int .i64 3,.slice A 32 32]] w fun e w'=>Below w.heap.size w w'∧∃A2 c2,e=.returned (.tuple #[.slice A2 46 c2,.int .i64 0])∧Pc w' (A2,46,c2,kB)∧∀ad,A2=some ad→ad.block < w'.heap.size:=by
 have h:=Write_timestamp (v:=1) (e:=9) (rv:=2) (rs:=3) hp (by decide)
 rw[kV_wE,kV_wL] at h
 exact h
set_option maxHeartbeats 4000000 in
theorem known_m(w:World):Calls Tryz.prog 9 #[] w fun e w'=>e=.returned (.bool true)∧Below w.heap.size w w':=by
 have RM:∀u,(Instr.makeSlice 25 (.int .i64 32) (.int .i64 32)).run Tryz.prog u=.ok (.slice (some ⟨u.heap.size,0,none⟩) 32 32) (u.alloc (.cells (madeCells #[.int .u8 0] 32) 5)) :=
  fun u=>run_make_row' (P:=Tryz.prog) 25 5 (.int .u8 0) 1 Tryz.underlying25 infob rfl .i64 .i64 32 (by omega) (by omega) u
 obtain⟨U,hU⟩:∃U,w.alloc (.cells (madeCells #[.int .u8 0] 32) 5)=U:=⟨_,rfl⟩
 have BU:=Lib.hid (show Below w.heap.size w U from by rw[←hU];exact below_one w _)
 have PZ:=Lib.hid (show Pc U (some ⟨w.heap.size,0,none⟩,32,32,zr) from by rw[←hU];exact zr_pc w)
 have RM1:(Instr.makeSlice 25 (.int .i64 32) (.int .i64 32)).run Tryz.prog w=.ok (.slice (some ⟨w.heap.size,0,none⟩) 32 32) U:=by rw[RM,hU]
 have CW:=Lib.hid (write_kB PZ.out)
 clear RM hU
 go_enter Tryz.func9,Tryz.ntmps9
 go_upto_region 2 with(go_at_call 16;(refine CW.out.mono ?_);rintro e1 w1 ⟨h1,A1,c1,rfl,h2,h3⟩;have B1:=Lib.hid (BU.out.trans (h1.mono BU.out.size));have P1:=Lib.hid h2;have I1:=Lib.hid h3;have CT:=Lib.hid (read_kB h2 h3);clear h1 h2 h3)
 clear CW RM1 PZ BU
 go_upto_region 3 with(go_at_call 19;(refine CT.out.mono ?_);rintro e2 w2 ⟨h1,A2,c2,rfl⟩;have B2:=Lib.hid h1;clear h1)
 have X2:=Lib.hid (below_one w2 (.cells #[.int .i64 1,.int .i64 9,.int .i64 2,.int .i64 3,.slice A2 32 c2] 40))
 have N2:=Lib.hid (Bl.new_ w2 40 #[.int .i64 1,.int .i64 9,.int .i64 2,.int .i64 3,.slice A2 32 c2])
 have B3:=Lib.hid (B2.out.trans (X2.out.mono B2.out.size))
 obtain⟨xb,hxb⟩:∃xb,w2.heap.size=xb:=⟨_,rfl⟩
 rw[hxb] at N2 ⊢
 generalize w2.alloc (.cells #[.int .i64 1,.int .i64 9,.int .i64 2,.int .i64 3,.slice A2 32 c2] 40)=w3 at *
 have P3:=Lib.hid (P1.out.below B3.out)
 have CR:=Lib.hid (root_kB P3.out (fun ad e=>Nat.lt_of_lt_of_le (I1.out ad e) B3.out.size))
 clear X2 hxb CT B2 w2
 go_upto_region 4 with(go_at_call 12;(refine CR.out.mono ?_);rintro e4 w4 ⟨h1,rfl⟩;have B4:=Lib.hid h1;clear h1)
 have X4:=Lib.hid (below_one w4 (.cells z3 24))
 have B5:=Lib.hid (B4.out.trans (X4.out.mono B4.out.size))
 have P5:=Lib.hid (P3.out.below B5.out)
 have N5:=Lib.hid (N2.out.below' B5.out)
 obtain⟨rb,hrb⟩:∃rb,w4.heap.size=rb:=⟨_,rfl⟩
 rw[hrb]
 generalize w4.alloc (.cells z3 24)=w5 at *
 clear X4 CR B4 N2 P3 hrb w4
 have BW:=Lib.hid (B1.out.trans ((B3.out.trans (B5.out.mono B3.out.size)).mono B1.out.size))
 obtain⟨ad,rfl⟩:∃ad,A1=some ad:=by
  obtain⟨ad,e,-⟩:=P5.out.row.2 0 (.int .u8 3) rfl
  exact⟨ad,e⟩
 have S1:=Lib.hid (show Sl w5 (some ad) 14 (bl [3,3,1,1,1,9,3,3,1,2,1,3,2,32]) from⟨rfl,fun k v hv=>P5.out.row.2 k v (by
  have hk:k < 14:=(List.getElem?_eq_some_iff.1 hv).1
  rw[show bl [3,3,1,1,1,9,3,3,1,2,1,3,2,32]=(bl kB).take 14 from rfl,List.getElem?_take,if_pos hk] at hv
  exact hv)⟩)
 have q46:46≤c1:=by have h:=P5.out.cap;rw[show((some ad,46,c1,kB):Rw).2.2.2.length=46 from rfl] at h;exact h
 have q14:(14:Int)≤(c1:Int):=by omega
 have q14':14≤c1:=by omega
 clear q46
 have c3:w5.cell? ⟨xb,3,none⟩=some (.int .i64 3):=N5.out.cell_ rfl
 have X6:=Lib.hid (below_one w5 (.cells #[.int .u8 3,.int .u8 3,.int .u8 1,.int .u8 1,.int .u8 1,.int .u8 9,.int .u8 3,.int .u8 3,.int .u8 1,.int .u8 2,.int .u8 1,.int .u8 3,.int .u8 2,.int .u8 32] 5))
 have N6:=Lib.hid (N5.out.below' X6.out)
 have d3:(w5.alloc (.cells #[.int .u8 3,.int .u8 3,.int .u8 1,.int .u8 1,.int .u8 1,.int .u8 9,.int .u8 3,.int .u8 3,.int .u8 1,.int .u8 2,.int .u8 1,.int .u8 3,.int .u8 2,.int .u8 32] 5)).cell? ⟨xb,3,none⟩=some (.int .i64 3):=N6.out.cell_ rfl
 have CS:=Lib.hid (fun c=>samebytes_any (some ad) (some ⟨w5.heap.size,0,none⟩) 14 14 c 14 [3,3,1,1,1,9,3,3,1,2,1,3,2,32] [3,3,1,1,1,9,3,3,1,2,1,3,2,32] (w5.alloc (.cells #[.int .u8 3,.int .u8 3,.int .u8 1,.int .u8 1,.int .u8 1,.int .u8 9,.int .u8 3,.int .u8 3,.int .u8 1,.int .u8 2,.int .u8 1,.int .u8 3,.int .u8 2,.int .u8 32] 5)) (by decide) (by decide) (S1.out.below X6.out) (Sl.new_ w5 5 (bl [3,3,1,1,1,9,3,3,1,2,1,3,2,32])))
 go_wp2_with (go_at_call 14;(refine(CS.out _).mono ?_);rintro e6 w6 ⟨rfl,rfl⟩)
 go_ret
 exact⟨rfl,BW.out.trans (X6.out.mono BW.out.size)⟩
end Go.Proofs.YteblmphohhbgcaaGreat.Mt
namespace Go.Proofs.YteblmphohhbgcaaGreat.Mt
open Go.RowKit Go.Proofs.YteblmphohhbgcaaGreat.Gn Go.Proofs.YteblmphohhbgcaaGreat.Fd Go.Proofs.YteblmphohhbgcaaGreat.Wr Go.Deep
set_option maxRecDepth 100000
theorem txt_run(w:World){r:Rw}(h:Pc w r):(convert 25 9 (.slice r.1 r.2.1 r.2.2.1)).run Tryz.prog w=.ok (.string (txt r.2.2.2)) w :=
 run_txt (P:=Tryz.prog) w 25 9 5 Tryz.underlying25 Tryz.underlying5 Tryz.underlying9 r.1 r.2.1 r.2.2.1 r.2.2.2 (by have h1:=h.row;rwa [←h.len] at h1)
set_option maxHeartbeats 4000000 in
theorem SameRef_eq(v s:Int){A B:Option Addr}{n m c d:Nat}{l:List Nat}{w:World}(h1:Pc w (A,n,c,l))(h2:Pc w (B,m,d,l)):Calls Tryz.prog 55 #[.agg #[.int .i64 v,.int .i64 s,.slice A n c],.agg #[.int .i64 v,.int .i64 s,.slice B m d]] w fun e w'=>e=.returned (.bool true)∧Below w.heap.size w w':=by
 obtain⟨U,hU⟩:∃U,(w.alloc (.cells #[.int .i64 v,.int .i64 s,.slice A n c] 38)).alloc (.cells #[.int .i64 v,.int .i64 s,.slice B m d] 38)=U:=⟨_,rfl⟩
 have BU:=Lib.hid (show Below w.heap.size w U from by rw[←hU];exact((Below.refl _ w).alloc (Nat.le_refl _) _).alloc (by simp) _)
 have NA:=Lib.hid (show Bl U w.heap.size 38 #[.int .i64 v,.int .i64 s,.slice A n c] from by rw[←hU];exact(Bl.new_ w _ _).alloc _)
 have NB:=Lib.hid (show Bl U (w.heap.size+1) 38 #[.int .i64 v,.int .i64 s,.slice B m d] from by rw[←hU];exact Bl.new' _ _ (by simp))
 have r1:=txt_run U (h1.below BU.out)
 have r2:=txt_run U (h2.below BU.out)
 simp only at r1 r2
 obtain⟨t,ht⟩:∃t,txt l=t:=⟨_,rfl⟩
 rw[ht] at r1 r2
 have a0:U.cell? ⟨w.heap.size,0,none⟩=some (.int .i64 v):=NA.out.cell_ rfl
 have a1:U.cell? ⟨w.heap.size,1,none⟩=some (.int .i64 s):=NA.out.cell_ rfl
 have a2:U.cell? ⟨w.heap.size,2,none⟩=some (.slice A n c):=NA.out.cell_ rfl
 have b0:U.cell? ⟨w.heap.size+1,0,none⟩=some (.int .i64 v):=NB.out.cell_ rfl
 have b1:U.cell? ⟨w.heap.size+1,1,none⟩=some (.int .i64 s):=NB.out.cell_ rfl
 have b2:U.cell? ⟨w.heap.size+1,2,none⟩=some (.slice B m d):=NB.out.cell_ rfl
 clear h1 h2 ht NA NB
 go_enter Tryz.func55,Tryz.ntmps55
 go_wp2_with fail
 go_ret
 exact⟨by simp,BU.out⟩
set_option maxHeartbeats 4000000 in
theorem SameTime_eq(a b v s:Int){A B:Option Addr}{n m c d:Nat}{l:List Nat}{w:World}(h1:Pc w (A,n,c,l))(h2:Pc w (B,m,d,l)):Calls Tryz.prog 22 #[.agg #[.int .i64 a,.int .i64 b,.int .i64 v,.int .i64 s,.slice A n c],.agg #[.int .i64 a,.int .i64 b,.int .i64 v,.int .i64 s,.slice B m d]] w fun e w'=>e=.returned (.bool true)∧Below w.heap.size w w':=by
 obtain⟨U,hU⟩:∃U,(w.alloc (.cells #[.int .i64 a,.int .i64 b,.int .i64 v,.int .i64 s,.slice A n c] 40)).alloc (.cells #[.int .i64 a,.int .i64 b,.int .i64 v,.int .i64 s,.slice B m d] 40)=U:=⟨_,rfl⟩
 have BU:=Lib.hid (show Below w.heap.size w U from by rw[←hU];exact((Below.refl _ w).alloc (Nat.le_refl _) _).alloc (by simp) _)
 have NA:=Lib.hid (show Bl U w.heap.size 40 #[.int .i64 a,.int .i64 b,.int .i64 v,.int .i64 s,.slice A n c] from by rw[←hU];exact(Bl.new_ w _ _).alloc _)
 have NB:=Lib.hid (show Bl U (w.heap.size+1) 40 #[.int .i64 a,.int .i64 b,.int .i64 v,.int .i64 s,.slice B m d] from by rw[←hU];exact Bl.new' _ _ (by simp))
 have CR:=Lib.hid (fun u (hu:Below U.heap.size U u)=>SameRef_eq v s (h1.below (BU.out.trans (hu.mono BU.out.size))) (h2.below (BU.out.trans (hu.mono BU.out.size))))
 have a0:U.cell? ⟨w.heap.size,0,none⟩=some (.int .i64 a):=NA.out.cell_ rfl
 have a1:U.cell? ⟨w.heap.size,1,none⟩=some (.int .i64 b):=NA.out.cell_ rfl
 have a2:U.cell? ⟨w.heap.size,2,none⟩=some (.int .i64 v):=NA.out.cell_ rfl
 have a3:U.cell? ⟨w.heap.size,3,none⟩=some (.int .i64 s):=NA.out.cell_ rfl
 have a4:U.cell? ⟨w.heap.size,4,none⟩=some (.slice A n c):=NA.out.cell_ rfl
 have b0:U.cell? ⟨w.heap.size+1,0,none⟩=some (.int .i64 a):=NB.out.cell_ rfl
 have b1:U.cell? ⟨w.heap.size+1,1,none⟩=some (.int .i64 b):=NB.out.cell_ rfl
 have b2:U.cell? ⟨w.heap.size+1,2,none⟩=some (.int .i64 v):=NB.out.cell_ rfl
 have b3:U.cell? ⟨w.heap.size+1,3,none⟩=some (.int .i64 s):=NB.out.cell_ rfl
 have b4:U.cell? ⟨w.heap.size+1,4,none⟩=some (.slice B m d):=NB.out.cell_ rfl
 clear h1 h2 NA NB
 go_enter Tryz.func22,Tryz.ntmps22
 go_wp2_with (go_at_call 55;(refine(CR.out _ (Below.refl _ _)).mono ?_);rintro e1 w1 ⟨rfl,h3⟩;have B1:=Lib.hid (BU.out.trans (h3.mono BU.out.size));clear h3)
 go_ret
 exact⟨by simp,B1.out⟩
set_option maxHeartbeats 4000000 in
theorem SameTargets_eq(a b v s:Int){A B:Option Addr}{n m c d:Nat}{l:List Nat}{w:World}(h1:Pc w (A,n,c,l))(h2:Pc w (B,m,d,l)):Calls Tryz.prog 27 #[.agg #[.int .i64 a,.int .i64 b,.int .i64 v,.int .i64 s,.slice A n c],.agg #[.int .i64 a,.int .i64 b,.int .i64 v,.int .i64 s,.slice B m d]] w fun e w'=>e=.returned (.bool true)∧Below w.heap.size w w':=by
 obtain⟨U,hU⟩:∃U,(w.alloc (.cells #[.int .i64 a,.int .i64 b,.int .i64 v,.int .i64 s,.slice A n c] 52)).alloc (.cells #[.int .i64 a,.int .i64 b,.int .i64 v,.int .i64 s,.slice B m d] 52)=U:=⟨_,rfl⟩
 have BU:=Lib.hid (show Below w.heap.size w U from by rw[←hU];exact((Below.refl _ w).alloc (Nat.le_refl _) _).alloc (by simp) _)
 have NA:=Lib.hid (show Bl U w.heap.size 52 #[.int .i64 a,.int .i64 b,.int .i64 v,.int .i64 s,.slice A n c] from by rw[←hU];exact(Bl.new_ w _ _).alloc _)
 have NB:=Lib.hid (show Bl U (w.heap.size+1) 52 #[.int .i64 a,.int .i64 b,.int .i64 v,.int .i64 s,.slice B m d] from by rw[←hU];exact Bl.new' _ _ (by simp))
 have r1:=txt_run U (h1.below BU.out)
 have r2:=txt_run U (h2.below BU.out)
 simp only at r1 r2
 obtain⟨t,ht⟩:∃t,txt l=t:=⟨_,rfl⟩
 rw[ht] at r1 r2
 clear ht
 have a0:U.cell? ⟨w.heap.size,0,none⟩=some (.int .i64 a):=NA.out.cell_ rfl
 have a1:U.cell? ⟨w.heap.size,1,none⟩=some (.int .i64 b):=NA.out.cell_ rfl
 have a2:U.cell? ⟨w.heap.size,2,none⟩=some (.int .i64 v):=NA.out.cell_ rfl
 have a3:U.cell? ⟨w.heap.size,3,none⟩=some (.int .i64 s):=NA.out.cell_ rfl
 have a4:U.cell? ⟨w.heap.size,4,none⟩=some (.slice A n c):=NA.out.cell_ rfl
 have b0:U.cell? ⟨w.heap.size+1,0,none⟩=some (.int .i64 a):=NB.out.cell_ rfl
 have b1:U.cell? ⟨w.heap.size+1,1,none⟩=some (.int .i64 b):=NB.out.cell_ rfl
 have b2:U.cell? ⟨w.heap.size+1,2,none⟩=some (.int .i64 v):=NB.out.cell_ rfl
 have b3:U.cell? ⟨w.heap.size+1,3,none⟩=some (.int .i64 s):=NB.out.cell_ rfl
 have b4:U.cell? ⟨w.heap.size+1,4,none⟩=some (.slice B m d):=NB.out.cell_ rfl
 clear h1 h2 NA NB
 go_enter Tryz.func27,Tryz.ntmps27
 go_wp2_with fail
 go_ret
 exact⟨by simp,BU.out⟩
def lgB(n:Nat):Bool:=(decide (4000 < n) && decide (n≤8192)) || decide (20000 < n)
set_option maxHeartbeats 4000000 in
theorem long_m(A:Option Addr)(n c:Nat)(w:World):Calls Tryz.prog 8 #[.slice A n c] w fun e w'=>e=.returned (.bool (lgB n))∧w=w':=by
 unfold lgB
 by_cases g1:4000 < n
 ·have q1:(4000:Int) < (n:Int):=by omega
  by_cases g2:n≤8192
  ·have q2:(n:Int)≤8192:=by omega
   rw[decide_eq_true g1,decide_eq_true g2]
   clear g1 g2
   go_enter Tryz.func8,Tryz.ntmps8
   go_wp2_with fail
   go_ret
   exact⟨rfl,rfl⟩
  ·have q2:¬(n:Int)≤8192:=by omega
   rw[decide_eq_false g2,Bool.and_false,Bool.false_or]
   clear g1 g2
   go_enter Tryz.func8,Tryz.ntmps8
   go_wp2_with fail
   go_ret
   refine⟨?_,rfl⟩
   by_cases g3:20000 < n
   ·have q3:(20000:Int) < (n:Int):=by omega
    simp[g3];try omega
   ·have q3:¬(20000:Int) < (n:Int):=by omega
    simp[g3];omega
 ·have q1:¬(4000:Int) < (n:Int):=by omega
  have q3:¬(20000:Int) < (n:Int):=by omega
  rw[decide_eq_false g1,Bool.false_and,Bool.false_or,decide_eq_false (by omega)]
  clear g1
  go_enter Tryz.func8,Tryz.ntmps8
  go_wp2_with fail
  go_ret
  exact⟨rfl,rfl⟩
theorem lgB_no{n:Nat}(h:lgB n=false):n≤20000:=by
 unfold lgB at h
 rw[Bool.or_eq_false_iff] at h
 have:=of_decide_eq_false h.2
 omega
end Go.Proofs.YteblmphohhbgcaaGreat.Mt
