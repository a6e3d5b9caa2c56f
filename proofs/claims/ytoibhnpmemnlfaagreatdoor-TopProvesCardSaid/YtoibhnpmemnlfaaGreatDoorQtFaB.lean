/- Joined texts. -/
import Derived.Test.YtoibhnpmemnlfaaGreatDoorQtFaA
set_option linter.unusedVariables false
namespace Go.Proofs.YtoibhnpmemnlfaaGreatDoor.Fd
open Go.RowKit Go.Proofs.YtoibhnpmemnlfaaGreatDoor.Gn Go.Deep
theorem sb_zero(v:Nat):sb 0 v=ng v:=by unfold sb ng;rw[Nat.zero_add]
set_option maxHeartbeats 1000000 in
theorem Neg_any(x:E5)(w:World)(hx:x.ok) :
  Calls Tryz.prog 31 #[.agg x.v] w fun e w'=>e=.returned (.agg (el (ng x.val)).v)∧Below w.heap.size w w':=by
 have z0:(⟨0,0,0,0,0⟩:E5).ok:=by unfold E5.ok;decide
 have S:=fun w=>Sub_any ⟨0,0,0,0,0⟩ x w z0 hx
 rw[show(⟨0,0,0,0,0⟩:E5).val=0 from rfl,sb_zero] at S
 obtain⟨r,hr⟩:∃r,el (ng x.val)=r:=⟨_,rfl⟩
 simp only[hr] at S
 rw[hr]
 clear hr hx z0
 have S:=Lib.hid (show ∀w,Calls Tryz.prog 40 #[.agg #[.int .u64 0,.int .u64 0,.int .u64 0,.int .u64 0,.int .u64 0],.agg #[.int .u64 (x.a:Int),.int .u64 (x.b:Int),.int .u64 (x.c:Int),.int .u64 (x.d:Int),.int .u64 (x.e:Int)]] w fun e w'=>e=.returned (.agg #[.int .u64 (r.a:Int),.int .u64 (r.b:Int),.int .u64 (r.c:Int),.int .u64 (r.d:Int),.int .u64 (r.e:Int)])∧Below w.heap.size w w' from S)
 obtain⟨⟨a0,a1,a2,a3,a4⟩,-⟩:=cells5 (show Bl ((w.alloc (.cells x.v 31)).alloc (.cells z5 31)) w.heap.size 31 #[.int .u64 (x.a:Int),.int .u64 (x.b:Int),.int .u64 (x.c:Int),.int .u64 (x.d:Int),.int .u64 (x.e:Int)] from(Bl.new_ w _ x.v).alloc _)
 have HZ:=Lib.hid (show Bl ((w.alloc (.cells x.v 31)).alloc (.cells z5 31)) (w.heap.size+1) 31 z5 from Bl.new' _ _ (by simp))
 unfold z5 at a0 a1 a2 a3 a4
 go_enter Tryz.func31,Tryz.ntmps31
 go_wp2_with (go_at_call 40;(with_reducible refine(S.out _).mono ?_);rintro e w1 ⟨rfl,hb1⟩;have hz1:=HZ.out.below' hb1;obtain⟨⟨r0,r1,r2,r3,r4⟩,f0,f1,f2,f3,f4⟩:=cells5 hz1;have HB1:=Lib.hid hb1;clear hb1 hz1)
 have hB:=((Below.refl w.heap.size w).alloc (Nat.le_refl _) (.cells x.v 31)).alloc (by simp) (.cells z5 31)
 refine bodyPost_ret (v:=.agg r.v) ?_ rfl ⟨rfl,set5_below (hB.trans (HB1.out.mono (by simp;omega))) (by omega) _ _ _ _ _⟩
 simp[results,Tryz.results31,go_sem,E5.v,r0,r1,r2,r3,r4]
def E5.wv(x:E5):Array Value:=#[.int .u64 ((x.a / 18446744073709551616:Nat):Int),.int .u64 ((x.a%18446744073709551616:Nat):Int),.int .u64 ((x.b / 18446744073709551616:Nat):Int),.int .u64 ((x.b%18446744073709551616:Nat):Int),.int .u64 ((x.c / 18446744073709551616:Nat):Int),.int .u64 ((x.c%18446744073709551616:Nat):Int),.int .u64 ((x.d / 18446744073709551616:Nat):Int),.int .u64 ((x.d%18446744073709551616:Nat):Int),.int .u64 ((x.e / 18446744073709551616:Nat):Int),.int .u64 ((x.e%18446744073709551616:Nat):Int)]
theorem E5.wv_hi(x:E5){k:Nat}(hk:k < 5):x.wv[k*2]?=some (.int .u64 ((x.l.getD k 0 / 18446744073709551616:Nat):Int)):=by
 match k,hk with
 |0,_=>rfl
 |1,_=>rfl
 |2,_=>rfl
 |3,_=>rfl
 |4,_=>rfl
theorem E5.wv_lo(x:E5){k:Nat}(hk:k < 5):x.wv[k*2+1]?=some (.int .u64 ((x.l.getD k 0%18446744073709551616:Nat):Int)):=by
 match k,hk with
 |0,_=>rfl
 |1,_=>rfl
 |2,_=>rfl
 |3,_=>rfl
 |4,_=>rfl
theorem E5.wide_get{x:E5}(h:x.wide){k:Nat}(hk:k < 5):x.l.getD k 0 < 649037107316853453566312041152512:=by
 obtain⟨h0,h1,h2,h3,h4⟩:=h
 match k,hk with
 |0,_=>exact h0
 |1,_=>exact h1
 |2,_=>exact h2
 |3,_=>exact h3
 |4,_=>exact h4
theorem E5.nar_carry(x:E5):x.nar=x.carry:=rfl
theorem E5.ov_wide{x:E5}(h:x.wide)(k:Nat)(hk:k≤5):x.ov k < 9223372036854775808:=by
 cases k with
 |zero=>have:=h.2.2.2.2;show 19*(x.e / 2251799813685248) < _;omega
 |succ k=>have:=E5.wide_get h (k:=k) (by omega);show x.l.getD k 0 / 2251799813685248 < _;omega
def zu(x:E5)(k:Nat):List Nat:=x.carry.l.take k ++ List.replicate (5 - k) 0
theorem zu_get(x:E5){k:Nat}(hk:k < 5):(nl (zu x k)).toArray[k]?=some (.int .u64 0):=by
 match k,hk with
 |0,_=>rfl
 |1,_=>rfl
 |2,_=>rfl
 |3,_=>rfl
 |4,_=>rfl
theorem zu_set(x:E5){k:Nat}(hk:k < 5):(nl (zu x k)).toArray.setIfInBounds k (.int .u64 ((x.l.getD k 0%2251799813685248+x.ov k:Nat):Int))=(nl (zu x (k+1))).toArray:=by
 match k,hk with
 |0,_=>rfl
 |1,_=>rfl
 |2,_=>rfl
 |3,_=>rfl
 |4,_=>rfl
theorem zu_five(x:E5):(nl (zu x 5)).toArray=x.carry.v:=rfl
def NarRel(x:E5)(h g:Nat)(w0:World)(o i:Value)(wr:World):Prop :=
 ∃k:Nat,k≤5∧i=.int .i64 (k:Int)∧o=.int .u64 ((x.ov k:Nat):Int)∧Bl wr h 95 x.wv∧Bl wr g 31 (nl (zu x k)).toArray∧Below g w0 wr
set_option maxHeartbeats 2000000 in
theorem narrow_any(h:Nat)(x:E5)(w:World)(hx:x.wide)(hb:Bl w h 95 x.wv) :
  Calls Tryz.prog 64 #[.pointer (some ⟨h,0,none⟩)] w fun e w'=>e=.returned (.agg (el (x.val%pp)).v)∧Below w.heap.size w w':=by
 have HX:=Lib.hid hx
 have hlt:=hb.lt
 have HB:=Lib.hid (hb.alloc (.cells z5 31))
 have c8:(w.alloc (.cells z5 31)).cell? ⟨h,8,none⟩=some (.int .u64 ((x.e / 18446744073709551616:Nat):Int)):=(hb.alloc _).cell_ rfl
 have c9:(w.alloc (.cells z5 31)).cell? ⟨h,9,none⟩=some (.int .u64 ((x.e%18446744073709551616:Nat):Int)):=(hb.alloc _).cell_ rfl
 unfold z5 at c8 c9
 have A4:=Lib.hid (fun w=>above_any x.e w (by have:=hx.2.2.2.2;omega))
 obtain⟨q,hq⟩:∃q,x.e / 2251799813685248=q:=⟨_,rfl⟩
 have k0:IntKind.u64.wrap (19*(q:Int))=((x.ov 0:Nat):Int):=by
  have:=E5.ov_wide hx 0 (by decide)
  have e:x.ov 0=19*q:=by rw[←hq];rfl
  rw[IntKind.wrap_u64];omega
 rw[hq] at A4
 obtain⟨r,hr⟩:∃r,el (x.val%pp)=r:=⟨_,rfl⟩
 have HR:=Lib.hid hr
 rw[hr]
 clear hx hb hq hr
 go_enter Tryz.func64,Tryz.ntmps64
 go_wp2_with (go_at_call 79;refine(A4.out _).mono ?_;rintro e w1 ⟨rfl,hb1⟩)
 have b1:=HB.out.below' hb1
 have g1:=(Bl.new_ w 31 z5).below' hb1
 have B1:=Lib.hid (show Below w.heap.size w w1 from((Below.refl w.heap.size w).alloc (Nat.le_refl _) (.cells z5 31)).trans (hb1.mono (by simp)))
 have HB1:=Lib.hid b1
 have HG1:=Lib.hid g1
 clear b1 g1 hb1 c8 c9 k0 A4 HB
 have hlt':=hlt
 go_loopw [3,11] (fun o i wr=>NarRel x h w.heap.size w1 o i wr) (fun _ i _=>5 - (intOf i).toNat)
 case atStart=>exact⟨0,by decide,rfl,rfl,HB1.out,HG1.out,Below.refl _ _⟩
 case round =>
  obtain⟨k,hk,rfl,rfl,hb1,hg1,hbw⟩:=hrel
  have HC1:=Lib.hid hb1
  have HC2:=Lib.hid hg1
  have HC3:=Lib.hid hbw
  clear hbw
  by_cases hlt:k < 5
  ·obtain⟨t,ht⟩:∃t,x.l.getD k 0=t:=⟨_,rfl⟩
   obtain⟨o,ho⟩:∃o,x.ov k=o:=⟨_,rfl⟩
   have lt_:t < 649037107316853453566312041152512:=ht▸E5.wide_get HX.out hlt
   have lo:o < 9223372036854775808:=ho▸E5.ov_wide HX.out k hk
   have A:=Lib.hid (fun w=>above_any t w (by omega))
   have d1:=hb1.cell_ (E5.wv_hi x hlt)
   have d2:=hb1.cell_ (E5.wv_lo x hlt)
   have d3:=hg1.cell_ (zu_get x hlt)
   have d4:=hg1.frozen k
   rw[ht] at d1 d2
   obtain⟨l,hl⟩:∃l,t%18446744073709551616=l:=⟨_,rfl⟩
   obtain⟨hi,hhi⟩:∃hi,t / 18446744073709551616=hi:=⟨_,rfl⟩
   obtain⟨m,hm⟩:∃m,t%2251799813685248=m:=⟨_,rfl⟩
   have e1:bits .and .u64 (l:Int) 2251799813685247=(m:Int):=by rw[and_low l (by omega),show l%2251799813685248=m by omega]
   have e2:IntKind.u64.wrap ((m:Int)+(o:Int))=((m+o:Nat):Int):=by rw[IntKind.wrap_u64];omega
   have EQ:=Lib.hid (show x.ov (k+1)=t / 2251799813685248 by show x.l.getD k 0 / _=_;rw[ht])
   have ES:=Lib.hid (show(nl (zu x k)).toArray.setIfInBounds k (.int .u64 ((m+o:Nat):Int))=(nl (zu x (k+1))).toArray by rw[←zu_set x hlt,ht,ho,hm])
   have HO:=Lib.hid ho
   have HA:=Lib.hid (show wv t=.agg #[.int .u64 (hi:Int),.int .u64 (l:Int)] from wv_of hhi hl)
   rw[hl] at d2
   rw[hhi] at d1
   rw[HA.out] at A
   obtain⟨q,hq⟩:∃q,t / 2251799813685248=q:=⟨_,rfl⟩
   rw[hq] at A EQ
   clear hb1 hg1 ht ho lt_ lo hl hhi hm hq HA
   rw[HO.out]
   go_wp2_with (go_at_call 79;refine(A.out _).mono ?_;rintro e w2 ⟨rfl,hb2⟩)
   have HB2:=Lib.hid hb2
   clear hb2
   go_roundw
   case rel =>
    refine⟨k+1,by omega,by go_num,by rw[EQ.out],?_,?_,?_⟩
    ·exact(HC1.out.other (p:=⟨w.heap.size,k,none⟩) (by simp;omega) _).below' HB2.out
    ·rw[←ES.out];exact(HC2.out.set_ k _).below' HB2.out
    ·exact(HC3.out.setCell (p:=⟨w.heap.size,k,none⟩) (Nat.le_refl _) _).trans (HB2.out.mono (by have:=HC2.out.lt;simp[World.setCell];omega))
   case measure=>simp[intOf];omega
  ·obtain rfl:k=5:=by omega
   clear hb1 hg1
   go_wp2_with fail
   have hb1:=HC2.out
   rw[zu_five] at hb1
   refine(reduce_any _ _ _ (by rw[←E5.nar_carry];exact E5.nar_ok HX.out) hb1).mono ?_
   rintro e w3 ⟨rfl,b1,g3⟩
   rw[E5.carry_val,HR.out] at b1
   have b4:=Lib.hid (show Below w.heap.size w w3 from(B1.out.trans HC3.out).grown g3 (B1.out.trans HC3.out).size (by simp))
   clear g3 hb1
   obtain⟨⟨a0,a1,a2,a3,a4⟩,f0,f1,f2,f3,f4⟩:=cells5 b1
   clear b1
   go_wp2
   refine bodyPost_ret (v:=.agg r.v) ?_ rfl ⟨rfl,set5_below b4.out (by omega) _ _ _ _ _⟩
   simp[results,Tryz.results64,go_sem,E5.v,a0,a1,a2,a3,a4]
end Go.Proofs.YtoibhnpmemnlfaaGreatDoor.Fd
namespace Go.Proofs.YtoibhnpmemnlfaaGreatDoor.Fd
open Go.RowKit Go.Proofs.YtoibhnpmemnlfaaGreatDoor.Gn Go.Deep
def PlusC(V:Value)(p q:Nat)(V':Value):Prop :=
 ∀w,Calls Tryz.prog 65 #[V,.int .u64 (p:Int),.int .u64 (q:Int)] w fun e w'=>e=.returned V'∧Below w.heap.size w w'
theorem PlusC.run{V V':Value}{p q:Nat}(h:PlusC V p q V')(w:World):Calls Tryz.prog 65 #[V,.int .u64 (p:Int),.int .u64 (q:Int)] w fun e w'=>e=.returned V'∧Below w.heap.size w w':=h w
theorem plusC(t p q:Nat)(hp:p < 18446744073709551616)(hq:q < 18446744073709551616)(h:t+p*q < 649037107316853453566312041152512):PlusC (wv t) p q (wv (t+p*q)) :=
 fun w=>plus_any t p q w hp hq (by omega)
theorem chain3(p1 q1 p2 q2 p3 q3:Nat)(b1:p1 < 18446744073709551616∧q1 < 18446744073709551616)(b2:p2 < 18446744073709551616∧q2 < 18446744073709551616)(b3:p3 < 18446744073709551616∧q3 < 18446744073709551616)
  (h:p1*q1+p2*q2+p3*q3 < 649037107316853453566312041152512) :
  ∃V1 V2,PlusC (.agg #[.int .u64 0,.int .u64 0]) p1 q1 V1∧PlusC V1 p2 q2 V2∧PlusC V2 p3 q3 (wv (p1*q1+p2*q2+p3*q3)):=by
 refine⟨wv (0+p1*q1),wv (0+p1*q1+p2*q2),plusC 0 p1 q1 b1.1 b1.2 (by omega),plusC _ p2 q2 b2.1 b2.2 (by omega),?_⟩
 have:=plusC (0+p1*q1+p2*q2) p3 q3 b3.1 b3.2 (by omega)
 rwa [show 0+p1*q1+p2*q2+p3*q3=p1*q1+p2*q2+p3*q3 by omega] at this
theorem chain5(p1 q1 p2 q2 p3 q3 p4 q4 p5 q5:Nat)(b1:p1 < 18446744073709551616∧q1 < 18446744073709551616)(b2:p2 < 18446744073709551616∧q2 < 18446744073709551616)(b3:p3 < 18446744073709551616∧q3 < 18446744073709551616)
  (b4:p4 < 18446744073709551616∧q4 < 18446744073709551616) (b5:p5 < 18446744073709551616∧q5 < 18446744073709551616) (h:p1*q1+p2*q2+p3*q3+p4*q4+p5*q5 < 649037107316853453566312041152512) :
  ∃V1 V2 V3 V4,PlusC (.agg #[.int .u64 0,.int .u64 0]) p1 q1 V1∧PlusC V1 p2 q2 V2∧PlusC V2 p3 q3 V3∧PlusC V3 p4 q4 V4∧PlusC V4 p5 q5 (wv (p1*q1+p2*q2+p3*q3+p4*q4+p5*q5)):=by
 obtain⟨V1,V2,c1,c2,c3⟩:=chain3 p1 q1 p2 q2 p3 q3 b1 b2 b3 (by omega)
 exact⟨V1,V2,_,_,c1,c2,c3,plusC _ p4 q4 b4.1 b4.2 (by omega),plusC _ p5 q5 b5.1 b5.2 (by omega)⟩
theorem names(t:Nat):∃h l:Nat,t / 18446744073709551616=h∧t%18446744073709551616=l∧wv t=.agg #[.int .u64 (h:Int),.int .u64 (l:Int)]:=⟨_,_,rfl,rfl,rfl⟩
theorem w64{n:Nat}(h:n < 2251799813947392):n < 18446744073709551616:=by omega
theorem w19{n:Nat}(h:n < 2251799813947392):19*n < 18446744073709551616:=by omega
theorem w2{n:Nat}(h:n < 2251799813947392):2*n < 18446744073709551616:=by omega
theorem wide_lt{n:Nat}(h:n < 2 ^ 109):n < 649037107316853453566312041152512:=h
theorem below_step{W a b:World}(h:Below W.heap.size W a)(k:Below a.heap.size a b):Below W.heap.size W b:=h.trans (k.mono h.size)
set_option maxRecDepth 100000 in
set_option maxHeartbeats 4000000 in
theorem Mul_any(x y:E5)(w:World)(hx:x.ok)(hy:y.ok) :
  Calls Tryz.prog 38 #[.agg x.v,.agg y.v] w fun e w'=>e=.returned (.agg (el (x.val*y.val%pp)).v)∧Below w.heap.size w w':=by
 have HX:=Lib.hid hx
 have HY:=Lib.hid hy
 obtain⟨r,hr⟩:∃r,el (x.val*y.val%pp)=r:=⟨_,rfl⟩
 have HR:=Lib.hid hr
 rw[hr]
 clear hx hy hr
 obtain⟨B1,B2,B3,B4⟩:=box3 w x y
 go_enter Tryz.func38,Tryz.ntmps38
 go_wp2_with fail
 change Calls _ _ _ (((w.alloc (.cells x.v 31)).alloc (.cells y.v 31)).alloc (.cells z5 31)) _
 generalize hW:((w.alloc (.cells x.v 31)).alloc (.cells y.v 31)).alloc (.cells z5 31)=W0 at *
 clear hW
 refine(lighten_any _ x _ HX.out B1).mono ?_
 rintro e w1 ⟨rfl,y1,l1,v1,b1,g1⟩
 have B2':=B2.grown g1 (by simp)
 have B3':=B3.grown g1 (by simp;omega)
 have B4':Below w.heap.size w w1:=B4.grown g1 B4.size (by simp)
 clear B1 B2 B3 B4 g1
 go_wp2_with fail
 refine(lighten_any _ y _ HY.out B2').mono ?_
 rintro e w2 ⟨rfl,y2,l2,v2,b2,g2⟩
 have b1':=b1.grown g2 (by simp)
 have b3':=B3'.grown g2 (by simp)
 have b4':Below w.heap.size w w2:=B4'.grown g2 B4'.size (by simp)
 clear B2' B3' B4' b1 g2
 have HL1:=Lib.hid l1
 have HL2:=Lib.hid l2
 have HV:=Lib.hid (show(y1.mul y2).val%pp=x.val*y.val%pp by rw[E5.mul_val,Nat.mul_mod,v1,v2,←Nat.mul_mod])
 have HM:=Lib.hid (E5.mul_wide l1 l2)
 have HB3:=Lib.hid b3'
 have HB4:=Lib.hid b4'
 obtain⟨p0,p1,p2,p3,p4⟩:=c5_of b1'
 obtain⟨q0,q1,q2,q3,q4⟩:=c5_of b2
 clear l1 l2 v1 v2 b1' b2 b3' b4'
 go_wp2_with fail
 go_quiet (fail)
 clear p0 p1 p2 p3 p4
 go_wp2_with fail
 go_quiet (fail)
 clear q0 q1 q2 q3 q4
 have e1:IntKind.u64.wrap (19*(y2.b:Int))=((19*y2.b:Nat):Int):=by have:=w19 HL2.out.2.1;rw[IntKind.wrap_u64];omega
 have e2:IntKind.u64.wrap (19*(y2.c:Int))=((19*y2.c:Nat):Int):=by have:=w19 HL2.out.2.2.1;rw[IntKind.wrap_u64];omega
 have e3:IntKind.u64.wrap (19*(y2.d:Int))=((19*y2.d:Nat):Int):=by have:=w19 HL2.out.2.2.2.1;rw[IntKind.wrap_u64];omega
 have e4:IntKind.u64.wrap (19*(y2.e:Int))=((19*y2.e:Nat):Int):=by have:=w19 HL2.out.2.2.2.2;rw[IntKind.wrap_u64];omega
 have HE:=Lib.hid (show(y1.mul y2).wv=(y1.mul y2).wv from rfl)
 obtain⟨V01,V02,V03,V04,P00,P01,P02,P03,P04⟩:=chain5 (y1.a) (y2.a) (y1.b) (19*y2.e) (y1.c) (19*y2.d) (y1.d) (19*y2.c) (y1.e) (19*y2.b) ⟨w64 HL1.out.1,w64 HL2.out.1⟩ ⟨w64 HL1.out.2.1,w19 HL2.out.2.2.2.2⟩ ⟨w64 HL1.out.2.2.1,w19 HL2.out.2.2.2.1⟩ ⟨w64 HL1.out.2.2.2.1,w19 HL2.out.2.2.1⟩ ⟨w64 HL1.out.2.2.2.2,w19 HL2.out.2.1⟩ (wide_lt HM.out.1)
 obtain⟨h0,o0,hh0,ho0,hn0⟩:=names (y1.a*(y2.a)+y1.b*(19*y2.e)+y1.c*(19*y2.d)+y1.d*(19*y2.c)+y1.e*(19*y2.b))
 rw[hn0] at P04
 obtain⟨V11,V12,V13,V14,P10,P11,P12,P13,P14⟩:=chain5 (y1.a) (y2.b) (y1.b) (y2.a) (y1.c) (19*y2.e) (y1.d) (19*y2.d) (y1.e) (19*y2.c) ⟨w64 HL1.out.1,w64 HL2.out.2.1⟩ ⟨w64 HL1.out.2.1,w64 HL2.out.1⟩ ⟨w64 HL1.out.2.2.1,w19 HL2.out.2.2.2.2⟩ ⟨w64 HL1.out.2.2.2.1,w19 HL2.out.2.2.2.1⟩ ⟨w64 HL1.out.2.2.2.2,w19 HL2.out.2.2.1⟩ (wide_lt HM.out.2.1)
 obtain⟨h1,o1,hh1,ho1,hn1⟩:=names (y1.a*(y2.b)+y1.b*(y2.a)+y1.c*(19*y2.e)+y1.d*(19*y2.d)+y1.e*(19*y2.c))
 rw[hn1] at P14
 obtain⟨V21,V22,V23,V24,P20,P21,P22,P23,P24⟩:=chain5 (y1.a) (y2.c) (y1.b) (y2.b) (y1.c) (y2.a) (y1.d) (19*y2.e) (y1.e) (19*y2.d) ⟨w64 HL1.out.1,w64 HL2.out.2.2.1⟩ ⟨w64 HL1.out.2.1,w64 HL2.out.2.1⟩ ⟨w64 HL1.out.2.2.1,w64 HL2.out.1⟩ ⟨w64 HL1.out.2.2.2.1,w19 HL2.out.2.2.2.2⟩ ⟨w64 HL1.out.2.2.2.2,w19 HL2.out.2.2.2.1⟩ (wide_lt HM.out.2.2.1)
 obtain⟨h2,o2,hh2,ho2,hn2⟩:=names (y1.a*(y2.c)+y1.b*(y2.b)+y1.c*(y2.a)+y1.d*(19*y2.e)+y1.e*(19*y2.d))
 rw[hn2] at P24
 obtain⟨V31,V32,V33,V34,P30,P31,P32,P33,P34⟩:=chain5 (y1.a) (y2.d) (y1.b) (y2.c) (y1.c) (y2.b) (y1.d) (y2.a) (y1.e) (19*y2.e) ⟨w64 HL1.out.1,w64 HL2.out.2.2.2.1⟩ ⟨w64 HL1.out.2.1,w64 HL2.out.2.2.1⟩ ⟨w64 HL1.out.2.2.1,w64 HL2.out.2.1⟩ ⟨w64 HL1.out.2.2.2.1,w64 HL2.out.1⟩ ⟨w64 HL1.out.2.2.2.2,w19 HL2.out.2.2.2.2⟩ (wide_lt HM.out.2.2.2.1)
 obtain⟨h3,o3,hh3,ho3,hn3⟩:=names (y1.a*(y2.d)+y1.b*(y2.c)+y1.c*(y2.b)+y1.d*(y2.a)+y1.e*(19*y2.e))
 rw[hn3] at P34
 obtain⟨V41,V42,V43,V44,P40,P41,P42,P43,P44⟩:=chain5 (y1.a) (y2.e) (y1.b) (y2.d) (y1.c) (y2.c) (y1.d) (y2.b) (y1.e) (y2.a) ⟨w64 HL1.out.1,w64 HL2.out.2.2.2.2⟩ ⟨w64 HL1.out.2.1,w64 HL2.out.2.2.2.1⟩ ⟨w64 HL1.out.2.2.1,w64 HL2.out.2.2.1⟩ ⟨w64 HL1.out.2.2.2.1,w64 HL2.out.2.1⟩ ⟨w64 HL1.out.2.2.2.2,w64 HL2.out.1⟩ (wide_lt HM.out.2.2.2.2)
 obtain⟨h4,o4,hh4,ho4,hn4⟩:=names (y1.a*(y2.e)+y1.b*(y2.d)+y1.c*(y2.c)+y1.d*(y2.b)+y1.e*(y2.a))
 rw[hn4] at P44
 obtain⟨c1,hc1⟩:∃c,19*y2.b=c:=⟨_,rfl⟩
 rw[hc1] at e1
 obtain⟨c2,hc2⟩:∃c,19*y2.c=c:=⟨_,rfl⟩
 rw[hc2] at e2
 obtain⟨c3,hc3⟩:∃c,19*y2.d=c:=⟨_,rfl⟩
 rw[hc3] at e3
 obtain⟨c4,hc4⟩:∃c,19*y2.e=c:=⟨_,rfl⟩
 rw[hc4] at e4
 simp only[hc1,hc2,hc3,hc4] at P00 P01 P02 P03 P04 P10 P11 P12 P13 P14 P20 P21 P22 P23 P24 P30 P31 P32 P33 P34 P40 P41 P42 P43 P44
 have HWV:=Lib.hid (show(y1.mul y2).wv = #[.int .u64 (h0:Int),.int .u64 (o0:Int),.int .u64 (h1:Int),.int .u64 (o1:Int),.int .u64 (h2:Int),.int .u64 (o2:Int),.int .u64 (h3:Int),.int .u64 (o3:Int),.int .u64 (h4:Int),.int .u64 (o4:Int)] by subst hh0 ho0 hh1 ho1 hh2 ho2 hh3 ho3 hh4 ho4;rfl)
 clear hn0 hn1 hn2 hn3 hn4 hc1 hc2 hc3 hc4 hh0 ho0 hh1 ho1 hh2 ho2 hh3 ho3 hh4 ho4 HE
 have P00:=Lib.hid P00
 have P01:=Lib.hid P01
 have P02:=Lib.hid P02
 have P03:=Lib.hid P03
 have P04:=Lib.hid P04
 have P10:=Lib.hid P10
 have P11:=Lib.hid P11
 have P12:=Lib.hid P12
 have P13:=Lib.hid P13
 have P14:=Lib.hid P14
 have P20:=Lib.hid P20
 have P21:=Lib.hid P21
 have P22:=Lib.hid P22
 have P23:=Lib.hid P23
 have P24:=Lib.hid P24
 have P30:=Lib.hid P30
 have P31:=Lib.hid P31
 have P32:=Lib.hid P32
 have P33:=Lib.hid P33
 have P34:=Lib.hid P34
 have P40:=Lib.hid P40
 have P41:=Lib.hid P41
 have P42:=Lib.hid P42
 have P43:=Lib.hid P43
 have P44:=Lib.hid P44
 go_wp2_with fail
 refine(PlusC.run (Hid.out P00) _).mono ?_
 rintro e x1 ⟨rfl,hb⟩
 have D1:=Lib.hid (hb)
 clear hb P00
 go_wp2_with fail
 refine(PlusC.run (Hid.out P01) _).mono ?_
 rintro e x2 ⟨rfl,hb⟩
 have D2:=Lib.hid (below_step D1.out hb)
 clear hb P01 D1
 go_wp2_with fail
 refine(PlusC.run (Hid.out P02) _).mono ?_
 rintro e x3 ⟨rfl,hb⟩
 have D3:=Lib.hid (below_step D2.out hb)
 clear hb P02 D2
 go_wp2_with fail
 refine(PlusC.run (Hid.out P03) _).mono ?_
 rintro e x4 ⟨rfl,hb⟩
 have D4:=Lib.hid (below_step D3.out hb)
 clear hb P03 D3
 go_wp2_with fail
 refine(PlusC.run (Hid.out P04) _).mono ?_
 rintro e x5 ⟨rfl,hb⟩
 have D5:=Lib.hid (below_step D4.out hb)
 clear hb P04 D4
 go_wp2_with fail
 refine(PlusC.run (Hid.out P10) _).mono ?_
 rintro e x6 ⟨rfl,hb⟩
 have D6:=Lib.hid (below_step D5.out hb)
 clear hb P10 D5
 go_wp2_with fail
 refine(PlusC.run (Hid.out P11) _).mono ?_
 rintro e x7 ⟨rfl,hb⟩
 have D7:=Lib.hid (below_step D6.out hb)
 clear hb P11 D6
 go_wp2_with fail
 refine(PlusC.run (Hid.out P12) _).mono ?_
 rintro e x8 ⟨rfl,hb⟩
 have D8:=Lib.hid (below_step D7.out hb)
 clear hb P12 D7
 go_wp2_with fail
 refine(PlusC.run (Hid.out P13) _).mono ?_
 rintro e x9 ⟨rfl,hb⟩
 have D9:=Lib.hid (below_step D8.out hb)
 clear hb P13 D8
 go_wp2_with fail
 refine(PlusC.run (Hid.out P14) _).mono ?_
 rintro e x10 ⟨rfl,hb⟩
 have D10:=Lib.hid (below_step D9.out hb)
 clear hb P14 D9
 go_wp2_with fail
 refine(PlusC.run (Hid.out P20) _).mono ?_
 rintro e x11 ⟨rfl,hb⟩
 have D11:=Lib.hid (below_step D10.out hb)
 clear hb P20 D10
 go_wp2_with fail
 refine(PlusC.run (Hid.out P21) _).mono ?_
 rintro e x12 ⟨rfl,hb⟩
 have D12:=Lib.hid (below_step D11.out hb)
 clear hb P21 D11
 go_wp2_with fail
 refine(PlusC.run (Hid.out P22) _).mono ?_
 rintro e x13 ⟨rfl,hb⟩
 have D13:=Lib.hid (below_step D12.out hb)
 clear hb P22 D12
 go_wp2_with fail
 refine(PlusC.run (Hid.out P23) _).mono ?_
 rintro e x14 ⟨rfl,hb⟩
 have D14:=Lib.hid (below_step D13.out hb)
 clear hb P23 D13
 go_wp2_with fail
 refine(PlusC.run (Hid.out P24) _).mono ?_
 rintro e x15 ⟨rfl,hb⟩
 have D15:=Lib.hid (below_step D14.out hb)
 clear hb P24 D14
 go_wp2_with fail
 refine(PlusC.run (Hid.out P30) _).mono ?_
 rintro e x16 ⟨rfl,hb⟩
 have D16:=Lib.hid (below_step D15.out hb)
 clear hb P30 D15
 go_wp2_with fail
 refine(PlusC.run (Hid.out P31) _).mono ?_
 rintro e x17 ⟨rfl,hb⟩
 have D17:=Lib.hid (below_step D16.out hb)
 clear hb P31 D16
 go_wp2_with fail
 refine(PlusC.run (Hid.out P32) _).mono ?_
 rintro e x18 ⟨rfl,hb⟩
 have D18:=Lib.hid (below_step D17.out hb)
 clear hb P32 D17
 go_wp2_with fail
 refine(PlusC.run (Hid.out P33) _).mono ?_
 rintro e x19 ⟨rfl,hb⟩
 have D19:=Lib.hid (below_step D18.out hb)
 clear hb P33 D18
 go_wp2_with fail
 refine(PlusC.run (Hid.out P34) _).mono ?_
 rintro e x20 ⟨rfl,hb⟩
 have D20:=Lib.hid (below_step D19.out hb)
 clear hb P34 D19
 go_wp2_with fail
 refine(PlusC.run (Hid.out P40) _).mono ?_
 rintro e x21 ⟨rfl,hb⟩
 have D21:=Lib.hid (below_step D20.out hb)
 clear hb P40 D20
 go_wp2_with fail
 refine(PlusC.run (Hid.out P41) _).mono ?_
 rintro e x22 ⟨rfl,hb⟩
 have D22:=Lib.hid (below_step D21.out hb)
 clear hb P41 D21
 go_wp2_with fail
 refine(PlusC.run (Hid.out P42) _).mono ?_
 rintro e x23 ⟨rfl,hb⟩
 have D23:=Lib.hid (below_step D22.out hb)
 clear hb P42 D22
 go_wp2_with fail
 refine(PlusC.run (Hid.out P43) _).mono ?_
 rintro e x24 ⟨rfl,hb⟩
 have D24:=Lib.hid (below_step D23.out hb)
 clear hb P43 D23
 go_wp2_with fail
 refine(PlusC.run (Hid.out P44) _).mono ?_
 rintro e x25 ⟨rfl,hb⟩
 have D25:=Lib.hid (below_step D24.out hb)
 clear hb P44 D24
 have N:=fun(W:World) b=>narrow_any W.heap.size (y1.mul y2) (W.alloc (.cells (y1.mul y2).wv 95)) HM.out b
 rw[HV.out,HR.out] at N
 go_wp2_with fail
 rw[←HWV.out]
 refine(N x25 (Bl.new_ _ _ _)).mono ?_
 rintro e x26 ⟨he,hb⟩
 obtain rfl:e=.returned (.agg #[.int .u64 (r.a:Int),.int .u64 (r.b:Int),.int .u64 (r.c:Int),.int .u64 (r.d:Int),.int .u64 (r.e:Int)]):=he
 have D:=below_step D25.out (((Below.refl x25.heap.size x25).alloc (Nat.le_refl _) (.cells (y1.mul y2).wv 95)).trans (hb.mono (by simp)))
 have hz:=(HB3.out.drewN _).below' D
 have HD:=Lib.hid (show Below w.heap.size w x26 from(below_drewN HB4.out _).trans (D.mono (by have:=HB4.out.size;simpa using this)))
 obtain⟨⟨r0,r1,r2,r3,r4⟩,f0,f1,f2,f3,f4⟩:=cells5 hz
 clear hz D hb N D25 HWV
 go_wp2
 refine bodyPost_ret (v:=.agg r.v) ?_ rfl ⟨rfl,set5_below HD.out (by omega) _ _ _ _ _⟩
 simp[results,Tryz.results38,go_sem,E5.v,r0,r1,r2,r3,r4]
theorem box1z(w:World)(x:E5):Bl ((w.alloc (.cells x.v 31)).alloc (.cells z5 31)) w.heap.size 31 x.v∧Bl ((w.alloc (.cells x.v 31)).alloc (.cells z5 31)) (w.heap.size+1) 31 z5 ∧
  Below w.heap.size w ((w.alloc (.cells x.v 31)).alloc (.cells z5 31)) :=
 ⟨(Bl.new_ w _ x.v).alloc _,Bl.new' _ _ (by simp),((Below.refl _ _).alloc (Nat.le_refl _) _).alloc (by simp) _⟩
set_option maxRecDepth 100000 in
set_option maxHeartbeats 4000000 in
theorem Square_any(x:E5)(w:World)(hx:x.ok) :
  Calls Tryz.prog 58 #[.agg x.v] w fun e w'=>e=.returned (.agg (el (x.val*x.val%pp)).v)∧Below w.heap.size w w':=by
 have HX:=Lib.hid hx
 obtain⟨r,hr⟩:∃r,el (x.val*x.val%pp)=r:=⟨_,rfl⟩
 have HR:=Lib.hid hr
 rw[hr]
 clear hx hr
 obtain⟨B1,B3,B4⟩:=box1z w x
 go_enter Tryz.func58,Tryz.ntmps58
 go_wp2_with fail
 change Calls _ _ _ ((w.alloc (.cells x.v 31)).alloc (.cells z5 31)) _
 generalize hW:(w.alloc (.cells x.v 31)).alloc (.cells z5 31)=W0 at *
 clear hW
 refine(lighten_any _ x _ HX.out B1).mono ?_
 rintro e w1 ⟨rfl,y1,l1,v1,b1,g1⟩
 have B3':=B3.grown g1 (by simp)
 have B4':Below w.heap.size w w1:=B4.grown g1 B4.size (by simp)
 clear B1 B3 B4 g1
 have HL1:=Lib.hid l1
 have HV:=Lib.hid (show y1.sqr.val%pp=x.val*x.val%pp by rw[E5.sqr_mul,E5.mul_val,Nat.mul_mod,v1,←Nat.mul_mod])
 have HM:=Lib.hid (show y1.sqr.wide by rw[E5.sqr_mul];exact E5.mul_wide l1 l1)
 have HB3:=Lib.hid B3'
 have HB4:=Lib.hid B4'
 obtain⟨p0,p1,p2,p3,p4⟩:=c5_of b1
 clear l1 v1 b1 B3' B4'
 go_wp2_with fail
 go_quiet (fail)
 clear p0 p1 p2 p3 p4
 have e3:IntKind.u64.wrap (19*(y1.d:Int))=((19*y1.d:Nat):Int):=by have:=w19 HL1.out.2.2.2.1;rw[IntKind.wrap_u64];omega
 have e4:IntKind.u64.wrap (19*(y1.e:Int))=((19*y1.e:Nat):Int):=by have:=w19 HL1.out.2.2.2.2;rw[IntKind.wrap_u64];omega
 have t0:IntKind.u64.wrap (2*(y1.a:Int))=((2*y1.a:Nat):Int):=by have:=w2 HL1.out.1;rw[IntKind.wrap_u64];omega
 have t1:IntKind.u64.wrap (2*(y1.b:Int))=((2*y1.b:Nat):Int):=by have:=w2 HL1.out.2.1;rw[IntKind.wrap_u64];omega
 have t2:IntKind.u64.wrap (2*(y1.c:Int))=((2*y1.c:Nat):Int):=by have:=w2 HL1.out.2.2.1;rw[IntKind.wrap_u64];omega
 have t3:IntKind.u64.wrap (2*(y1.d:Int))=((2*y1.d:Nat):Int):=by have:=w2 HL1.out.2.2.2.1;rw[IntKind.wrap_u64];omega
 obtain⟨V01,V02,P00,P01,P02⟩:=chain3 (y1.a) (y1.a) (2*y1.b) (19*y1.e) (2*y1.c) (19*y1.d) ⟨w64 HL1.out.1,w64 HL1.out.1⟩ ⟨w2 HL1.out.2.1,w19 HL1.out.2.2.2.2⟩ ⟨w2 HL1.out.2.2.1,w19 HL1.out.2.2.2.1⟩ (wide_lt HM.out.1)
 obtain⟨h0,o0,hh0,ho0,hn0⟩:=names (y1.a*(y1.a)+2*y1.b*(19*y1.e)+2*y1.c*(19*y1.d))
 rw[hn0] at P02
 obtain⟨V11,V12,P10,P11,P12⟩:=chain3 (2*y1.a) (y1.b) (2*y1.c) (19*y1.e) (y1.d) (19*y1.d) ⟨w2 HL1.out.1,w64 HL1.out.2.1⟩ ⟨w2 HL1.out.2.2.1,w19 HL1.out.2.2.2.2⟩ ⟨w64 HL1.out.2.2.2.1,w19 HL1.out.2.2.2.1⟩ (wide_lt HM.out.2.1)
 obtain⟨h1,o1,hh1,ho1,hn1⟩:=names (2*y1.a*(y1.b)+2*y1.c*(19*y1.e)+y1.d*(19*y1.d))
 rw[hn1] at P12
 obtain⟨V21,V22,P20,P21,P22⟩:=chain3 (2*y1.a) (y1.c) (y1.b) (y1.b) (2*y1.d) (19*y1.e) ⟨w2 HL1.out.1,w64 HL1.out.2.2.1⟩ ⟨w64 HL1.out.2.1,w64 HL1.out.2.1⟩ ⟨w2 HL1.out.2.2.2.1,w19 HL1.out.2.2.2.2⟩ (wide_lt HM.out.2.2.1)
 obtain⟨h2,o2,hh2,ho2,hn2⟩:=names (2*y1.a*(y1.c)+y1.b*(y1.b)+2*y1.d*(19*y1.e))
 rw[hn2] at P22
 obtain⟨V31,V32,P30,P31,P32⟩:=chain3 (2*y1.a) (y1.d) (2*y1.b) (y1.c) (y1.e) (19*y1.e) ⟨w2 HL1.out.1,w64 HL1.out.2.2.2.1⟩ ⟨w2 HL1.out.2.1,w64 HL1.out.2.2.1⟩ ⟨w64 HL1.out.2.2.2.2,w19 HL1.out.2.2.2.2⟩ (wide_lt HM.out.2.2.2.1)
 obtain⟨h3,o3,hh3,ho3,hn3⟩:=names (2*y1.a*(y1.d)+2*y1.b*(y1.c)+y1.e*(19*y1.e))
 rw[hn3] at P32
 obtain⟨V41,V42,P40,P41,P42⟩:=chain3 (2*y1.a) (y1.e) (2*y1.b) (y1.d) (y1.c) (y1.c) ⟨w2 HL1.out.1,w64 HL1.out.2.2.2.2⟩ ⟨w2 HL1.out.2.1,w64 HL1.out.2.2.2.1⟩ ⟨w64 HL1.out.2.2.1,w64 HL1.out.2.2.1⟩ (wide_lt HM.out.2.2.2.2)
 obtain⟨h4,o4,hh4,ho4,hn4⟩:=names (2*y1.a*(y1.e)+2*y1.b*(y1.d)+y1.c*(y1.c))
 rw[hn4] at P42
 obtain⟨c3,hc3⟩:∃c,19*y1.d=c:=⟨_,rfl⟩
 rw[hc3] at e3
 obtain⟨c4,hc4⟩:∃c,19*y1.e=c:=⟨_,rfl⟩
 rw[hc4] at e4
 obtain⟨d0,hd0⟩:∃c,2*y1.a=c:=⟨_,rfl⟩
 rw[hd0] at t0
 obtain⟨d1,hd1⟩:∃c,2*y1.b=c:=⟨_,rfl⟩
 rw[hd1] at t1
 obtain⟨d2,hd2⟩:∃c,2*y1.c=c:=⟨_,rfl⟩
 rw[hd2] at t2
 obtain⟨d3,hd3⟩:∃c,2*y1.d=c:=⟨_,rfl⟩
 rw[hd3] at t3
 have HWV:=Lib.hid (show y1.sqr.wv = #[.int .u64 (h0:Int),.int .u64 (o0:Int),.int .u64 (h1:Int),.int .u64 (o1:Int),.int .u64 (h2:Int),.int .u64 (o2:Int),.int .u64 (h3:Int),.int .u64 (o3:Int),.int .u64 (h4:Int),.int .u64 (o4:Int)] by subst hh0 ho0 hh1 ho1 hh2 ho2 hh3 ho3 hh4 ho4;rfl)
 simp only[hc3,hc4,hd0,hd1,hd2,hd3] at P00 P01 P02 P10 P11 P12 P20 P21 P22 P30 P31 P32 P40 P41 P42
 clear hn0 hn1 hn2 hn3 hn4 hc3 hc4 hd0 hd1 hd2 hd3 hh0 ho0 hh1 ho1 hh2 ho2 hh3 ho3 hh4 ho4
 have P00:=Lib.hid P00
 have P01:=Lib.hid P01
 have P02:=Lib.hid P02
 have P10:=Lib.hid P10
 have P11:=Lib.hid P11
 have P12:=Lib.hid P12
 have P20:=Lib.hid P20
 have P21:=Lib.hid P21
 have P22:=Lib.hid P22
 have P30:=Lib.hid P30
 have P31:=Lib.hid P31
 have P32:=Lib.hid P32
 have P40:=Lib.hid P40
 have P41:=Lib.hid P41
 have P42:=Lib.hid P42
 go_wp2_with fail
 refine(PlusC.run (Hid.out P00) _).mono ?_
 rintro e x1 ⟨rfl,hb⟩
 have D1:=Lib.hid (hb)
 clear hb P00
 go_wp2_with fail
 refine(PlusC.run (Hid.out P01) _).mono ?_
 rintro e x2 ⟨rfl,hb⟩
 have D2:=Lib.hid (below_step D1.out hb)
 clear hb P01 D1
 go_wp2_with fail
 refine(PlusC.run (Hid.out P02) _).mono ?_
 rintro e x3 ⟨rfl,hb⟩
 have D3:=Lib.hid (below_step D2.out hb)
 clear hb P02 D2
 go_wp2_with fail
 refine(PlusC.run (Hid.out P10) _).mono ?_
 rintro e x4 ⟨rfl,hb⟩
 have D4:=Lib.hid (below_step D3.out hb)
 clear hb P10 D3
 go_wp2_with fail
 refine(PlusC.run (Hid.out P11) _).mono ?_
 rintro e x5 ⟨rfl,hb⟩
 have D5:=Lib.hid (below_step D4.out hb)
 clear hb P11 D4
 go_wp2_with fail
 refine(PlusC.run (Hid.out P12) _).mono ?_
 rintro e x6 ⟨rfl,hb⟩
 have D6:=Lib.hid (below_step D5.out hb)
 clear hb P12 D5
 go_wp2_with fail
 refine(PlusC.run (Hid.out P20) _).mono ?_
 rintro e x7 ⟨rfl,hb⟩
 have D7:=Lib.hid (below_step D6.out hb)
 clear hb P20 D6
 go_wp2_with fail
 refine(PlusC.run (Hid.out P21) _).mono ?_
 rintro e x8 ⟨rfl,hb⟩
 have D8:=Lib.hid (below_step D7.out hb)
 clear hb P21 D7
 go_wp2_with fail
 refine(PlusC.run (Hid.out P22) _).mono ?_
 rintro e x9 ⟨rfl,hb⟩
 have D9:=Lib.hid (below_step D8.out hb)
 clear hb P22 D8
 go_wp2_with fail
 refine(PlusC.run (Hid.out P30) _).mono ?_
 rintro e x10 ⟨rfl,hb⟩
 have D10:=Lib.hid (below_step D9.out hb)
 clear hb P30 D9
 go_wp2_with fail
 refine(PlusC.run (Hid.out P31) _).mono ?_
 rintro e x11 ⟨rfl,hb⟩
 have D11:=Lib.hid (below_step D10.out hb)
 clear hb P31 D10
 go_wp2_with fail
 refine(PlusC.run (Hid.out P32) _).mono ?_
 rintro e x12 ⟨rfl,hb⟩
 have D12:=Lib.hid (below_step D11.out hb)
 clear hb P32 D11
 go_wp2_with fail
 refine(PlusC.run (Hid.out P40) _).mono ?_
 rintro e x13 ⟨rfl,hb⟩
 have D13:=Lib.hid (below_step D12.out hb)
 clear hb P40 D12
 go_wp2_with fail
 refine(PlusC.run (Hid.out P41) _).mono ?_
 rintro e x14 ⟨rfl,hb⟩
 have D14:=Lib.hid (below_step D13.out hb)
 clear hb P41 D13
 go_wp2_with fail
 refine(PlusC.run (Hid.out P42) _).mono ?_
 rintro e x15 ⟨rfl,hb⟩
 have D15:=Lib.hid (below_step D14.out hb)
 clear hb P42 D14
 have N:=fun(W:World) b=>narrow_any W.heap.size y1.sqr (W.alloc (.cells y1.sqr.wv 95)) HM.out b
 rw[HV.out,HR.out] at N
 go_wp2_with fail
 rw[←HWV.out]
 refine(N x15 (Bl.new_ _ _ _)).mono ?_
 rintro e x16 ⟨he,hb⟩
 obtain rfl:e=.returned (.agg #[.int .u64 (r.a:Int),.int .u64 (r.b:Int),.int .u64 (r.c:Int),.int .u64 (r.d:Int),.int .u64 (r.e:Int)]):=he
 have D:=below_step D15.out (((Below.refl x15.heap.size x15).alloc (Nat.le_refl _) (.cells y1.sqr.wv 95)).trans (hb.mono (by simp)))
 have hz:=(HB3.out.drewN _).below' D
 have HD:=Lib.hid (show Below w.heap.size w x16 from(below_drewN HB4.out _).trans (D.mono (by have:=HB4.out.size;simpa using this)))
 obtain⟨⟨r0,r1,r2,r3,r4⟩,f0,f1,f2,f3,f4⟩:=cells5 hz
 clear hz D hb N D15 HWV
 go_wp2
 refine bodyPost_ret (v:=.agg r.v) ?_ rfl ⟨rfl,set5_below HD.out (by omega) _ _ _ _ _⟩
 simp[results,Tryz.results58,go_sem,E5.v,r0,r1,r2,r3,r4]
end Go.Proofs.YtoibhnpmemnlfaaGreatDoor.Fd
