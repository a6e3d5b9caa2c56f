/- Joined texts. -/
import Derived.Outline
import Derived.Test.YtjimhjfjfpeojaaGreatDoorQvSaD
import Derived.Test.YtjimhjfjfpeojaaGreatDoorQvGnA
import Derived.Test.YtjimhjfjfpeojaaGreatDoorQvShRE
import Derived.Deep.DeepCutAuto
import Derived.Test.YtjimhjfjfpeojaaGreatDoorQvEdU
set_option maxRecDepth 100000
set_option maxHeartbeats 8000000
set_option linter.unusedVariables false
namespace Go.Proofs.YtjimhjfjfpeojaaGreatDoor.Sh
open Go.RowKit Go.Proofs.YtjimhjfjfpeojaaGreatDoor.Gn Go.Deep
theorem Zrg:(Tryz.prog.info? 5).map (fun i=>(i.zero,i.size,i.bytes))=some (some (.int .u8 0),1,1):=by kernel_rfl
def zer(n:Nat):List Nat:=List.replicate n 0
theorem Zjh(n:Nat):zer n ++ [0]=zer (n+1):=by unfold zer;rw[List.replicate_succ']
theorem Zji(n k:Nat)(hn:n≤1048576):8*n / 256 ^ k≤8388608:=Nat.le_trans (Nat.div_le_self _ _) (by omega)
theorem Zdj(X t:Nat):X / 256 ^ t / 256=X / 256 ^ (t+1):=by rw[Nat.div_div_eq_div_mul,Nat.pow_succ]
theorem Zb3(n k:Nat):(k < padz true n→(n+(k+1)+16)%128≠0)∧(k=padz true n→(n+(k+1)+16)%128=0):=by
 have:=Nat.mod_lt n (show 0 < 128 by decide)
 simp only[padz,bk]
 constructor
 ·intro h;simp at h;split at h <;> omega
 ·intro h;simp at h;split at h <;> omega
def Ztu(n:Nat)(w:World)(o:Value)(wr:World):Prop :=
 ∃k:Nat,k≤padz true n∧wr.ownsRow w.heap.size 5 1 o (k+1) (bl (128 :: zer k))∧Below w.heap.size w wr
def Ztv(n:Nat)(w2:World)(o t i:Value)(wr:World):Prop :=
 ∃k:Nat,k≤16∧i=.int .i64 (k:Int)∧t=.int .u64 ((8*n / 256 ^ k:Nat):Int)∧wr.ownsRow w2.heap.size 5 1 o k (bl (be (8*n) k))∧Below w2.heap.size w2 wr
theorem Zh6(n:Nat):padz true n≤256:=by simp only[padz,bk];simp;split <;> omega
theorem Zdk(n:Nat)(w:World)(hn:n≤1048576) :
  Calls Tryz.prog 132 #[.int .i64 (n:Int),.int .i64 512] w fun e w' =>
   ∃v,e=.returned (.tuple #[v,.int .i64 0])∧w'.ownsRow w.heap.size 5 1 v (pads true n) (bl (pad true n))∧Below w.heap.size w w':=by
 have t1:decide ((n:Int) < 0)=false:=decide_eq_false (by omega)
 have t2:decide (1048576 < (n:Int))=false:=by simp;omega
 obtain⟨i0,hi,hz0,hz1,hz2⟩:=info_parts Zrg
 have HPZ:=Lib.hid (Zh6 n)
 go_enter Tryz.func132,Tryz.ntmps132
 go_wp2_with fail
 go_loopw [8] (fun o wr=>Ztu n w o wr) (fun o _=>padz true n+1 - slen o)
 case atStart=>exact⟨0,Nat.zero_le _,Z9u w _ [.int .u8 128] (by unfold maxLen;simp),(Below.refl _ _).alloc (Nat.le_refl _) _⟩
 case round =>
  obtain⟨k,hk,hown,hbel⟩:=hrel
  obtain⟨A,cap,rfl,hsl,hnil,hlc,hmax,hA⟩:=Sl.own hown
  have HOWN:=Lib.hid hown
  have HBEL:=Lib.hid hbel
  have HA:=Lib.hid hA
  have HSL:=Lib.hid hsl
  have HNIL:=Lib.hid hnil
  clear hown hbel hsl hnil hmax hA
  obtain⟨p1,p2⟩:=Zb3 n k
  obtain⟨m,hm⟩:∃m,m=(n+(k+1)+16)%128:=⟨_,rfl⟩
  have em:((n:Int)+((k:Int)+1)+16)%128=(m:Int):=by omega
  have hk6:k≤256:=by have:=HPZ.out;omega
  by_cases hlt:k < padz true n
  ·have hne:((m:Int) != 0)=true:=by have:=p1 hlt;simp;omega
   clear p1 p2 hm
   go_wp2_with (at_builtin;refine Z0i rfl _ _ 22 rfl w.heap.size 5 i0 _ 1 Tryz.underlying22 hi hz0 hz1 hz2 rfl _ (k+1) (bl (128 :: zer k)) rfl (own_below HOWN.out ((Below.refl _ _).alloc (Nat.le_refl _) _)) (some ⟨wr.heap.size,0,none⟩) 1 1 [.int .u8 0] rfl (fun h=>by cases h) ?c1 ?c2 ?c3 ?c4 ?c5 ?_)
   case c1=>exact Sl.new_ wr _ [.int .u8 0]
   case c2=>intro u hu;simp at hu;subst hu;rfl
   case c3=>have:=HPZ.out;unfold maxLen;omega
   case c4=>have:=HPZ.out;omega
   case c5=>have:=HBEL.out.size;simp;omega
   intro v' w1 hown1 hgrow
   have hbel1:Below w.heap.size w w1:=(HBEL.out.alloc HBEL.out.size _).grown hgrow (by have:=HBEL.out.size;simp;omega) (by
    intro g hg;simp only[Value.ownBlock] at hg;cases hA':A with
    |none=>rw[hA'] at hg;cases hg
    |some ad=>rw[hA'] at hg;simp at hg;have:=HA.out ad hA';omega)
   have HO1:=Lib.hid hown1
   have HB1:=Lib.hid hbel1
   clear hown1 hgrow hbel1
   go_wp2
   obtain⟨A',cap',rfl,_,_,_,_,_⟩:=Sl.own HO1.out
   go_roundw
   case rel =>
    refine⟨k+1,by omega,?_,HB1.out⟩
    have e:bl (128 :: zer k) ++ [.int .u8 0]=bl (128 :: zer (k+1)):=by
     rw[show[Value.int .u8 0]=bl [0] from rfl,←Z4d,List.cons_append,Zjh]
    rw[←e];exact HO1.out
   case measure=>simp[slen];omega
  ·have hk':k=padz true n:=by omega
   have hne:((m:Int) != 0)=false:=by have:=p2 hk';simp;omega
   clear p1 p2 hm
   have HK:=Lib.hid hk'
   clear hk'
   obtain⟨w2,rfl⟩:∃w2:World,w2=wr:=⟨_,rfl⟩
   go_wp2_with fail
   clear em hne
   go_loopw [9,10,11] (fun o t i wx=>Ztv n w2 o t i wx) (fun _ _ i _=>16 - (intOf i).toNat)
   case atStart=>exact⟨0,Nat.zero_le _,rfl,congrArg _ (by simp;omega),Z4v _ _ _,Below.refl _ _⟩
   case round =>
    obtain⟨j,hj,rfl,rfl,hown,hbel⟩:=hrel
    obtain⟨A2,cap2,rfl,hsl2,hnil2,hlc2,hmax2,hA2⟩:=Sl.own hown
    have G1:=Lib.hid hown
    have G2:=Lib.hid hbel
    have G3:=Lib.hid hsl2
    have G4:=Lib.hid hnil2
    have G5:=Lib.hid hA2
    clear hown hbel hsl2 hnil2 hmax2 hA2
    obtain⟨L,hL⟩:∃L,L=8*n / 256 ^ j:=⟨_,rfl⟩
    have hLb:L≤8388608:=by rw[hL];exact Zji n j hn
    rw[←hL]
    have HL:=Lib.hid hL
    clear hL
    by_cases hjl:j < 16
    ·go_wp2_with (at_builtin;refine Z0i rfl _ _ 22 rfl wr.heap.size 5 i0 _ 1 Tryz.underlying22 hi hz0 hz1 hz2 rfl _ 1 [.int .u8 ((L:Int)%256)] rfl (Z9u wr _ _ (by unfold maxLen;simp)) A2 j cap2 (bl (be (8*n) j)) rfl G4.out ?c1 ?c2 ?c3 ?c4 ?c5 ?_)
     case c1=>exact G3.out.below ((Below.refl _ _).alloc (Nat.le_refl _) _)
     case c2=>exact Z6z _
     case c3=>unfold maxLen;omega
     case c4=>omega
     case c5=>simp
     intro v' w1 hown1 hgrow
     have hbel1:Below w2.heap.size w2 w1:=(G2.out.alloc G2.out.size _).grown hgrow (by have:=G2.out.size;simp;omega) (by
      intro g hg;simp[Value.ownBlock] at hg;have:=G2.out.size;omega)
     have HO1:=Lib.hid (Z7k hown1 G2.out.size)
     have HB1:=Lib.hid hbel1
     clear hown1 hgrow hbel1
     go_wp2
     go_roundw
     case rel =>
      refine⟨j+1,by omega,by go_num,?_,?_,HB1.out⟩
      ·have e1:=Zdj (8*n) j
       rw[←HL.out] at e1
       rw[←e1];exact congrArg _ (by simp)
      ·have e2:(L:Int)%256=((8*n / 256 ^ j%256:Nat):Int):=by rw[HL.out];simp
       have:=HO1.out
       rw[e2,Nat.add_comm] at this
       exact this
     case measure=>simp[intOf];omega
    ·obtain rfl:j=16:=by omega
     go_wp2_with (at_builtin;refine Z0i rfl _ _ 22 rfl w.heap.size 5 i0 _ 1 Tryz.underlying22 hi hz0 hz1 hz2 rfl _ (k+1) (bl (128 :: zer k)) rfl (own_below HOWN.out G2.out) A2 16 cap2 (bl (be (8*n) 16)) rfl G4.out G3.out ?c2 ?c3 ?c4 ?c5 ?_)
     case c2=>exact Z6z _
     case c3=>unfold maxLen;omega
     case c4=>omega
     case c5=>have:=HBEL.out.size;have:=G2.out.size;omega
     intro v' w1 hown1 hgrow
     have hbel1:Below w.heap.size w w1:=(HBEL.out.trans (G2.out.mono HBEL.out.size)).grown hgrow (by have:=HBEL.out.size;have:=G2.out.size;omega) (by
      intro g hg;simp only[Value.ownBlock] at hg;cases hA':A with
      |none=>rw[hA'] at hg;cases hg
      |some ad=>rw[hA'] at hg;simp at hg;have:=HA.out ad hA';omega)
     have HO1:=Lib.hid hown1
     have HB1:=Lib.hid hbel1
     clear hown1 hgrow hbel1
     go_wp2
     go_ret2
     refine⟨_,rfl,?_,HB1.out⟩
     have e1:k+1+16=pads true n:=by rw[HK.out];exact Z6n true n
     have e2:bl (128 :: zer k) ++ bl (be (8*n) 16)=bl (pad true n):=by rw[←Z4d,HK.out];rfl
     rw[←e1,←e2];exact HO1.out
theorem Z6y(w:World):Calls Tryz.prog 133 #[] w fun e w'=>e=.returned (.slice (some ⟨w.heap.size,0,none⟩) 80 80)∧w'=w.alloc (.cells (nl kc).toArray 24):=by
 go_enter Tryz.func133,Tryz.ntmps133
 go_wp2_with fail
 go_ret
 refine⟨rfl,?_⟩
 refine congrArg (fun a=>w.alloc (.cells a 24)) ?_
 kernel_rfl
theorem Zb4(w:World):Calls Tryz.prog 134 #[] w fun e w'=>e=.returned (.slice (some ⟨w.heap.size,0,none⟩) 8 8)∧w'=w.alloc (.cells (nl sc).toArray 24):=by
 go_enter Tryz.func134,Tryz.ntmps134
 go_wp2
 go_ret
 exact⟨rfl,rfl⟩
attribute [local go_sem ↓] Go.wp_at_zero Go.wp_at_succ
theorem Ztw(x y z:Nat):x &&& y ||| x &&& z ||| y &&& z=ma x y z:=by
 unfold ma
 apply Nat.eq_of_testBit_eq
 intro i
 simp only[Nat.testBit_or,Nat.testBit_xor,Nat.testBit_and]
 cases x.testBit i <;> cases y.testBit i <;> cases z.testBit i <;> rfl
theorem Zjj(x:Int):0≤IntKind.u64.wrap x:=by rw[IntKind.wrap_u64];omega
theorem Zjk(x:Int):IntKind.u64.wrap x < 18446744073709551616:=by rw[IntKind.wrap_u64];omega
def nl8(v:V8):List Value:=[.int .u64 (v.a:Int),.int .u64 (v.b:Int),.int .u64 (v.c:Int),.int .u64 (v.d:Int),.int .u64 (v.e:Int),.int .u64 (v.f:Int),.int .u64 (v.g:Int),.int .u64 (v.k:Int)]
theorem Znx(e f g:Nat)(he:e < 18446744073709551616)(hf:f < 18446744073709551616)(hg:g < 18446744073709551616):e &&& f ||| (18446744073709551616 - 1 - e) &&& g=ch true e f g:=by
 unfold ch
 rw[Z0w]
 apply Nat.eq_of_testBit_eq
 intro i
 have h2:(2 ^ 64 - (e+1)).testBit i=(decide (i < 64) && !e.testBit i):=Nat.testBit_two_pow_sub_succ (by exact he) i
 rw[show 18446744073709551616 - 1 - e=2 ^ 64 - (e+1) by omega]
 simp only[Nat.testBit_or,Nat.testBit_xor,Nat.testBit_and,h2]
 cases e.testBit i <;> simp
theorem Zh7(e:Nat)(he:e < 18446744073709551616):bits .xor .u64 IntKind.u64.max (e:Int)%18446744073709551616=((18446744073709551616 - 1 - e:Nat):Int):=by
 have h:=Zg2 e (Nat.lt_of_lt_of_le he (by decide))
 rw[h]
 omega
theorem Ztx(e f g:Nat)(he:e < 18446744073709551616)(hf:f < 18446744073709551616)(hg:g < 18446744073709551616) :
  bits .or .u64 (bits .and .u64 (e:Int) (f:Int)) (bits .and .u64 ((18446744073709551616 - 1 - e:Nat):Int) (g:Int))=((ch true e f g:Nat):Int):=by
 have e6:e < 2 ^ 64:=Nat.lt_of_lt_of_le he (by decide)
 have f6:f < 2 ^ 64:=Nat.lt_of_lt_of_le hf (by decide)
 have g6:g < 2 ^ 64:=Nat.lt_of_lt_of_le hg (by decide)
 have n6:18446744073709551616 - 1 - e < 2 ^ 64:=Nat.lt_of_lt_of_le (show 18446744073709551616 - 1 - e < 18446744073709551616 by omega) (by decide)
 rw[u64_and_nat _ _ e6 f6,u64_and_nat _ _ n6 g6,u64_or_nat _ _ (Nat.and_lt_two_pow _ f6) (Nat.and_lt_two_pow _ g6),Znx e f g he hf hg]
theorem Zty(x y z:Nat)(hx:x < 18446744073709551616)(hy:y < 18446744073709551616)(hz:z < 18446744073709551616) :
  bits .or .u64 (bits .or .u64 (bits .and .u64 (x:Int) (y:Int)) (bits .and .u64 (x:Int) (z:Int))) (bits .and .u64 (y:Int) (z:Int))=((ma x y z:Nat):Int):=by
 have x6:x < 2 ^ 64:=Nat.lt_of_lt_of_le hx (by decide)
 have y6:y < 2 ^ 64:=Nat.lt_of_lt_of_le hy (by decide)
 have z6:z < 2 ^ 64:=Nat.lt_of_lt_of_le hz (by decide)
 rw[u64_and_nat _ _ x6 y6,u64_and_nat _ _ x6 z6,u64_and_nat _ _ y6 z6,u64_or_nat _ _ (Nat.and_lt_two_pow _ y6) (Nat.and_lt_two_pow _ z6),u64_or_nat _ _ (Nat.or_lt_two_pow (Nat.and_lt_two_pow _ y6) (Nat.and_lt_two_pow _ z6)) (Nat.and_lt_two_pow _ z6),Ztw]
theorem Zb5(g c:Nat)(V:V8)(hV:Lt8 true V)(k x:Nat)(w:World)(hs:Sl w (some ⟨g,0,none⟩) 8 (nl8 V)) :
  Calls Tryz.prog 136 #[.agg rv64,.slice (some ⟨g,0,none⟩) 8 c,.int .u64 (k:Int),.int .u64 (x:Int)] w
   fun e w'=>∃q,e=.returned (.slice (some ⟨q,0,none⟩) 8 8)∧Bl w' q 24 (nl8 (rnd true (k / 2 ^ (64 - 64)) x V)).toArray∧Below w.heap.size w w':=by
 have LV:=Lib.hid hV
 have cs:∀j v,(nl8 V)[j]?=some v→w.cell? ⟨g,j,none⟩=some v:=fun j v hj=>by
  obtain⟨ad,e,hc⟩:=hs.2 j v hj
  cases e
  rw[←Z41];exact hc
 have k0:=cs 0 _ rfl
 have k1:=cs 1 _ rfl
 have k2:=cs 2 _ rfl
 have k3:=cs 3 _ rfl
 have k4:=cs 4 _ rfl
 have k5:=cs 5 _ rfl
 have k6:=cs 6 _ rfl
 have k7:=cs 7 _ rfl
 clear hs hV cs
 obtain⟨a,b,c2,d,e,f,g2,k8⟩:=V
 simp only at k0 k1 k2 k3 k4 k5 k6 k7
 have GA:=Lib.hid (show ∀w,Calls Tryz.prog 148 #[.agg #[.int .u64 0,.int .u64 64],.int .u64 (a:Int),(.int .u64 28),(.int .u64 34),(.int .u64 39)] w fun e w'=>e=.returned (.int .u64 ((g0 true a:Nat):Int))∧Below w.heap.size w w' from fun w=>Zko a _ _ _ w (Lib.hid (by have:=LV.out.a;rwa [Z0w] at this)) (by decide) (by decide) (by decide) (by decide) (by decide) (by decide))
 have GE:=Lib.hid (show ∀w,Calls Tryz.prog 148 #[.agg #[.int .u64 0,.int .u64 64],.int .u64 (e:Int),(.int .u64 14),(.int .u64 18),(.int .u64 41)] w fun e' w'=>e'=.returned (.int .u64 ((g1 true e:Nat):Int))∧Below w.heap.size w w' from fun w=>Zko e _ _ _ w (Lib.hid (by have:=LV.out.e;rwa [Z0w] at this)) (by decide) (by decide) (by decide) (by decide) (by decide) (by decide))
 unfold rv64
 go_enter Tryz.func136,Tryz.ntmps136
 go_upto_region 1 with fail
 have c0:(w.alloc (.cells #[.int .u64 0,.int .u64 64] 145)).cell? ⟨w.heap.size,0,none⟩=some (.int .u64 0):=(Bl.new_ w 145 #[.int .u64 0,.int .u64 64]).cell_ rfl
 have c1:(w.alloc (.cells #[.int .u64 0,.int .u64 64] 145)).cell? ⟨w.heap.size,1,none⟩=some (.int .u64 64):=(Bl.new_ w 145 #[.int .u64 0,.int .u64 64]).cell_ rfl
 have b0:Below w.heap.size w (w.alloc (.cells #[.int .u64 0,.int .u64 64] 145)):=(Below.refl _ _).alloc (Nat.le_refl _) _
 generalize hw0:w.alloc _=w0 at c0 c1 b0 ⊢
 clear hw0
 have j0:=Z05 b0 k0
 have j1:=Z05 b0 k1
 have j2:=Z05 b0 k2
 have j3:=Z05 b0 k3
 have j4:=Z05 b0 k4
 have j5:=Z05 b0 k5
 have j6:=Z05 b0 k6
 have j7:=Z05 b0 k7
 have B0:=Lib.hid b0
 clear b0 k0 k1 k2 k3 k4 k5 k6 k7
 go_quiet (fail)
 obtain⟨w1,hw1⟩:∃w1,w1=w0.drewN nq:=⟨_,rfl⟩
 rw[←hw1]
 have B1:=Lib.hid (show Below w.heap.size w w1 by rw[hw1];exact below_drewN B0.out nq)
 have FK:=Lib.hid (show ∀y:World,Below w1.heap.size w1 y→y.cell? ⟨w.heap.size,0,none⟩=some (.int .u64 0)∧y.cell? ⟨w.heap.size,1,none⟩=some (.int .u64 64)∧y.cell? ⟨g,3,none⟩=some (.int .u64 (d:Int))∧y.cell? ⟨g,7,none⟩=some (.int .u64 (k8:Int)) from
  fun y hy=>by rw[hw1] at hy;exact⟨Z05 hy c0,Z05 hy c1,Z05 hy j3,Z05 hy j7⟩)
 clear c0 c1 j0 j1 j2 j3 j4 j5 j6 j7 hw1
 have HC:=Lib.hid (fun X h0 h1 w=>Zh2 X h0 h1 w)
 have HCE:=Lib.hid (show ∀w,Calls Tryz.prog 137 #[.agg rv64,.int .u64 (bits .xor .u64 IntKind.u64.max (e:Int))] w fun e' w'=>e'=.returned (.int .u64 ((18446744073709551616 - 1 - e:Nat):Int))∧Below w.heap.size w w' from fun w=>by
  have he:e < 18446744073709551616:=by have:=LV.out.e;rwa [Z0w] at this
  have h6:=Zg2 e (Nat.lt_of_lt_of_le he (by decide))
  rw[←Zh7 e he]
  exact Zh2 _ (by rw[h6];omega) (Lib.hid (by rw[h6];omega)) w)
 unfold rv64 at HC HCE
 obtain⟨c0,c1,j3,j7⟩:=FK.out _ (Below.refl _ _)
 go_wp2_with (first|(go_at_call 148;(with_reducible refine(GE.out _).mono ?_);rintro e' w2 ⟨rfl,hb2⟩;have K2:=Lib.hid hb2;clear hb2 c0 c1 j3 j7;obtain⟨c0,c1,j3,j7⟩:=FK.out _ K2.out)|(go_at_call 148;(with_reducible refine(GA.out _).mono ?_);rintro e' w3 ⟨rfl,hb3⟩;have K3:=Lib.hid (K2.out.trans (hb3.mono K2.out.size));clear hb3 c0 c1 j3 j7;obtain⟨c0,c1,j3,j7⟩:=FK.out _ K3.out)|(go_at_call 137;(with_reducible refine(HCE.out _).mono ?_);rintro e' w4 ⟨rfl,hb4⟩;have K4:=Lib.hid (K3.out.trans (hb4.mono K3.out.size));clear hb4 c0 c1 j3 j7;obtain⟨c0,c1,j3,j7⟩:=FK.out _ K4.out))
 have he:e < 18446744073709551616:=by have:=LV.out.e;rwa [Z0w] at this
 have hf:f < 18446744073709551616:=by have:=LV.out.f;rwa [Z0w] at this
 have hg2:g2 < 18446744073709551616:=by have:=LV.out.g;rwa [Z0w] at this
 have ha:a < 18446744073709551616:=by have:=LV.out.a;rwa [Z0w] at this
 have hb:b < 18446744073709551616:=by have:=LV.out.b;rwa [Z0w] at this
 have hc2:c2 < 18446744073709551616:=by have:=LV.out.c;rwa [Z0w] at this
 have eC:bits .or .u64 (bits .and .u64 (e:Int) (f:Int)) (bits .and .u64 ((18446744073709551615 - e:Nat):Int) (g2:Int))=((ch true e f g2:Nat):Int):=Ztx e f g2 he hf hg2
 rw[eC,Zty a b c2 ha hb hc2]
 clear eC he hf hg2 ha hb hc2
 generalize hT:IntKind.u64.wrap (IntKind.u64.wrap (IntKind.u64.wrap (IntKind.u64.wrap ((k8:Int)+((g1 true e:Nat):Int))+((ch true e f g2:Nat):Int))+(k:Int))+(x:Int))=T
 have HT:=Lib.hid hT
 clear hT j7
 go_region_held3 (fun x'=>x'.cell? ⟨w.heap.size,0,none⟩=some (.int .u64 0)∧x'.cell? ⟨w.heap.size,1,none⟩=some (.int .u64 64)∧x'.cell? ⟨g,3,none⟩=some (.int .u64 (d:Int)))
  (first|exact⟨c0,c1,j3⟩|exact⟨Z05 L2 c0,Z05 L2 c1,Z05 L2 j3⟩|exact⟨Z05 L1 c0,Z05 L1 c1,Z05 L1 j3⟩|exact⟨Z05 (L2.alloc L2.size _) c0,Z05 (L2.alloc L2.size _) c1,Z05 (L2.alloc L2.size _) j3⟩)
  (first|(go_at_call 137;(with_reducible refine(HC.out _ (Zjj _) (Lib.hid (Zjk _)) _).mono ?_);rintro e' w5 ⟨rfl,hb5⟩;(first|(have L2:=L1.trans (hb5.mono L1.size))|(have L1:=Z2c hb5))))
 rename_i hHeld
 clear hHeld
 have B5:=Lib.hid ((B1.out.trans (K4.out.mono B1.out.size)).trans (L2.mono (by have:=B1.out.size;have:=K4.out.size;omega)))
 clear L1 L2 c0 c1 j3 hb5
 go_wp2_with fail
 go_ret
 have eK:(k:Int) / 2 ^ (64 - 64)=((k / 2 ^ (64 - 64):Nat):Int):=by simp
 have hT:=HT.out
 have e1:IntKind.u64.wrap (IntKind.u64.wrap (T+((g0 true a:Nat):Int))+((ma a b c2:Nat):Int))%18446744073709551616=(((rnd true (k / 2 ^ (64 - 64)) x ⟨a,b,c2,d,e,f,g2,k8⟩).a:Nat):Int):=by
  simp only[rnd,rx,ry,Z0w]
  simp only[IntKind.wrap_u64] at hT ⊢
  omega
 have e2:IntKind.u64.wrap ((d:Int)+T)%18446744073709551616=(((rnd true (k / 2 ^ (64 - 64)) x ⟨a,b,c2,d,e,f,g2,k8⟩).e:Nat):Int):=by
  simp only[rnd,rx,ry,Z0w]
  simp only[IntKind.wrap_u64] at hT ⊢
  omega
 rw[e1,e2]
 exact⟨_,rfl,Bl.new_ _ _ _,B5.out.alloc B5.out.size _⟩
end Go.Proofs.YtjimhjfjfpeojaaGreatDoor.Sh
