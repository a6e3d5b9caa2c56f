/- Joined texts. -/
import Derived.Shelf.Bits.Mul64
import Derived.Shelf.Spec.BitsCarry
import Derived.Deep.QuietTactic
import Derived.BigQuiet
import Derived.Outline
import Derived.BigRegion
import Derived.RegionTactic
import Derived.ChangeAlike
import Derived.Deep.LoopGhost
import Derived.Deep.RegionHeld3
import Derived.Test.YtoibhnpmemnlfaaGreatDoorProg
import Derived.Test.YtoibhnpmemnlfaaGreatDoorQtGnA
import Derived.Test.YtoibhnpmemnlfaaGreatDoorQtPuA
set_option linter.unusedVariables false
namespace Go.Proofs.YtoibhnpmemnlfaaGreatDoor.Fd
open Go.RowKit Go.Proofs.YtoibhnpmemnlfaaGreatDoor.Gn Go.Shelf
def ren264:Go.Shelf.Ren:=⟨fun|264=>75|n=>n,fun|53=>29|46=>83|n=>n,fun|n=>n⟩
theorem lays264:Go.Proofs.Lays.n264 Tryz.prog ren264:={
 mixed:=by kernel_rfl
 f264:=Tryz.func75.trans (congrArg some (by kernel_rfl))
 t46:=Tryz.underlying83
 a46:=Tryz.isAgg83
 z46:=Tryz.sizeOf83
 v46:=Tryz.zeroValue83
 t53:=Tryz.underlying29
 a53:=Tryz.isAgg29
 z53:=Tryz.sizeOf29
 v53:=Tryz.zeroValue29 }
theorem mul64(x y:Nat)(hx:x < 18446744073709551616)(hy:y < 18446744073709551616)(w:World) :
  Calls Tryz.prog 75 #[.int .u64 x,.int .u64 y] w fun e w'=>e=.returned (.tuple #[.int .u64 ((x*y / 18446744073709551616:Nat):Int),.int .u64 ((x*y%18446744073709551616:Nat):Int)])∧w'=w :=
 Any.bits_Mul64 lays264 x y hx hy w
def ren25:Go.Shelf.Ren:=⟨fun|25=>76|n=>n,fun|22=>29|n=>n,fun n=>n⟩
theorem lays25:Lays7.n25 Tryz.prog ren25:={
 mixed:=by kernel_rfl
 f25:=Tryz.func76.trans (congrArg some (by kernel_rfl))
 t22:=Tryz.underlying29
 a22:=Tryz.isAgg29
 z22:=Tryz.sizeOf29
 v22:=Tryz.zeroValue29
 i22:=by kernel_rfl }
theorem add64(x y c:Nat)(hc:c≤1)(w:World):(callFunc 76 #[.int .u64 x,.int .u64 y,.int .u64 c]).run Tryz.prog w =
  .ok (.value (.tuple #[.int .u64 (((x+y+c)%18446744073709551616:Nat):Int),.int .u64 (((x+y+c) / 18446744073709551616:Nat):Int)])) w:=Any7.bits_Add64 lays25 x y c hc w
theorem add64_c(x y c s d:Nat)(hc:c≤1)(hs:(x+y+c)%18446744073709551616=s)(hd:(x+y+c) / 18446744073709551616=d)(w:World) :
  (callFunc 76 #[.int .u64 x,.int .u64 y,.int .u64 c]).run Tryz.prog w=.ok (.value (.tuple #[.int .u64 (s:Int),.int .u64 (d:Int)])) w:=by subst hs hd;exact add64 x y c hc w
theorem add64_0(x y s d:Nat)(hs:(x+y)%18446744073709551616=s)(hd:(x+y) / 18446744073709551616=d)(w:World) :
  (callFunc 76 #[.int .u64 x,.int .u64 y,.int .u64 0]).run Tryz.prog w=.ok (.value (.tuple #[.int .u64 (s:Int),.int .u64 (d:Int)])) w:=add64_c x y 0 s d (by decide) hs hd w
theorem mul64_c(x y p q:Nat)(hx:x < 18446744073709551616)(hy:y < 18446744073709551616)(hp:x*y / 18446744073709551616=p)(hq:x*y%18446744073709551616=q)(w:World) :
  Calls Tryz.prog 75 #[.int .u64 x,.int .u64 y] w fun e w'=>e=.returned (.tuple #[.int .u64 (p:Int),.int .u64 (q:Int)])∧w'=w:=by subst hp hq;exact mul64 x y hx hy w
def wv(t:Nat):Value:=.agg #[.int .u64 ((t / 18446744073709551616:Nat):Int),.int .u64 ((t%18446744073709551616:Nat):Int)]
theorem wv_of{t h l:Nat}(hh:t / 18446744073709551616=h)(hl:t%18446744073709551616=l):wv t=.agg #[.int .u64 (h:Int),.int .u64 (l:Int)]:=by subst hh hl;rfl
theorem plus_any(t x y:Nat)(w:World)(hx:x < 18446744073709551616)(hy:y < 18446744073709551616)(ht:t+x*y < 340282366920938463463374607431768211456) :
  Calls Tryz.prog 65 #[wv t,.int .u64 (x:Int),.int .u64 (y:Int)] w fun e w'=>e=.returned (wv (t+x*y))∧Below w.heap.size w w':=by
 obtain⟨h,hh⟩:∃h,t / 18446744073709551616=h:=⟨_,rfl⟩
 obtain⟨l,hl⟩:∃l,t%18446744073709551616=l:=⟨_,rfl⟩
 obtain⟨p,hp⟩:∃p,x*y / 18446744073709551616=p:=⟨_,rfl⟩
 obtain⟨q,hq⟩:∃q,x*y%18446744073709551616=q:=⟨_,rfl⟩
 obtain⟨s,hs⟩:∃s,(l+q)%18446744073709551616=s:=⟨_,rfl⟩
 obtain⟨c,hc⟩:∃c,(l+q) / 18446744073709551616=c:=⟨_,rfl⟩
 obtain⟨u,hu⟩:∃u,(h+p+c)%18446744073709551616=u:=⟨_,rfl⟩
 obtain⟨d,hd⟩:∃d,(h+p+c) / 18446744073709551616=d:=⟨_,rfl⟩
 have E0:=fun w=>mul64_c x y p q hx hy hp hq w
 have E1:=fun w=>add64_0 l q s c hs hc w
 have E2:=fun w=>add64_c h p c u d (by omega) hu hd w
 have R:(t+x*y) / 18446744073709551616=u∧(t+x*y)%18446744073709551616=s:=by
  generalize x*y=z at *
  omega
 rw[wv_of hh hl,wv_of R.1 R.2]
 clear R hh hl hp hq hs hc hu hd ht hx hy
 have E0:=Lib.hid E0
 go_enter Tryz.func65,Tryz.ntmps65
 go_wp2_with (go_at_call 75;refine(E0.out _).mono ?_;rintro e w' ⟨rfl,rfl⟩)
 refine bodyPost_ret (v:=.agg #[.int .u64 (u:Int),.int .u64 (s:Int)]) ?_ rfl ⟨rfl,?_⟩
 ·simp[results,Tryz.results65,go_sem]
 exact(((Below.refl _ _).alloc (Nat.le_refl _) _).alloc (by simp) _)
theorem and_low(x:Nat)(hx:x < 18446744073709551616):bits .and .u64 (x:Int) 2251799813685247=((x%2251799813685248:Nat):Int):=by
 have h:=bits_and_u64_nat x 2251799813685247 hx (by omega)
 rw[show x &&& 2251799813685247=x%2251799813685248 from Nat.and_two_pow_sub_one_eq_mod x 51] at h
 exact h
theorem or_add(a b n:Nat)(hb:b < 2 ^ n):a*2 ^ n ||| b=a*2 ^ n+b:=by
 rw[Nat.mul_comm];exact(Nat.two_pow_add_eq_or_of_lt hb a).symm
theorem above_any(t:Nat)(w:World)(ht:t < 41538374868278621028243970633760768) :
  Calls Tryz.prog 79 #[wv t] w fun e w'=>e=.returned (.int .u64 ((t / 2251799813685248:Nat):Int))∧Below w.heap.size w w':=by
 obtain⟨h,hh⟩:∃h,t / 18446744073709551616=h:=⟨_,rfl⟩
 obtain⟨l,hl⟩:∃l,t%18446744073709551616=l:=⟨_,rfl⟩
 have k1:IntKind.u64.wrap ((h:Int)*8192)=((h*2 ^ 13:Nat):Int):=by rw[IntKind.wrap_u64];omega
 have k2:(l:Int) / 2251799813685248=((l / 2251799813685248:Nat):Int):=by omega
 have k3:bits .or .u64 (IntKind.u64.wrap ((h:Int)*8192)) ((l:Int) / 2251799813685248)=((t / 2251799813685248:Nat):Int):=by
  rw[k1,k2,bits_or_u64_nat _ _ (by omega) (by omega),or_add h _ 13 (by omega)]
  congr 1
  omega
 rw[wv_of hh hl]
 clear hh hl ht
 have K:=Lib.hid k3
 clear k3 k2 k1
 go_enter Tryz.func79,Tryz.ntmps79
 go_wp2
 go_ret
 exact⟨ret_int K.out,(Below.refl _ _).alloc (Nat.le_refl _) _⟩
end Go.Proofs.YtoibhnpmemnlfaaGreatDoor.Fd
namespace Go.Proofs.YtoibhnpmemnlfaaGreatDoor.Fd
open Go.RowKit Go.Proofs.YtoibhnpmemnlfaaGreatDoor.Gn Go.Deep
theorem only_drew{w a:World}{row:Option Nat}(h:w.grownBy a row):w.grownBy a.drew row:=⟨h.os,h.tape,h.output,h.size,h.block⟩
def nl(l:List Nat):List Value:=l.map fun(x:Nat)=>Value.int .u64 (x:Int)
def E5.l(x:E5):List Nat:=[x.a,x.b,x.c,x.d,x.e]
def E5.v(x:E5):Array Value:=#[.int .u64 (x.a:Int),.int .u64 (x.b:Int),.int .u64 (x.c:Int),.int .u64 (x.d:Int),.int .u64 (x.e:Int)]
def E5.ov(x:E5):Nat→Nat
 |0=>19*(x.e / 2251799813685248)
 |k+1=>x.l.getD k 0 / 2251799813685248
def E5.upto(x:E5)(k:Nat):List Nat:=x.carry.l.take k ++ x.l.drop k
theorem E5.upto_five(x:E5):(nl (x.upto 5)).toArray=x.carry.v:=rfl
theorem E5.upto_get(x:E5){k:Nat}(hk:k < 5):(nl (x.upto k)).toArray[k]?=some (.int .u64 ((x.l.getD k 0:Nat):Int)):=by
 match k,hk with
 |0,_=>rfl
 |1,_=>rfl
 |2,_=>rfl
 |3,_=>rfl
 |4,_=>rfl
theorem E5.upto_set(x:E5){k:Nat}(hk:k < 5):(nl (x.upto k)).toArray.setIfInBounds k (.int .u64 ((x.l.getD k 0%2251799813685248+x.ov k:Nat):Int))=(nl (x.upto (k+1))).toArray:=by
 match k,hk with
 |0,_=>rfl
 |1,_=>rfl
 |2,_=>rfl
 |3,_=>rfl
 |4,_=>rfl
theorem E5.get_lt{x:E5}(h:x.ok)(k:Nat)(hk:k < 5):x.l.getD k 0 < 18446744073709551616:=by
 obtain⟨h0,h1,h2,h3,h4⟩:=h
 match k,hk with
 |0,_=>exact h0
 |1,_=>exact h1
 |2,_=>exact h2
 |3,_=>exact h3
 |4,_=>exact h4
theorem E5.ov_lt{x:E5}(h:x.ok)(k:Nat)(hk:k≤5):x.ov k < 262144:=by
 cases k with
 |zero=>have:=h.2.2.2.2;show 19*(x.e / 2251799813685248) < _;omega
 |succ k=>have:=E5.get_lt h k (by omega);show x.l.getD k 0 / 2251799813685248 < _;omega
def CaRel(x:E5)(g:Nat)(w0:World)(o i:Value)(wr:World):Prop :=
 ∃k:Nat,k≤5∧i=.int .i64 (k:Int)∧o=.int .u64 ((x.ov k:Nat):Int)∧Bl wr g 31 (nl (x.upto k)).toArray∧w0.grownBy wr (some g)
set_option maxHeartbeats 1000000 in
theorem carry_any(g:Nat)(x:E5)(w:World)(hx:x.ok)(hb:Bl w g 31 x.v) :
  Calls Tryz.prog 78 #[.pointer (some ⟨g,0,none⟩)] w fun e w'=>e=.returned (.tuple #[])∧Bl w' g 31 x.carry.v∧w.grownBy w' (some g):=by
 have HX:=Lib.hid hx
 have HB:=Lib.hid hb
 have c4:w.cell? ⟨g,4,none⟩=some (.int .u64 (x.e:Int)):=hb.cell_ rfl
 have k0:(19:Int)*((x.e:Int) / 2251799813685248)=((x.ov 0:Nat):Int):=by show _=((19*(x.e / 2251799813685248):Nat):Int);omega
 have kw:IntKind.u64.wrap ((x.ov 0:Nat):Int)=((x.ov 0:Nat):Int):=by rw[IntKind.wrap_u64];have:=E5.ov_lt hx 0 (by decide);omega
 clear hx hb
 go_enter Tryz.func78,Tryz.ntmps78
 go_wp2
 go_loopw [2,10] (fun o i wr=>CaRel x g w o i wr) (fun _ i _=>5 - (intOf i).toNat)
 case atStart=>exact⟨0,by decide,rfl,rfl,HB.out,World.grownBy.refl w _⟩
 case round =>
  obtain⟨k,hk,rfl,rfl,hbl,hgr⟩:=hrel
  have HBL:=Lib.hid hbl
  have HG:=Lib.hid hgr
  clear hgr k0 kw c4
  by_cases hlt:k < 5
  ·obtain⟨y,hy⟩:∃y,x.l.getD k 0=y:=⟨_,rfl⟩
   obtain⟨o,ho⟩:∃o,x.ov k=o:=⟨_,rfl⟩
   have hyl:y < 18446744073709551616:=hy▸E5.get_lt HX.out k hlt
   have hol:o < 262144:=ho▸E5.ov_lt HX.out k hk
   obtain⟨r,hr⟩:∃r,y%2251799813685248=r:=⟨_,rfl⟩
   obtain⟨q,hq⟩:∃q,y / 2251799813685248=q:=⟨_,rfl⟩
   have e1:bits .and .u64 (y:Int) 2251799813685247=(r:Int):=by rw[and_low y hyl,hr]
   have e2:IntKind.u64.wrap ((r:Int)+(o:Int))=((r+o:Nat):Int):=by rw[IntKind.wrap_u64];omega
   have e3:(y:Int) / 2251799813685248=(q:Int):=by omega
   have c1:wr.cell? ⟨g,k,none⟩=some (.int .u64 (y:Int)):=by rw[←hy];exact hbl.cell_ (x.upto_get hlt)
   have c2:wr.frozen? ⟨g,k,none⟩=false:=hbl.frozen k
   have EQ:=Lib.hid (show x.ov (k+1)=q by show x.l.getD k 0 / 2251799813685248=q;rw[hy,hq])
   have ES:=Lib.hid (show(nl (x.upto k)).toArray.setIfInBounds k (.int .u64 ((r+o:Nat):Int))=(nl (x.upto (k+1))).toArray by rw[←x.upto_set hlt,hy,ho,hr])
   have HO:=Lib.hid ho
   clear hbl hy hr hq hyl hol ho
   rw[HO.out]
   go_wp2
   go_region
   all_goals
    go_wp2
    go_roundw
    case rel =>
     refine⟨k+1,by omega,by go_num,by rw[EQ.out],?_,?_⟩
     ·rw[←ES.out];exact HBL.out.set_ k _
     ·exact only_drew (only_set (p:=⟨g,k,none⟩) HG.out (.inl rfl) _)
    case measure=>simp[intOf];omega
  ·obtain rfl:k=5:=by omega
   go_wp2
   go_end0
   exact⟨rfl,by have:=HBL.out;rwa [x.upto_five] at this,HG.out⟩
theorem or_div(a b:Nat):(a ||| b) / 2251799813685248=0→a < 2251799813685248∧b < 2251799813685248:=by
 intro h
 have h1:a ||| b < 2251799813685248:=by omega
 exact⟨Nat.lt_of_le_of_lt Nat.left_le_or h1,Nat.lt_of_le_of_lt Nat.right_le_or h1⟩
theorem or_u64(a b:Nat)(ha:a < 18446744073709551616)(hb:b < 18446744073709551616):bits .or .u64 (a:Int) (b:Int)=((a ||| b:Nat):Int)∧a ||| b < 18446744073709551616 :=
 ⟨bits_or_u64_nat a b ha hb,Nat.or_lt_two_pow (n:=64) ha hb⟩
def LightP(x:E5)(g:Nat)(w:World)(e:Ending)(w':World):Prop :=
 e=.returned (.tuple #[])∧∃y:E5,y.light∧y.val%pp=x.val%pp∧Bl w' g 31 y.v∧w.grownBy w' (some g)
set_option maxHeartbeats 1000000 in
theorem lighten_any(g:Nat)(x:E5)(w:World)(hx:x.ok)(hb:Bl w g 31 x.v) :
  Calls Tryz.prog 63 #[.pointer (some ⟨g,0,none⟩)] w (LightP x g w):=by
 obtain⟨h0,h1,h2,h3,h4⟩:=id hx
 obtain⟨E1,b1⟩:=or_u64 x.a x.b h0 h1
 obtain⟨E2,b2⟩:=or_u64 (x.a ||| x.b) x.c b1 h2
 obtain⟨E3,b3⟩:=or_u64 (x.a ||| x.b ||| x.c) x.d b2 h3
 obtain⟨E4,b4⟩:=or_u64 (x.a ||| x.b ||| x.c ||| x.d) x.e b3 h4
 obtain⟨o,ho⟩:∃o,(x.a ||| x.b ||| x.c ||| x.d ||| x.e) / 2251799813685248=o:=⟨_,rfl⟩
 have F5:((x.a ||| x.b ||| x.c ||| x.d ||| x.e:Nat):Int) / 2251799813685248=(o:Int):=by omega
 have c0:w.cell? ⟨g,0,none⟩=some (.int .u64 (x.a:Int)):=hb.cell_ rfl
 have c1:w.cell? ⟨g,1,none⟩=some (.int .u64 (x.b:Int)):=hb.cell_ rfl
 have c2:w.cell? ⟨g,2,none⟩=some (.int .u64 (x.c:Int)):=hb.cell_ rfl
 have c3:w.cell? ⟨g,3,none⟩=some (.int .u64 (x.d:Int)):=hb.cell_ rfl
 have c4:w.cell? ⟨g,4,none⟩=some (.int .u64 (x.e:Int)):=hb.cell_ rfl
 have LOW:=Lib.hid (show o=0→x.low by
  intro h
  rw[h] at ho
  obtain⟨p4,q4⟩:=or_div _ _ ho
  obtain⟨p3,q3⟩:=or_div _ _ (show(x.a ||| x.b ||| x.c ||| x.d) / 2251799813685248=0 by omega)
  obtain⟨p2,q2⟩:=or_div _ _ (show(x.a ||| x.b ||| x.c) / 2251799813685248=0 by omega)
  obtain⟨p1,q1⟩:=or_div _ _ (show(x.a ||| x.b) / 2251799813685248=0 by omega)
  exact⟨p1,q1,q2,q3,q4⟩)
 have HX:=Lib.hid hx
 have HB:=Lib.hid hb
 generalize x.a ||| x.b=o1 at *
 generalize o1 ||| x.c=o2 at *
 generalize o2 ||| x.d=o3 at *
 generalize o3 ||| x.e=o4 at *
 clear b1 b2 b3 b4 h0 h1 h2 h3 h4 ho hx hb
 by_cases hz:o=0
 ·have g0:((o:Int) != 0)=false:=by subst hz;decide
  have HZ:=Lib.hid hz
  clear hz
  go_enter Tryz.func63,Tryz.ntmps63
  go_wp2_with fail
  go_quiet (fail)
  go_wp2
  go_end0
  exact⟨rfl,x,(LOW.out HZ.out).light,rfl,HB.out.drewN _,only_drewN (World.grownBy.refl w _) _⟩
 ·have g0:((o:Int) != 0)=true:=by simp;omega
  clear hz
  go_enter Tryz.func63,Tryz.ntmps63
  go_wp2_with fail
  go_quiet (fail)
  go_wp2_with (go_at_call 78;refine(carry_any g x _ HX.out (HB.out.drewN _)).mono ?_;rintro e w' ⟨rfl,hb',hg'⟩)
  go_end0
  exact⟨rfl,x.carry,E5.carry_light HX.out,E5.carry_val x,hb',only_trans (only_drewN (World.grownBy.refl w _) _) hg'⟩
end Go.Proofs.YtoibhnpmemnlfaaGreatDoor.Fd
namespace Go.Proofs.YtoibhnpmemnlfaaGreatDoor.Fd
open Go.RowKit Go.Proofs.YtoibhnpmemnlfaaGreatDoor.Gn Go.Deep
theorem E5.ext'{x y:E5}:x=y↔x.a=y.a∧x.b=y.b∧x.c=y.c∧x.d=y.d∧x.e=y.e:=by
 obtain⟨a,b,c,d,e⟩:=x
 obtain⟨a',b',c',d',e'⟩:=y
 simp
instance:DecidableEq E5:=fun x y=>decidable_of_iff _ E5.ext'.symm
theorem equal5(x y:E5)(w:World):(Op.equalIn 10000 31 (.agg x.v) (.agg y.v)).run Tryz.prog w=.ok (decide (x=y)) w:=by
 have h:=run_equalIn_arr (P:=Tryz.prog) 9998 (t:=31) (e:=29) (n:=5) (ik:=.u64) Tryz.underlying31 Tryz.underlying29 (by kernel_rfl) w [(x.a:Int),x.b,x.c,x.d,x.e] [(y.a:Int),y.b,y.c,y.d,y.e] rfl rfl
 have e:decide ([(x.a:Int),x.b,x.c,x.d,x.e]=[(y.a:Int),y.b,y.c,y.d,y.e])=decide (x=y):=by
  rw[decide_eq_decide,E5.ext'];simp;omega
 rw[←e];exact h
theorem guard5:Tryz.prog.eqGuardType Tryz.prog.depth 31=false:=by kernel_rfl
def RedRel(x:E5)(g:Nat)(w0:World)(n:Nat)(wr:World):Prop :=
 ∃y:E5,y.ok∧y.val%pp=x.val%pp∧y.sum < n∧Bl wr g 31 y.v∧w0.grownBy wr (some g)
def InRel(y:E5)(wr:World)(n:Nat)(i:Value)(wi:World):Prop :=
 ∃k:Nat,k+n=6∧i=.int .i64 (k:Int)∧k≤5∧(∀j,j < k→y.l.getD j 0 < 2251799813685248)∧wi=wr
theorem E5.v_get(x:E5){k:Nat}(hk:k < 5):x.v[k]?=some (.int .u64 ((x.l.getD k 0:Nat):Int)):=by
 match k,hk with
 |0,_=>rfl
 |1,_=>rfl
 |2,_=>rfl
 |3,_=>rfl
 |4,_=>rfl
theorem E5.low_of{x:E5}(h:∀j,j < 5→x.l.getD j 0 < 2251799813685248):x.low:=⟨h 0 (by decide),h 1 (by decide),h 2 (by decide),h 3 (by decide),h 4 (by decide)⟩
theorem E5.not_low{x:E5}(k:Nat)(hk:k < 5)(h:2251799813685247 < x.l.getD k 0):¬x.low:=by
 intro⟨h0,h1,h2,h3,h4⟩
 match k,hk with
 |0,_=>exact absurd h (show ¬_ < x.a by omega)
 |1,_=>exact absurd h (show ¬_ < x.b by omega)
 |2,_=>exact absurd h (show ¬_ < x.c by omega)
 |3,_=>exact absurd h (show ¬_ < x.d by omega)
 |4,_=>exact absurd h (show ¬_ < x.e by omega)
set_option maxHeartbeats 1000000 in
theorem reduce_any (g : Nat) (x : E5) (w : World) (hx : x.ok) (hb : Bl w g 31 x.v) :
    Calls Tryz.prog 66 #[.pointer (some ⟨g, 0, none⟩)] w fun e w' => e = .returned (.tuple #[]) ∧ Bl w' g 31 (el (x.val % pp)).v ∧ w.grownBy w' (some g) := by
  have HX := Lib.hid hx
  have HB := Lib.hid hb
  clear hx hb
  go_enter Tryz.func66, Tryz.ntmps66
  go_wp2
  go_step3
  go_wp2
  go_step3
  go_wp2
  go_loopg [] (x.sum + 1) (fun n wr => RedRel x g w n wr)
  case atStart => exact ⟨x, HX.out, rfl, by omega, HB.out, World.grownBy.refl w _⟩
  case round =>
    obtain ⟨y, hok, hval, hsum, hbl, hgr⟩ := hrel
    have HOK := Lib.hid hok
    have HV := Lib.hid hval
    have HS := Lib.hid hsum
    have HBL := Lib.hid hbl
    have HG := Lib.hid hgr
    clear hok hval hsum hbl hgr
    obtain ⟨wo, rfl⟩ : ∃ wo : World, wo = wr := ⟨_, rfl⟩
    obtain ⟨go, rfl⟩ : ∃ go : Nat, go = gk := ⟨_, rfl⟩
    go_wp2
    go_loopg [3] 6 (fun n i wi => InRel y wo n i wi)
    case atStart => exact ⟨0, rfl, rfl, by decide, fun j h => absurd h (by omega), rfl⟩
    case round =>
      obtain ⟨k, hkn, rfl, hk, hlow, rfl⟩ := hrel
      have HL := Lib.hid hlow
      clear hlow
      by_cases hlt : k < 5
      · obtain ⟨v, hv⟩ : ∃ v, y.l.getD k 0 = v := ⟨_, rfl⟩
        have c1 : wr.cell? ⟨g, k, none⟩ = some (.int .u64 (v : Int)) := by rw [← hv]; exact HBL.out.cell_ (y.v_get hlt)
        have HVV := Lib.hid hv
        clear hv
        by_cases h : 2251799813685247 < v
        · have t : decide ((2251799813685247 : Int) < (v : Int)) = true := by simp; omega
          have H := Lib.hid h
          clear h
          go_wp2_with (go_at_call 78; refine (carry_any g y _ HOK.out HBL.out).mono ?_; rintro e w' ⟨rfl, hb', hg'⟩)
          go_roundg (go - 1)
          case rel => exact ⟨y.carry, (E5.carry_light HOK.out).ok, (E5.carry_val y).trans HV.out, by have := E5.carry_sum (E5.not_low k hlt (by rw [HVV.out]; exact H.out)); have := HS.out; omega, hb', only_trans HG.out hg'⟩
          case measure => have := HS.out; omega
        · have t : decide ((2251799813685247 : Int) < (v : Int)) = false := by simp; omega
          have H := Lib.hid h
          clear h
          go_wp2
          go_roundg (gk - 1)
          case rel =>
            refine ⟨k + 1, by omega, by go_num, by omega, fun j hj => ?_, rfl⟩
            by_cases e : j = k
            · subst e; rw [HVV.out]; have := H.out; omega
            · exact HL.out j (by omega)
          case measure => omega
      · obtain rfl : k = 5 := by omega
        have HLOW := Lib.hid (E5.low_of HL.out)
        have c0 : wr.cell? ⟨g, 0, none⟩ = some (.int .u64 (y.a : Int)) := HBL.out.cell_ rfl
        have c1 : wr.cell? ⟨g, 1, none⟩ = some (.int .u64 (y.b : Int)) := HBL.out.cell_ rfl
        have c2 : wr.cell? ⟨g, 2, none⟩ = some (.int .u64 (y.c : Int)) := HBL.out.cell_ rfl
        have c3 : wr.cell? ⟨g, 3, none⟩ = some (.int .u64 (y.d : Int)) := HBL.out.cell_ rfl
        have c4 : wr.cell? ⟨g, 4, none⟩ = some (.int .u64 (y.e : Int)) := HBL.out.cell_ rfl
        by_cases h : 2251799813685229 ≤ y.a
        · have t : decide ((2251799813685229 : Int) ≤ (y.a : Int)) = true := by simp; omega
          have G1 := guard5
          by_cases h2 : y.b = 2251799813685247 ∧ y.c = 2251799813685247 ∧ y.d = 2251799813685247 ∧ y.e = 2251799813685247
          · have G2 : ∀ w, (Op.equalIn 10000 31 (.agg #[.int .u64 (y.a : Int), .int .u64 (y.b : Int), .int .u64 (y.c : Int), .int .u64 (y.d : Int), .int .u64 (y.e : Int)]) (.agg #[.int .u64 (y.a : Int), .int .u64 2251799813685247, .int .u64 2251799813685247, .int .u64 2251799813685247, .int .u64 2251799813685247])).run Tryz.prog w = .ok true w := fun w => by
              have := equal5 y ⟨y.a, 2251799813685247, 2251799813685247, 2251799813685247, 2251799813685247⟩ w
              rw [show decide (y = ⟨y.a, 2251799813685247, 2251799813685247, 2251799813685247, 2251799813685247⟩) = true from decide_eq_true (E5.ext'.2 ⟨rfl, h2⟩)] at this
              exact this
            have H := Lib.hid h
            have H2 := Lib.hid h2
            have e0 : IntKind.u64.wrap ((y.a : Int) - 2251799813685229) = ((y.a - 2251799813685229 : Nat) : Int) := by rw [IntKind.wrap_u64]; have := HLOW.out.1; omega
            clear h h2
            go_wp2
            have f0 : wr.frozen? ⟨g, 0, none⟩ = false := HBL.out.frozen 0
            have f1 : wr.frozen? ⟨g, 1, none⟩ = false := HBL.out.frozen 1
            have f2 : wr.frozen? ⟨g, 2, none⟩ = false := HBL.out.frozen 2
            have f3 : wr.frozen? ⟨g, 3, none⟩ = false := HBL.out.frozen 3
            have f4 : wr.frozen? ⟨g, 4, none⟩ = false := HBL.out.frozen 4
            go_quiet (fail)
            go_wp2
            rw [Exit.noGoto_normal]
            go_end0
            have e := red_great HLOW.out ⟨H.out, H2.out⟩
            rw [HV.out] at e
            refine ⟨rfl, ?_, ?_⟩
            · rw [← e]
              exact (((((HBL.out.drewN nq).set_ 0 (.int .u64 ((y.a - 2251799813685229 : Nat) : Int))).set_ 1 (.int .u64 0)).set_ 2 (.int .u64 0)).set_ 3 (.int .u64 0)).set_ 4 (.int .u64 0)
            · exact only_set (p := ⟨g, 4, none⟩) (only_set (p := ⟨g, 3, none⟩) (only_set (p := ⟨g, 2, none⟩) (only_set (p := ⟨g, 1, none⟩) (only_set (p := ⟨g, 0, none⟩) (only_drewN HG.out nq) (.inl rfl) _) (.inl rfl) _) (.inl rfl) _) (.inl rfl) _) (.inl rfl) _
          · have G2 : ∀ w, (Op.equalIn 10000 31 (.agg #[.int .u64 (y.a : Int), .int .u64 (y.b : Int), .int .u64 (y.c : Int), .int .u64 (y.d : Int), .int .u64 (y.e : Int)]) (.agg #[.int .u64 (y.a : Int), .int .u64 2251799813685247, .int .u64 2251799813685247, .int .u64 2251799813685247, .int .u64 2251799813685247])).run Tryz.prog w = .ok false w := fun w => by
              have := equal5 y ⟨y.a, 2251799813685247, 2251799813685247, 2251799813685247, 2251799813685247⟩ w
              rw [show decide (y = ⟨y.a, 2251799813685247, 2251799813685247, 2251799813685247, 2251799813685247⟩) = false from decide_eq_false (fun e => h2 (E5.ext'.1 e).2)] at this
              exact this
            have H := Lib.hid h
            have H2 := Lib.hid h2
            clear h h2
            go_wp2
            go_quiet (fail)
            go_wp2
            rw [Exit.noGoto_normal]
            go_end0
            have e := red_small HLOW.out (fun h => H2.out h.2)
            rw [HV.out] at e
            exact ⟨rfl, by rw [← e]; exact HBL.out.drewN _, only_drewN HG.out _⟩
        · have t : decide ((2251799813685229 : Int) ≤ (y.a : Int)) = false := by simp; omega
          have H := Lib.hid h
          clear h
          go_wp2
          go_quiet (fail)
          go_wp2
          rw [Exit.noGoto_normal]
          go_end0
          have e := red_small HLOW.out (fun h => H.out h.1)
          rw [HV.out] at e
          exact ⟨rfl, by rw [← e]; exact HBL.out.drewN _, only_drewN HG.out _⟩
end Go.Proofs.YtoibhnpmemnlfaaGreatDoor.Fd
namespace Go.Proofs.YtoibhnpmemnlfaaGreatDoor.Fd
open Go.RowKit Go.Proofs.YtoibhnpmemnlfaaGreatDoor.Gn Go.Deep
theorem set5{z:Array Value}(h:z.size=5)(a b c d e:Value):((((z.setIfInBounds 0 a).setIfInBounds 1 b).setIfInBounds 2 c).setIfInBounds 3 d).setIfInBounds 4 e = #[a,b,c,d,e]:=by
 obtain⟨l⟩:=z
 match l,h with
 | [_,_,_,_,_],_=>simp[List.setIfInBounds_toArray]
theorem set5_bl{w:World}{g:Nat}{t:TypeId}{z:Array Value}(hm:Bl w g t z)(h:z.size=5)(a b c d e:Value) :
  Bl (((((w.setCell ⟨g,0,none⟩ a).setCell ⟨g,1,none⟩ b).setCell ⟨g,2,none⟩ c).setCell ⟨g,3,none⟩ d).setCell ⟨g,4,none⟩ e) g t #[a,b,c,d,e]:=by
 have:=((((hm.set_ 0 a).set_ 1 b).set_ 2 c).set_ 3 d).set_ 4 e
 rwa [set5 h] at this
theorem set5_below{B:Nat}{w0 w:World}{g:Nat}(hb:Below B w0 w)(hg:B≤g)(a b c d e:Value) :
  Below B w0 (((((w.setCell ⟨g,0,none⟩ a).setCell ⟨g,1,none⟩ b).setCell ⟨g,2,none⟩ c).setCell ⟨g,3,none⟩ d).setCell ⟨g,4,none⟩ e) :=
 ((((hb.setCell hg a).setCell hg b).setCell hg c).setCell hg d).setCell hg e
def Cells5(w:World)(g:Nat)(a b c d e:Value):Prop :=
 (w.cell? ⟨g,0,none⟩=some a∧w.cell? ⟨g,1,none⟩=some b∧w.cell? ⟨g,2,none⟩=some c∧w.cell? ⟨g,3,none⟩=some d∧w.cell? ⟨g,4,none⟩=some e) ∧
 (w.frozen? ⟨g,0,none⟩=false∧w.frozen? ⟨g,1,none⟩=false∧w.frozen? ⟨g,2,none⟩=false∧w.frozen? ⟨g,3,none⟩=false∧w.frozen? ⟨g,4,none⟩=false)
theorem cells5{w:World}{g:Nat}{t:TypeId}{a b c d e:Value}(h:Bl w g t #[a,b,c,d,e]):Cells5 w g a b c d e :=
 ⟨⟨h.cell_ rfl,h.cell_ rfl,h.cell_ rfl,h.cell_ rfl,h.cell_ rfl⟩,h.frozen 0,h.frozen 1,h.frozen 2,h.frozen 3,h.frozen 4⟩
def z5:Array Value:=#[.int .u64 0,.int .u64 0,.int .u64 0,.int .u64 0,.int .u64 0]
set_option maxHeartbeats 1000000 in
theorem Reduce_any(x:E5)(w:World)(hx:x.ok) :
  Calls Tryz.prog 56 #[.agg x.v] w fun e w'=>e=.returned (.agg (el (x.val%pp)).v)∧Below w.heap.size w w':=by
 have HX:=Lib.hid hx
 clear hx
 obtain⟨r,hr⟩:∃r,el (x.val%pp)=r:=⟨_,rfl⟩
 have HR:=Lib.hid hr
 rw[hr]
 clear hr
 go_enter Tryz.func56,Tryz.ntmps56
 go_wp2_with fail
 have hb:Bl ((w.alloc (.cells x.v 31)).alloc (.cells z5 31)) w.heap.size 31 x.v:=(Bl.new_ w _ x.v).alloc _
 have hz:Bl ((w.alloc (.cells x.v 31)).alloc (.cells z5 31)) (w.heap.size+1) 31 z5:=Bl.new' _ _ (by simp)
 have hB:Below w.heap.size w ((w.alloc (.cells x.v 31)).alloc (.cells z5 31)):=((Below.refl _ _).alloc (Nat.le_refl _) _).alloc (by simp) _
 change Calls _ _ _ ((w.alloc (.cells x.v 31)).alloc (.cells z5 31)) _
 refine(reduce_any _ x _ HX.out hb).mono ?_
 rintro e w1 ⟨rfl,hb1,hg1⟩
 rw[HR.out] at hb1
 have hz1:=hz.grown hg1 (by simp)
 have hB1:Below w.heap.size w w1:=hB.grown hg1 (by simp;omega) (by simp)
 clear hb hz hB hg1
 obtain⟨⟨a0,a1,a2,a3,a4⟩,-⟩:=cells5 hb1
 obtain⟨⟨r0,r1,r2,r3,r4⟩,f0,f1,f2,f3,f4⟩:=cells5 hz1
 have HB1:=Lib.hid hB1
 clear hB1 hb1
 go_wp2
 refine bodyPost_ret (v:=.agg r.v) ?_ rfl ⟨rfl,set5_below HB1.out (by omega) _ _ _ _ _⟩
 simp[results,Tryz.results56,go_sem,E5.v,r0,r1,r2,r3,r4]
set_option maxHeartbeats 1000000 in
theorem Small_any(n:Nat)(w:World)(hn:n < 18446744073709551616) :
  Calls Tryz.prog 57 #[.int .u64 (n:Int)] w fun e w'=>e=.returned (.agg (el n).v)∧Below w.heap.size w w':=by
 obtain⟨r,hr⟩:∃r,n%2251799813685248=r:=⟨_,rfl⟩
 obtain⟨q,hq⟩:∃q,n / 2251799813685248=q:=⟨_,rfl⟩
 have e1:bits .and .u64 (n:Int) 2251799813685247=(r:Int):=by rw[and_low n hn,hr]
 have e2:(n:Int) / 2251799813685248=(q:Int):=by omega
 have hv:(el n).v = #[.int .u64 (r:Int),.int .u64 (q:Int),.int .u64 0,.int .u64 0,.int .u64 0]:=by
  have:el n=⟨r,q,0,0,0⟩:=by unfold el;simp only[E5.mk.injEq];omega
  rw[this];rfl
 rw[hv]
 clear hv hr hq hn
 go_enter Tryz.func57,Tryz.ntmps57
 go_wp2
 refine bodyPost_ret (v:=.agg #[.int .u64 (r:Int),.int .u64 (q:Int),.int .u64 0,.int .u64 0,.int .u64 0]) ?_ rfl ⟨rfl,(Below.refl _ _).alloc (Nat.le_refl _) _⟩
 simp[results,Tryz.results57,go_sem]
theorem box2(w:World)(x y:E5):Bl ((w.alloc (.cells x.v 31)).alloc (.cells y.v 31)) w.heap.size 31 x.v∧Bl ((w.alloc (.cells x.v 31)).alloc (.cells y.v 31)) (w.heap.size+1) 31 y.v ∧
  Below w.heap.size w ((w.alloc (.cells x.v 31)).alloc (.cells y.v 31)) :=
 ⟨(Bl.new_ w _ x.v).alloc _,Bl.new' _ _ (by simp),((Below.refl _ _).alloc (Nat.le_refl _) _).alloc (by simp) _⟩
abbrev C5(w:World)(g:Nat)(x:E5):Prop:=w.cell? ⟨g,0,none⟩=some (.int .u64 (x.a:Int))∧w.cell? ⟨g,1,none⟩=some (.int .u64 (x.b:Int))∧w.cell? ⟨g,2,none⟩=some (.int .u64 (x.c:Int))∧w.cell? ⟨g,3,none⟩=some (.int .u64 (x.d:Int))∧w.cell? ⟨g,4,none⟩=some (.int .u64 (x.e:Int))
theorem c5_of{w:World}{g:Nat}{t:TypeId}{x:E5}(h:Bl w g t x.v):C5 w g x:=⟨h.cell_ rfl,h.cell_ rfl,h.cell_ rfl,h.cell_ rfl,h.cell_ rfl⟩
set_option maxHeartbeats 1000000 in
theorem Same_any(x y:E5)(w:World)(hx:x.ok)(hy:y.ok) :
  Calls Tryz.prog 37 #[.agg x.v,.agg y.v] w fun e w'=>e=.returned (.bool (decide (x.val%pp=y.val%pp)))∧Below w.heap.size w w':=by
 have R1:=fun w=>Reduce_any x w hx
 have R2:=fun w=>Reduce_any y w hy
 obtain⟨r,hr⟩:∃r,el (x.val%pp)=r:=⟨_,rfl⟩
 obtain⟨q,hq⟩:∃q,el (y.val%pp)=q:=⟨_,rfl⟩
 have hd:decide (x.val%pp=y.val%pp)=decide (r=q):=decide_eq_decide.2 ⟨fun h=>by rw[←hr,←hq,h],fun h=>el_inj (by rw[hr,hq,h])⟩
 obtain⟨b,hb⟩:∃b,decide (r=q)=b:=⟨_,rfl⟩
 have G1:=guard5
 have G2:=fun w=>equal5 r q w
 simp only[hr,hq] at R1 R2
 rw[hb] at G2
 rw[hd,hb]
 clear hr hq hd hb hx hy
 have R1:=Lib.hid (show ∀w,Calls Tryz.prog 56 #[(.agg #[.int .u64 (x.a:Int),.int .u64 (x.b:Int),.int .u64 (x.c:Int),.int .u64 (x.d:Int),.int .u64 (x.e:Int)])] w fun e w'=>e=.returned (.agg r.v)∧Below w.heap.size w w' from R1)
 have R2:=Lib.hid (show ∀w,Calls Tryz.prog 56 #[(.agg #[.int .u64 (y.a:Int),.int .u64 (y.b:Int),.int .u64 (y.c:Int),.int .u64 (y.d:Int),.int .u64 (y.e:Int)])] w fun e w'=>e=.returned (.agg q.v)∧Below w.heap.size w w' from R2)
 have SK:=Lib.hid (show ∀z,Below (w.heap.size+2) ((w.alloc (.cells x.v 31)).alloc (.cells y.v 31)) z→C5 z w.heap.size x∧C5 z (w.heap.size+1) y from fun z h =>
  ⟨c5_of ((box2 w x y).1.below h (by omega)),c5_of ((box2 w x y).2.1.below h (by omega))⟩)
 go_enter Tryz.func37,Tryz.ntmps37
 go_wp2_with fail
 go_region_held3 (fun z=>C5 z w.heap.size x∧C5 z (w.heap.size+1) y)
  (first|exact SK.out _ ((Below.refl _ _).drew)|exact SK.out _ (((Below.refl _ _).drew).trans (hb1.mono (by simp)))|exact SK.out _ ((((Below.refl _ _).drew).trans (hb1.mono (by simp))).trans (hb2.mono (by have:=hb1.size;simp at this;omega))))
  (first|(go_at_call 56;(with_reducible refine(R1.out _).mono ?_);rintro e w1 ⟨rfl,hb1⟩)|(go_at_call 56;(with_reducible refine(R2.out _).mono ?_);rintro e w2 ⟨rfl,hb2⟩))
 rename_i hHeld
 clear hHeld
 go_wp2
 go_ret
 exact⟨rfl,(((box2 w x y).2.2.drew).trans (hb1.mono (by simp;omega))).trans (hb2.mono (by have:=hb1.size;simp at this;omega))⟩
theorem and_one(x:Nat)(hx:x < 18446744073709551616):bits .and .u64 (x:Int) 1=((x%2:Nat):Int):=by
 have h:=bits_and_u64_nat x 1 hx (by omega)
 rw[show x &&& 1=x%2 from Nat.and_one_is_mod x] at h
 exact h
set_option maxHeartbeats 1000000 in
theorem Odd_any(x:E5)(w:World)(hx:x.ok) :
  Calls Tryz.prog 32 #[.agg x.v] w fun e w'=>e=.returned (.bool (decide (x.val%pp%2=1)))∧Below w.heap.size w w':=by
 have R1:=fun w=>Reduce_any x w hx
 obtain⟨r,hr⟩:∃r,el (x.val%pp)=r:=⟨_,rfl⟩
 simp only[hr] at R1
 have hm:x.val%pp%2=r.a%2:=by subst hr;show _=x.val%pp%2251799813685248%2;omega
 have hl:r.a < 18446744073709551616:=by rw[←hr];exact(el_ok (mod_lt _)).1
 obtain⟨o,ho⟩:∃o,r.a%2=o:=⟨_,rfl⟩
 have e1:bits .and .u64 (r.a:Int) 1=(o:Int):=by rw[and_one _ hl,ho]
 obtain⟨b,hb⟩:∃b,decide (o=1)=b:=⟨_,rfl⟩
 have g1:((o:Int) == 1)=b:=by rw[←hb,Bool.eq_iff_iff];simp;omega
 rw[hm,ho,hb]
 clear hr hm hl ho hb hx
 have i0:=fun w=>run_index_agg (P:=Tryz.prog) (t:=31) (e:=29) (n:=5) (ik:=.u64) Tryz.underlying31 Tryz.underlying29 (by kernel_rfl) #[.int .u64 (r.a:Int),.int .u64 (r.b:Int),.int .u64 (r.c:Int),.int .u64 (r.d:Int),.int .u64 (r.e:Int)] 0 (.int .u64 (r.a:Int)) (by decide) rfl w
 rw[show((0:Nat):Int)=0 from rfl] at i0
 obtain⟨⟨a0,a1,a2,a3,a4⟩,-⟩:=cells5 (show Bl (w.alloc (.cells x.v 31)) w.heap.size 31 #[.int .u64 (x.a:Int),.int .u64 (x.b:Int),.int .u64 (x.c:Int),.int .u64 (x.d:Int),.int .u64 (x.e:Int)] from Bl.new_ w _ x.v)
 have R1:=Lib.hid (show ∀w,Calls Tryz.prog 56 #[(.agg #[.int .u64 (x.a:Int),.int .u64 (x.b:Int),.int .u64 (x.c:Int),.int .u64 (x.d:Int),.int .u64 (x.e:Int)])] w fun e w'=>e=.returned (.agg #[.int .u64 (r.a:Int),.int .u64 (r.b:Int),.int .u64 (r.c:Int),.int .u64 (r.d:Int),.int .u64 (r.e:Int)])∧Below w.heap.size w w' from R1)
 go_enter Tryz.func32,Tryz.ntmps32
 go_wp2_with (go_at_call 56;(with_reducible refine(R1.out _).mono ?_);rintro e w1 ⟨rfl,hb1⟩)
 go_ret
 exact⟨rfl,((Below.refl _ _).alloc (Nat.le_refl _) _).trans (hb1.mono (by simp))⟩
theorem box3(w:World)(x y:E5):Bl (((w.alloc (.cells x.v 31)).alloc (.cells y.v 31)).alloc (.cells z5 31)) w.heap.size 31 x.v ∧
  Bl (((w.alloc (.cells x.v 31)).alloc (.cells y.v 31)).alloc (.cells z5 31)) (w.heap.size+1) 31 y.v ∧
  Bl (((w.alloc (.cells x.v 31)).alloc (.cells y.v 31)).alloc (.cells z5 31)) (w.heap.size+1+1) 31 z5 ∧
  Below w.heap.size w (((w.alloc (.cells x.v 31)).alloc (.cells y.v 31)).alloc (.cells z5 31)) :=
 ⟨(box2 w x y).1.alloc _,(box2 w x y).2.1.alloc _,Bl.new' _ _ (by simp),(box2 w x y).2.2.alloc (by simp;omega) _⟩
def mix(x y:E5)(k:Nat):List Nat:=y.l.take k ++ x.l.drop k
theorem mix_five(x y:E5):(nl (mix x y 5)).toArray=y.v:=rfl
theorem mix_get(x y:E5){k:Nat}(hk:k < 5):(nl (mix x y k)).toArray[k]?=some (.int .u64 ((x.l.getD k 0:Nat):Int)):=by
 match k,hk with
 |0,_=>rfl
 |1,_=>rfl
 |2,_=>rfl
 |3,_=>rfl
 |4,_=>rfl
theorem mix_set(x y:E5){k:Nat}(hk:k < 5):(nl (mix x y k)).toArray.setIfInBounds k (.int .u64 ((y.l.getD k 0:Nat):Int))=(nl (mix x y (k+1))).toArray:=by
 match k,hk with
 |0,_=>rfl
 |1,_=>rfl
 |2,_=>rfl
 |3,_=>rfl
 |4,_=>rfl
theorem add_get(x y:E5){k:Nat}(hk:k < 5):(x.add y).l.getD k 0=x.l.getD k 0+y.l.getD k 0:=by
 match k,hk with
 |0,_=>rfl
 |1,_=>rfl
 |2,_=>rfl
 |3,_=>rfl
 |4,_=>rfl
theorem light_get{x:E5}(h:x.light){k:Nat}(hk:k < 5):x.l.getD k 0 < 2251799813947392:=by
 obtain⟨h0,h1,h2,h3,h4⟩:=h
 match k,hk with
 |0,_=>exact h0
 |1,_=>exact h1
 |2,_=>exact h2
 |3,_=>exact h3
 |4,_=>exact h4
def AddRel(x y z:E5)(g h:Nat)(w0:World)(i:Value)(wr:World):Prop :=
 ∃k:Nat,k≤5∧i=.int .i64 (k:Int)∧Bl wr g 31 (nl (mix x z k)).toArray∧Bl wr h 31 y.v∧w0.grownBy wr (some g)
set_option maxHeartbeats 2000000 in
theorem Add_any(x y:E5)(w:World)(hx:x.ok)(hy:y.ok) :
  Calls Tryz.prog 39 #[.agg x.v,.agg y.v] w fun e w'=>e=.returned (.agg (el ((x.val+y.val)%pp)).v)∧Below w.heap.size w w':=by
 have HX:=Lib.hid hx
 have HY:=Lib.hid hy
 obtain⟨r,hr⟩:∃r,el ((x.val+y.val)%pp)=r:=⟨_,rfl⟩
 have HR:=Lib.hid hr
 rw[hr]
 clear hx hy hr
 obtain⟨B1,B2,B3,B4⟩:=box3 w x y
 go_enter Tryz.func39,Tryz.ntmps39
 go_wp2_with fail
 change Calls _ _ _ (((w.alloc (.cells x.v 31)).alloc (.cells y.v 31)).alloc (.cells z5 31)) _
 generalize hW:((w.alloc (.cells x.v 31)).alloc (.cells y.v 31)).alloc (.cells z5 31)=W0 at *
 clear hW
 refine(lighten_any _ x _ HX.out B1).mono ?_
 rintro e w1 ⟨rfl,y1,l1,v1,b1,g1⟩
 have B2':=B2.grown g1 (by simp)
 have B3':=B3.grown g1 (by simp;omega)
 have B4':Below w.heap.size w w1:=B4.grown g1 B4.size (by simp)
 clear B1 B2 B3 B4 g1
 go_wp2_with fail
 refine(lighten_any _ y _ HY.out B2').mono ?_
 rintro e w2 ⟨rfl,y2,l2,v2,b2,g2⟩
 have b1':=b1.grown g2 (by simp)
 have b3':=B3'.grown g2 (by simp)
 have b4':Below w.heap.size w w2:=B4'.grown g2 B4'.size (by simp)
 clear B2' B3' B4' b1 g2
 have HL1:=Lib.hid l1
 have HL2:=Lib.hid l2
 have HV:=Lib.hid (show(y1.add y2).val%pp=(x.val+y.val)%pp by rw[E5.add_val,Nat.add_mod,v1,v2,←Nat.add_mod])
 have HB1:=Lib.hid b1'
 have HB2:=Lib.hid b2
 have HB3:=Lib.hid b3'
 have HB4:=Lib.hid b4'
 clear l1 l2 v1 v2 b1' b2 b3' b4'
 go_wp2
 go_loopw [8] (fun i wr=>AddRel y1 y2 (y1.add y2) w.heap.size (w.heap.size+1) w2 i wr) (fun i _=>5 - (intOf i).toNat)
 case atStart=>exact⟨0,by decide,rfl,HB1.out,HB2.out,World.grownBy.refl w2 _⟩
 case round =>
  obtain⟨k,hk,rfl,hb1,hb2,hgr⟩:=hrel
  have HC1:=Lib.hid hb1
  have HC2:=Lib.hid hb2
  have HG:=Lib.hid hgr
  clear hgr
  by_cases hlt:k < 5
  ·obtain⟨p,hp⟩:∃p,y1.l.getD k 0=p:=⟨_,rfl⟩
   obtain⟨q,hq⟩:∃q,y2.l.getD k 0=q:=⟨_,rfl⟩
   have c1:wr.cell? ⟨w.heap.size,k,none⟩=some (.int .u64 (p:Int)):=by rw[←hp];exact hb1.cell_ (mix_get _ _ hlt)
   have c2:wr.cell? ⟨w.heap.size+1,k,none⟩=some (.int .u64 (q:Int)):=by rw[←hq];exact hb2.cell_ (E5.v_get _ hlt)
   have c3:wr.frozen? ⟨w.heap.size,k,none⟩=false:=hb1.frozen k
   have e1:IntKind.u64.wrap ((p:Int)+(q:Int))=((p+q:Nat):Int):=by
    have:=light_get HL1.out hlt
    have:=light_get HL2.out hlt
    rw[IntKind.wrap_u64];omega
   have HS:=Lib.hid (show(y1.add y2).l.getD k 0=p+q by rw[add_get _ _ hlt,hp,hq])
   clear hb1 hb2 hp hq
   go_wp2
   go_region
   all_goals
    go_wp2
    go_roundw
    case rel =>
     refine⟨k+1,by omega,by go_num,?_,?_,?_⟩
     ·rw[←mix_set _ _ hlt,HS.out];exact HC1.out.set_ k _
     ·exact HC2.out.other (p:=⟨w.heap.size,k,none⟩) (by simp) _
     ·exact only_drew (only_set (p:=⟨w.heap.size,k,none⟩) HG.out (.inl rfl) _)
    case measure=>simp[intOf];omega
  ·obtain rfl:k=5:=by omega
   clear hb1 hb2
   go_wp2_with fail
   have hok:=E5.add_ok HL1.out HL2.out
   have hb1:=HC1.out
   rw[mix_five] at hb1
   refine(reduce_any _ _ _ hok hb1).mono ?_
   rintro e w3 ⟨rfl,b1,g3⟩
   rw[HV.out,HR.out] at b1
   have b3:=(HB3.out.grown HG.out (by simp;omega)).grown g3 (by simp;omega)
   have b4:=Lib.hid (show Below w.heap.size w w3 from(HB4.out.grown HG.out HB4.out.size (by simp)).grown g3 (HB4.out.grown HG.out HB4.out.size (by simp)).size (by simp))
   clear g3 hb1 hok
   obtain⟨⟨a0,a1,a2,a3,a4⟩,-⟩:=cells5 b1
   obtain⟨⟨r0,r1,r2,r3,r4⟩,f0,f1,f2,f3,f4⟩:=cells5 b3
   clear b1 b3
   go_wp2
   refine bodyPost_ret (v:=.agg r.v) ?_ rfl ⟨rfl,set5_below b4.out (by omega) _ _ _ _ _⟩
   simp[results,Tryz.results39,go_sem,E5.v,r0,r1,r2,r3,r4]
theorem sub_get(x y:E5){k:Nat}(h1:1≤k)(hk:k < 5):(x.sub y).l.getD k 0=x.l.getD k 0+(4503599627370494 - y.l.getD k 0):=by
 match k,h1,hk with
 |1,_,_=>rfl
 |2,_,_=>rfl
 |3,_,_=>rfl
 |4,_,_=>rfl
def sb(a b:Nat):Nat:=(a+(pp - b%pp))%pp
theorem sub_mod{x y a b:E5}(h:b.light)(h1:a.val%pp=x.val%pp)(h2:b.val%pp=y.val%pp):(a.sub b).val%pp=sb x.val y.val:=by
 have e:=E5.sub_val (x:=a) h
 have l:=mod_lt y.val
 have c1:((a.sub b).val+b.val)%pp=(x.val+(pp - y.val%pp)+b.val)%pp:=by
  rw[e,Nat.add_mod (x.val+(pp - y.val%pp)),h2]
  conv=>rhs;rw[←Nat.add_mod_mod,Nat.mod_add_mod,Nat.mod_mod]
  rw[show x.val+(pp - y.val%pp)+y.val%pp=x.val+pp by omega,Nat.add_mod_right,←h1,show a.val+2*pp=a.val+pp*2 by omega,Nat.add_mul_mod_self_left]
 unfold sb
 exact cg_add_right (c:=b.val) c1
def SubRel(x y z:E5)(g h:Nat)(w0:World)(i:Value)(wr:World):Prop :=
 ∃k:Nat,k≤4∧i=.int .i64 (k:Int)∧Bl wr g 31 (nl (mix x z (k+1))).toArray∧Bl wr h 31 y.v∧w0.grownBy wr (some g)
set_option maxHeartbeats 2000000 in
theorem Sub_any(x y:E5)(w:World)(hx:x.ok)(hy:y.ok) :
  Calls Tryz.prog 40 #[.agg x.v,.agg y.v] w fun e w'=>e=.returned (.agg (el (sb x.val y.val)).v)∧Below w.heap.size w w':=by
 have HX:=Lib.hid hx
 have HY:=Lib.hid hy
 obtain⟨r,hr⟩:∃r,el (sb x.val y.val)=r:=⟨_,rfl⟩
 have HR:=Lib.hid hr
 rw[hr]
 clear hx hy hr
 obtain⟨B1,B2,B3,B4⟩:=box3 w x y
 go_enter Tryz.func40,Tryz.ntmps40
 go_wp2_with fail
 change Calls _ _ _ (((w.alloc (.cells x.v 31)).alloc (.cells y.v 31)).alloc (.cells z5 31)) _
 generalize hW:((w.alloc (.cells x.v 31)).alloc (.cells y.v 31)).alloc (.cells z5 31)=W0 at *
 clear hW
 refine(lighten_any _ x _ HX.out B1).mono ?_
 rintro e w1 ⟨rfl,y1,l1,v1,b1,g1⟩
 have B2':=B2.grown g1 (by simp)
 have B3':=B3.grown g1 (by simp;omega)
 have B4':Below w.heap.size w w1:=B4.grown g1 B4.size (by simp)
 clear B1 B2 B3 B4 g1
 go_wp2_with fail
 refine(lighten_any _ y _ HY.out B2').mono ?_
 rintro e w2 ⟨rfl,y2,l2,v2,b2,g2⟩
 have b1':=b1.grown g2 (by simp)
 have b3':=B3'.grown g2 (by simp)
 have b4':Below w.heap.size w w2:=B4'.grown g2 B4'.size (by simp)
 clear B2' B3' B4' b1 g2
 have HL1:=Lib.hid l1
 have HL2:=Lib.hid l2
 have HV:=Lib.hid (show(y1.sub y2).val%pp=sb x.val y.val from sub_mod l2 v1 v2)
 have HB1:=Lib.hid b1'
 have HB2:=Lib.hid b2
 have HB3:=Lib.hid b3'
 have HB4:=Lib.hid b4'
 clear l1 l2 v1 v2 b1' b2 b3' b4'
 have e0:IntKind.u64.wrap (4503599627370458 - (y2.a:Int))=((4503599627370458 - y2.a:Nat):Int):=by have:=HL2.out.1;rw[IntKind.wrap_u64];omega
 have e00:IntKind.u64.wrap ((y1.a:Int)+((4503599627370458 - y2.a:Nat):Int))=((y1.a+(4503599627370458 - y2.a):Nat):Int):=by have:=HL1.out.1;rw[IntKind.wrap_u64];omega
 generalize hu:4503599627370458 - y2.a=u at *
 generalize ht:y1.a+u=t at *
 have HS0:=Lib.hid (show(nl (mix y1 (y1.sub y2) 0)).toArray.setIfInBounds 0 (.int .u64 (t:Int))=(nl (mix y1 (y1.sub y2) 1)).toArray by subst ht hu;exact mix_set y1 (y1.sub y2) (k:=0) (by decide))
 clear hu ht
 have d1:w2.cell? ⟨w.heap.size,0,none⟩=some (.int .u64 (y1.a:Int)):=HB1.out.cell_ rfl
 have d2:w2.cell? ⟨w.heap.size+1,0,none⟩=some (.int .u64 (y2.a:Int)):=HB2.out.cell_ rfl
 have d3:w2.frozen? ⟨w.heap.size,0,none⟩=false:=HB1.out.frozen 0
 go_wp2
 clear d1 d2 d3 e0 e00
 go_loopw [15] (fun i wr=>SubRel y1 y2 (y1.sub y2) w.heap.size (w.heap.size+1) w2 i wr) (fun i _=>4 - (intOf i).toNat)
 case atStart=>exact⟨0,by decide,rfl,by rw[←HS0.out];exact HB1.out.set_ 0 _,HB2.out.other (p:=⟨w.heap.size,0,none⟩) (by simp) _,only_set (p:=⟨w.heap.size,0,none⟩) (World.grownBy.refl w2 _) (.inl rfl) _⟩
 case round =>
  obtain⟨k,hk,rfl,hb1,hb2,hgr⟩:=hrel
  have HC1:=Lib.hid hb1
  have HC2:=Lib.hid hb2
  have HG:=Lib.hid hgr
  clear hgr
  by_cases hlt:k < 4
  ·obtain⟨j,hj⟩:∃j,j=k+1:=⟨_,rfl⟩
   rw[←hj] at hb1
   obtain⟨p,hp⟩:∃p,y1.l.getD j 0=p:=⟨_,rfl⟩
   obtain⟨q,hq⟩:∃q,y2.l.getD j 0=q:=⟨_,rfl⟩
   have c1:wr.cell? ⟨w.heap.size,j,none⟩=some (.int .u64 (p:Int)):=by rw[←hp];exact hb1.cell_ (mix_get _ _ (by omega))
   have c2:wr.cell? ⟨w.heap.size+1,j,none⟩=some (.int .u64 (q:Int)):=by rw[←hq];exact hb2.cell_ (E5.v_get _ (by omega))
   have c3:wr.frozen? ⟨w.heap.size,j,none⟩=false:=hb1.frozen j
   have lp:=light_get HL1.out (k:=j) (by omega)
   have lq:=light_get HL2.out (k:=j) (by omega)
   obtain⟨u,hu⟩:∃u,4503599627370494 - q=u:=⟨_,rfl⟩
   have e1:IntKind.u64.wrap (4503599627370494 - (q:Int))=(u:Int):=by rw[IntKind.wrap_u64];omega
   have e2:IntKind.u64.wrap ((p:Int)+(u:Int))=((p+u:Nat):Int):=by rw[IntKind.wrap_u64];omega
   have HS:=Lib.hid (show(y1.sub y2).l.getD j 0=p+u by rw[sub_get _ _ (by omega) (by omega),hp,hq,hu])
   have ej:IntKind.i64.wrap ((k:Int)+1)=(j:Int):=by rw[IntKind.wrap_i64];omega
   have j0:(0:Int)≤(j:Int):=by omega
   have HJ:=Lib.hid hj
   have j5:(j:Int) < 5:=by omega
   clear hb1 hb2 hp hq lp lq hu hj
   go_wp2_with fail
   go_region
   all_goals
    clear ej j0 j5 e1 e2
    go_wp2
    go_roundw
    case rel =>
     refine⟨k+1,by omega,by go_num,?_,?_,?_⟩
     ·rw[←HJ.out,←mix_set _ _ (show j < 5 by have:=HJ.out;omega),HS.out];rw[←HJ.out] at HC1;exact HC1.out.set_ j _
     ·exact HC2.out.other (p:=⟨w.heap.size,j,none⟩) (by simp) _
     ·exact only_drew (only_set (p:=⟨w.heap.size,j,none⟩) HG.out (.inl rfl) _)
    case measure=>simp[intOf];omega
  ·obtain rfl:k=4:=by omega
   clear hb1 hb2
   go_wp2_with fail
   have hok:=E5.sub_ok HL1.out HL2.out
   have hb1:=HC1.out
   rw[mix_five] at hb1
   refine(reduce_any _ _ _ hok hb1).mono ?_
   rintro e w3 ⟨rfl,b1,g3⟩
   rw[HV.out,HR.out] at b1
   have b3:=(HB3.out.grown HG.out (by simp;omega)).grown g3 (by simp;omega)
   have b4:=Lib.hid (show Below w.heap.size w w3 from(HB4.out.grown HG.out HB4.out.size (by simp)).grown g3 (HB4.out.grown HG.out HB4.out.size (by simp)).size (by simp))
   clear g3 hb1 hok
   obtain⟨⟨a0,a1,a2,a3,a4⟩,-⟩:=cells5 b1
   obtain⟨⟨r0,r1,r2,r3,r4⟩,f0,f1,f2,f3,f4⟩:=cells5 b3
   clear b1 b3
   go_wp2
   refine bodyPost_ret (v:=.agg r.v) ?_ rfl ⟨rfl,set5_below b4.out (by omega) _ _ _ _ _⟩
   simp[results,Tryz.results40,go_sem,E5.v,r0,r1,r2,r3,r4]
end Go.Proofs.YtoibhnpmemnlfaaGreatDoor.Fd
