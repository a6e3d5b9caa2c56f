/- Joined texts. -/
import Derived.Test.YtjimhjfjfpeojaaGreatDoorQvRfRest
import Derived.Test.YtjimhjfjfpeojaaGreatDoorQvRaE
import Derived.Deep.RegionHeld3
import Derived.Test.YtjimhjfjfpeojaaGreatDoorQvFsPush
import Derived.Test.YtjimhjfjfpeojaaGreatDoorQvFaC
import Derived.Test.YtjimhjfjfpeojaaGreatDoorQvSaE
import Derived.Lib.SmallJoins
import Derived.Test.YtjimhjfjfpeojaaGreatDoorQvGnA
import Derived.Lib.AppendZeros
set_option maxRecDepth 100000
set_option maxHeartbeats 8000000
set_option linter.unusedVariables false
namespace Go.Proofs.YtjimhjfjfpeojaaGreatDoor.Fd
open Go.RowKit Go.Proofs.YtjimhjfjfpeojaaGreatDoor.Gn Go.Deep
theorem num_len(l:List Nat)(n:Nat)(h:∀x∈l,x < 256)(hn:l.length≤2*n):(dg (le l)).length≤n:=by
 refine Z1c (Nat.lt_of_lt_of_le (Zco l h) ?_)
 rw[Z3q];exact Nat.pow_le_pow_right (by decide) hn
def Z2j(l:List Nat):Int:=if l.length=32 then(if le l < Lq then 0 else 31) else 1
theorem Zb2(A:Option Addr)(n c:Nat)(l:List Nat)(w:World)(hn:n≤1000)(hl:∀x∈l,x < 256)(hs:Sl w A n (bl l)) :
  Calls Tryz.prog 79 #[.slice A n c] w fun e w'=>e=.returned (.int .i64 (Z2j l))∧Below w.heap.size w w':=by
 have hln:l.length=n:=by simpa[bl] using hs.1
 by_cases h32:n=32
 ·have t0:((n:Int) != 32)=false:=by simp;omega
  have NN:=Lib.hid (Z2p A n c l w hn hl hs)
  have KN:=Lib.hid (num_len l 16 hl (by omega))
  obtain⟨b,hb⟩:∃b,decide (le l < Lq)=b:=⟨_,rfl⟩
  have HB:=Lib.hid hb
  have HE:=Lib.hid (show Z2j l=if le l < Lq then 0 else 31 by unfold Z2j;rw[if_pos (by omega)])
  clear hl hs hln h32 hb
  go_enter Tryz.func79,Tryz.ntmps79
  go_wp2_with fail
  (with_reducible refine NN.out.mono ?_)
  rintro e w1 ⟨A1,k1,c1,rfl,h11,h12,h13⟩
  have T1:=Lib.hid h11
  have W1:=Lib.hid h13
  clear h11 h13 NN
  go_wp2_with fail
  (with_reducible refine(Zgo _).mono ?_)
  rintro e w2 ⟨A2,k2,c2,rfl,h21,h22,h23⟩
  have W2:=Lib.hid (Z0g W1.out (Nat.le_refl _) h23)
  have LL:=Z26 A1 A2 k1 k2 c1 c2 (le l) Lq w2 (by rw[←Z09 T1.out];exact Nat.le_trans KN.out (by decide)) (by rw[←Z09 h21];exact Nat.le_trans Zcf (by decide)) (T1.out.below h23) h21
  rw[HB.out] at LL
  have LL:=Lib.hid LL
  clear h21 h23
  go_wp2_with fail
  (with_reducible refine LL.out.mono ?_)
  rintro e w3 ⟨rfl,h3⟩
  have W3:=Lib.hid (Z0g W2.out (Nat.le_refl _) h3)
  clear h3 LL
  cases b
  ·have HX:=Lib.hid (show Z2j l=31 by rw[HE.out,if_neg (of_decide_eq_false HB.out)])
   go_wp2
   go_ret
   exact⟨Z13 HX.out.symm,W3.out⟩
  ·have HX:=Lib.hid (show Z2j l=0 by rw[HE.out,if_pos (of_decide_eq_true HB.out)])
   go_wp2
   go_ret
   exact⟨Z13 HX.out.symm,W3.out⟩
 ·have t0:((n:Int) != 32)=true:=by simp;omega
  have HX:=Lib.hid (show Z2j l=1 by unfold Z2j;rw[if_neg (by omega)])
  clear hl hs hln h32
  go_enter Tryz.func79,Tryz.ntmps79
  go_wp2
  go_ret
  exact⟨Z13 HX.out.symm,Below.refl _ _⟩
def RetYE(l:List Nat)(w:World)(e:Ending)(w':World):Prop:=∃g,e=.returned (.tuple #[.slice (some ⟨g,0,none⟩) l.length l.length,.int .i64 0])∧w.heap.size≤g∧Bl w' g 5 (bl l).toArray∧Below w.heap.size w w'
theorem Zgy(A:Option Addr)(n c:Nat)(l:List Nat)(w:World)(hn:n≤64)(hl:∀x∈l,x < 256)(hs:Sl w A n (bl l)) :
  Calls Tryz.prog 114 #[.slice A n c] w (RetYE (by_ (le l%Lq) 32) w):=by
 have hln:l.length=n:=by simpa[bl] using hs.1
 have t0:decide ((64:Int) < (n:Int))=false:=by simp;omega
 have NN:=Lib.hid (Z2p A n c l w (by omega) hl hs)
 have KN:=Lib.hid (num_len l 32 hl (by omega))
 clear hl hs hln hn
 go_enter Tryz.func114,Tryz.ntmps114
 go_wp2_with fail
 (with_reducible refine NN.out.mono ?_)
 rintro e w1 ⟨A1,k1,c1,rfl,h11,h12,h13⟩
 have W1:=Lib.hid h13
 have RR:=Lib.hid (Zj5 A1 k1 c1 (le l) w1 (by rw[←Z09 h11];exact Nat.le_trans KN.out (by decide)) h11)
 clear h11 h13 NN
 go_wp2_with fail
 (with_reducible refine RR.out.mono ?_)
 rintro e w2 ⟨A2,k2,c2,rfl,h21,h22,h23⟩
 have W2:=Lib.hid (Z0g W1.out (Nat.le_refl _) h23)
 have BY:=Z2o A2 k2 c2 32 (dg (le l%Lq)) w2 (by rw[←Z09 h21];exact Nat.le_trans (Zkm (Nat.mod_lt _ Z9m)) (by decide)) (by decide) (Z0o _) h21
 rw[Z0l] at BY
 have BY:=Lib.hid (show Calls Tryz.prog 39 #[.slice A2 k2 c2,.int .i64 32] w2 (RetY (by_ (le l%Lq) 32) w2) from BY)
 clear h21 h23 RR
 go_wp2_with fail
 (with_reducible refine BY.out.mono ?_)
 rintro e w3 ⟨g3,rfl,h31,h32,h33⟩
 have HG:=Lib.hid (Nat.le_trans W2.out.size h31)
 have H3:=Lib.hid h32
 have W3:=Lib.hid (Z0g W2.out (Nat.le_refl _) h33)
 clear h31 h32 h33 BY
 go_wp2
 go_ret2
 exact⟨g3,rfl,HG.out,H3.out,W3.out⟩
theorem Znp(l:List Nat)(j:Nat):wo l (j+1)=wo (l.drop 8) j:=by
 unfold wo
 rw[List.drop_drop,show 8*(j+1)=8+8*j by omega]
theorem Znq(l:List Nat)(n:Nat):wl l (n+1)=wo l 0 :: wl (l.drop 8) n:=by
 unfold wl
 rw[List.range_succ_eq_map,List.map_cons,List.map_map]
 congr 1
 apply List.map_congr_left
 intro j _
 exact Znp l j
theorem Znr:∀(n:Nat) (l:List Nat),l.length≤8*n→vb B64 (wl l n)=le l:=by
 intro n
 induction n with
 |zero =>
  intro l h
  have:l=[]:=List.length_eq_zero_iff.1 (by omega)
  subst this;rfl
 |succ n ih =>
  intro l h
  rw[Znq,Z2b,ih _ (by rw[List.length_drop];omega)]
  have h1:=Z3p l 8
  have h2:wo l 0=le (l.take 8):=rfl
  rw[h1,h2,Z0q]
theorem Zns(l:List Nat)(n:Nat)(h:∀x∈l,x < 256):Wo B64 (wl l n):=by
 intro x hx
 obtain⟨j,-, rfl⟩:=List.mem_map.1 hx
 rw[Z0q];exact Ze8 l j h
theorem Zr8(l:List Nat)(n:Nat):(wl l n).length=n:=by simp[wl]
theorem Z56{a b c d v:Nat}(h:Wo B64 [a,b,c,d])(hv:vb B64 [a,b,c,d]=v) : [a,b,c,d]=Z61 v:=by
 have ha:a < 18446744073709551616:=by rw[←Z0q];exact h a (by simp)
 have hb:b < 18446744073709551616:=by rw[←Z0q];exact h b (by simp)
 have hc:c < 18446744073709551616:=by rw[←Z0q];exact h c (by simp)
 have hd:d < 18446744073709551616:=by rw[←Z0q];exact h d (by simp)
 have e:v=a+18446744073709551616*(b+18446744073709551616*(c+18446744073709551616*d)):=by
  rw[←hv,←Z0q];simp[Z2b,Z3m]
 clear hv h
 unfold Z61
 have e1:v%18446744073709551616=a:=by omega
 have e2:v / 18446744073709551616%18446744073709551616=b:=by omega
 have e3:v / 340282366920938463463374607431768211456%18446744073709551616=c:=by omega
 have e4:v / 6277101735386680763835789423207666416102355444464034512896%18446744073709551616=d:=by omega
 rw[e1,e2,e3,e4]
theorem Zgz{a b c d v:Nat}(h:Wo B64 [a,b,c,d])(hv:vb B64 [a,b,c,d]=v):(List.range 32).map (wb [a,b,c,d])=by_ v 32:=by
 rw[Z56 h hv,Zbj]
theorem Zja{a b c d v:Nat}(w:World)(h:Wo B64 [a,b,c,d])(hv:vb B64 [a,b,c,d]=v) :
  Calls Tryz.prog 95 #[.agg #[.int .u64 (a:Int),.int .u64 (b:Int),.int .u64 (c:Int),.int .u64 (d:Int)]] w (RetB (by_ v 32) w):=by
 have:=Z6h a b c d w
 rwa [Zgz h hv] at this
theorem RetYE.mk{l:List Nat}{w w1 w':World}{g:Nat}(hg:w1.heap.size≤g)(hb:Bl w' g 5 (bl l).toArray)(h1:Below w.heap.size w w1)(h2:Below w1.heap.size w1 w'):RetYE l w (.returned (.tuple #[.slice (some ⟨g,0,none⟩) l.length l.length,.int .i64 0])) w' :=
 ⟨g,rfl,Nat.le_trans h1.size hg,hb,h1.trans (h2.mono h1.size)⟩
theorem Zjb(A:Option Addr)(n c:Nat)(l:List Nat)(w:World)(tab:TabL w)(hn:n≤64)(hl:∀x∈l,x < 256)(hs:Sl w A n (bl l)) :
  Calls Tryz.prog 107 #[.slice A n c] w (RetYE (by_ (le l%Lq) 32) w):=by
 have hln:l.length=n:=by simpa[bl] using hs.1
 have t0:decide ((64:Int) < (n:Int))=false:=by simp;omega
 have WW:=Lib.hid (Z49 A n c l w hn hl hs)
 have FF:=Lib.hid (show ∀u,TabL u→Calls Tryz.prog 109 #[.agg (nl (wl l 8)).toArray] u (RetW (le l%Lq) u) from fun u h=>by
  have:=Z7h (wl l 8) u h (Zr8 l 8) (Zns l 8 hl)
  rwa [Znr 8 l (by omega)] at this)
 have TB:=Lib.hid tab
 clear hl hs hln hn tab
 go_enter Tryz.func107,Tryz.ntmps107
 go_wp2_with fail
 (with_reducible refine WW.out.mono ?_)
 rintro e w1 ⟨rfl,hb1⟩
 have W1:=Lib.hid hb1
 have TB1:=Lib.hid (TB.out.below hb1)
 clear hb1 WW
 go_wp2_with fail
 (with_reducible refine(FF.out _ TB1.out).mono ?_)
 rintro e w2 ⟨a,b,c',d,rfl,hw2,hv2,hb2⟩
 have W2:=Lib.hid (Zch W1.out hb2)
 have BB:=Lib.hid (Zja w2 hw2 hv2)
 clear hw2 hv2 hb2 FF
 go_wp2_with fail
 (with_reducible refine BB.out.mono ?_)
 rintro e w3 ⟨g,rfl,hg,hbl,hb3⟩
 have R:=Lib.hid (RetYE.mk hg hbl W2.out hb3)
 clear hg hbl hb3 BB
 go_wp2
 go_ret2
 exact R.out
abbrev C8(w:World)(g a b c d e f h i:Nat):Prop:=w.cell? ⟨g,0,none⟩=some (.int .u64 (a:Int))∧w.cell? ⟨g,1,none⟩=some (.int .u64 (b:Int))∧w.cell? ⟨g,2,none⟩=some (.int .u64 (c:Int))∧w.cell? ⟨g,3,none⟩=some (.int .u64 (d:Int))∧w.cell? ⟨g,4,none⟩=some (.int .u64 (e:Int))∧w.cell? ⟨g,5,none⟩=some (.int .u64 (f:Int))∧w.cell? ⟨g,6,none⟩=some (.int .u64 (h:Int))∧w.cell? ⟨g,7,none⟩=some (.int .u64 (i:Int))
abbrev v8(a b c d e f h i:Nat):Array Value:=#[.int .u64 (a:Int),.int .u64 (b:Int),.int .u64 (c:Int),.int .u64 (d:Int),.int .u64 (e:Int),.int .u64 (f:Int),.int .u64 (h:Int),.int .u64 (i:Int)]
theorem Zts{w:World}{g:Nat}{t:TypeId}{a b c d e f h i:Nat}(hb:Bl w g t (v8 a b c d e f h i)):C8 w g a b c d e f h i :=
 ⟨hb.cell_ rfl,hb.cell_ rfl,hb.cell_ rfl,hb.cell_ rfl,hb.cell_ rfl,hb.cell_ rfl,hb.cell_ rfl,hb.cell_ rfl⟩
theorem Zr9:Tryz.prog.eqGuardType Tryz.prog.depth 108=false:=by kernel_rfl
theorem Zra(a b c d p q r s:Nat)(w:World):(Op.equalIn 10000 108 (.agg #[.int .u64 (p:Int),.int .u64 (q:Int),.int .u64 (r:Int),.int .u64 (s:Int)]) (.agg #[.int .u64 (a:Int),.int .u64 (b:Int),.int .u64 (c:Int),.int .u64 (d:Int)])).run Tryz.prog w=.ok (decide ([p,q,r,s]=[a,b,c,d])) w:=by
 have h:=Z3b (P:=Tryz.prog) 9998 (t:=108) (e:=24) (n:=4) (ik:=.u64) Tryz.underlying108 Tryz.underlying24 (by kernel_rfl) w [(p:Int),q,r,s] [(a:Int),b,c,d] rfl rfl
 have e:decide ([(p:Int),q,r,s]=[(a:Int),b,c,d])=decide ([p,q,r,s]=[a,b,c,d]):=by
  rw[decide_eq_decide];simp;omega
 rw[←e];exact h
theorem wl8(l:List Nat):∃a b c d e f h i,wl l 8=[a,b,c,d,e,f,h,i]∧wl l 4=[a,b,c,d]:=⟨_,_,_,_,_,_,_,_,rfl,rfl⟩
theorem Zdf{v a b c d:Nat}(h:Wo B64 [a,b,c,d])(hv:vb B64 [a,b,c,d]=v):(Z61 (v%Lq)=[a,b,c,d])↔v < Lq:=by
 constructor
 ·intro e
  have l1:v%Lq < Lq:=Nat.mod_lt _ Z9m
  have l2:v%Lq < 115792089237316195423570985008687907853269984665640564039457584007913129639936:=Nat.lt_trans l1 (by unfold Lq;decide)
  obtain⟨m,hm⟩:∃m,v%Lq=m:=⟨_,rfl⟩
  rw[hm] at e l1 l2
  have ev:v=a+18446744073709551616*(b+18446744073709551616*(c+18446744073709551616*d)):=by
   rw[←hv,←Z0q];simp[Z2b,Z3m]
  clear hv h hm
  suffices hvm:v=m by rw[hvm];exact l1
  clear l1
  unfold Z61 at e
  simp only[List.cons.injEq,and_true] at e
  obtain⟨e1,e2,e3,e4⟩:=e
  omega
 ·intro e
  rw[Nat.mod_eq_of_lt e]
  exact(Z56 h hv).symm
theorem Zdg(A:Option Addr)(n c:Nat)(l:List Nat)(w:World)(tab:TabL w)(hn:n≤1000)(hl:∀x∈l,x < 256)(hs:Sl w A n (bl l)) :
  Calls Tryz.prog 77 #[.slice A n c] w fun e w'=>e=.returned (.int .i64 (Z2j l))∧Below w.heap.size w w':=by
 have hln:l.length=n:=by simpa[bl] using hs.1
 by_cases h32:n=32
 ·have t0:((n:Int) != 32)=false:=by simp;omega
  have WW:=Z49 A n c l w (by omega) hl hs
  have hv:=Znr 8 l (by omega)
  have hv4:=Znr 4 l (by omega)
  have hw:=Zns l 8 hl
  have hw4:=Zns l 4 hl
  obtain⟨x0,x1,x2,x3,x4,x5,x6,x7,e8,e4⟩:=wl8 l
  rw[e8] at WW hv hw
  rw[e4] at hv4 hw4
  obtain⟨p,q,r,s,hpq⟩:∃p q r s,Z61 (le l%Lq)=[p,q,r,s]:=⟨_,_,_,_,rfl⟩
  have hsame:=Zdf hw4 hv4
  rw[hpq] at hsame
  have HE:=Lib.hid (show Z2j l=if le l < Lq then 0 else 31 by unfold Z2j;rw[if_pos (by omega)])
  have FF:=Lib.hid (show ∀u,TabL u→Calls Tryz.prog 109 #[.agg #[.int .u64 (x0:Int),.int .u64 (x1:Int),.int .u64 (x2:Int),.int .u64 (x3:Int),.int .u64 (x4:Int),.int .u64 (x5:Int),.int .u64 (x6:Int),.int .u64 (x7:Int)]] u fun e w'=>e=.returned (.agg #[.int .u64 (p:Int),.int .u64 (q:Int),.int .u64 (r:Int),.int .u64 (s:Int)])∧Below u.heap.size u w' from fun u h=>by
   refine(Z7h [x0,x1,x2,x3,x4,x5,x6,x7] u h rfl hw).mono ?_
   rintro e w' ⟨a,b,c',d,rfl,k1,k2,k3⟩
   have:=Z56 k1 k2
   rw[hv,hpq] at this
   simp only[List.cons.injEq,and_true] at this
   obtain⟨rfl,rfl,rfl,rfl⟩:=this
   exact⟨rfl,k3⟩)
  have WW:=Lib.hid (show Calls Tryz.prog 83 #[.slice A n c] w fun e w'=>e=.returned (.agg #[.int .u64 (x0:Int),.int .u64 (x1:Int),.int .u64 (x2:Int),.int .u64 (x3:Int),.int .u64 (x4:Int),.int .u64 (x5:Int),.int .u64 (x6:Int),.int .u64 (x7:Int)])∧Below w.heap.size w w' from WW)
  have TB:=Lib.hid tab
  have G1:=Zr9
  have G2:=fun w=>Zra x0 x1 x2 x3 p q r s w
  obtain⟨b,hb⟩:∃b,decide ([p,q,r,s]=[x0,x1,x2,x3])=b:=⟨_,rfl⟩
  rw[hb] at G2
  have HX:=Lib.hid (show Z2j l=if b=true then 0 else 31 by
   rw[HE.out,←hb];simp only[decide_eq_true_eq,hsame])
  clear hl hs hln h32 hb hsame hpq e8 e4 hv hv4 hw hw4 tab HE
  go_enter Tryz.func77,Tryz.ntmps77
  go_wp2_with fail
  (with_reducible refine WW.out.mono ?_)
  rintro e w1 ⟨rfl,hb1⟩
  have B1:=Lib.hid (hb1.alloc hb1.size (.cells (v8 x0 x1 x2 x3 x4 x5 x6 x7) 97))
  have TB1:=Lib.hid (TB.out.below B1.out)
  have SK:=Lib.hid (show ∀z:World,Below (w1.alloc (.cells (v8 x0 x1 x2 x3 x4 x5 x6 x7) 97)).heap.size (w1.alloc (.cells (v8 x0 x1 x2 x3 x4 x5 x6 x7) 97)) z→C8 z w1.heap.size x0 x1 x2 x3 x4 x5 x6 x7 from fun z h=>Zts (Bl.below' (Bl.new_ w1 97 (v8 x0 x1 x2 x3 x4 x5 x6 x7)) h))
  clear hb1 WW
  go_wp2_with fail
  go_region_held3 (fun z=>C8 z w1.heap.size x0 x1 x2 x3 x4 x5 x6 x7)
   (first|exact SK.out _ ((Below.refl _ _).drew)|exact SK.out _ (((Below.refl _ _).drew).trans hb2))
   ((go_at_call 109;(with_reducible refine(FF.out _ (TB1.out.below ((Below.refl _ _).drew))).mono ?_);rintro e w2 ⟨rfl,hb2⟩))
  all_goals
   rename_i hHeld
   clear hHeld
   have D1:=Lib.hid (Zch B1.out (((Below.refl _ _).drew).trans hb2))
   clear hb2
   cases b
   ·go_wp2
    go_ret
    exact⟨Z13 HX.out.symm,D1.out⟩
   ·go_wp2
    go_ret
    exact⟨Z13 HX.out.symm,D1.out⟩
 ·have t0:((n:Int) != 32)=true:=by simp;omega
  have HX:=Lib.hid (show Z2j l=1 by unfold Z2j;rw[if_neg (by omega)])
  clear hl hs hln h32
  go_enter Tryz.func77,Tryz.ntmps77
  go_wp2
  go_ret
  exact⟨Z13 HX.out.symm,Below.refl _ _⟩
end Go.Proofs.YtjimhjfjfpeojaaGreatDoor.Fd
namespace Go.Proofs.YtjimhjfjfpeojaaGreatDoor.Sh
open Go.RowKit Go.Proofs.YtjimhjfjfpeojaaGreatDoor.Gn Go.Deep
attribute [local go_sem ↓] Go.wp_at_zero Go.wp_at_succ
theorem Sl_block{w:World}{A:Option Addr}{n:Nat}{xs:List Value}(h:Sl w A n xs)(h0:0 < n):∀ad,A=some ad→ad.block < w.heap.size:=by
 rintro ad rfl
 obtain⟨ad',e,hc⟩:=h.at_ h0
 cases e
 have h1:0 < xs.length:=by rw[h.1];exact h0
 rw[List.getElem?_eq_getElem h1] at hc
 have:=Z0h hc
 rwa [add_block] at this
theorem Zdh(g c:Nat)(A:Option Addr)(w:World)(b0:w.cell? ⟨g,0,none⟩=some (.int .i64 512)) :
  Calls Tryz.prog 127 #[.pointer (some ⟨g,0,none⟩),.slice A 0 c] w fun e w'=>e=.returned (.tuple #[])∧w=w':=by
 go_enter Tryz.func127,Tryz.ntmps127
 go_wp2_with (go_at_call 143;refine(Z9e _).mono ?_;rintro e w' ⟨rfl,rfl⟩)
 go_loop [1] (fun b=>b=.slice A 0 c) (fun _=>0)
 case atStart=>rfl
 case round =>
  obtain rfl:=hrel
  go_wp2
  go_end0
  exact⟨rfl,rfl⟩
theorem Z9n(T:List Nat)(g:Nat)(A:Option Addr)(c:Nat)(w:World)(h:Hs true T g w)(hT:T.length≤1048576) :
  Calls Tryz.prog 106 #[.pointer (some ⟨g,0,none⟩),.slice A 0 c] w fun e w'=>e=.returned (.int .i64 0)∧w=w':=by
 obtain⟨ws,rs,hb,hst⟩:=h
 have b0:w.cell? ⟨g,0,none⟩=some (.int .i64 512):=hb.cell_ rfl
 have b1:w.cell? ⟨g,1,none⟩=some (.int .i64 (T.length:Int)):=hb.cell_ rfl
 have t1:decide ((1048576:Int) - (T.length:Int) < 0)=false:=decide_eq_false (by omega)
 clear hb hst
 go_enter Tryz.func106,Tryz.ntmps106
 go_wp2_with (first|(go_at_call 126;refine(Z9i g _ b0).mono ?_;rintro e w' ⟨rfl,rfl⟩)|(go_at_call 127;refine(Zdh g _ _ _ b0).mono ?_;rintro e w' ⟨rfl,rfl⟩))
 go_ret
 exact⟨rfl,rfl⟩
theorem writex64(T l:List Nat)(n:Nat)(hn:l.length=n)(g:Nat)(A:Option Addr)(c:Nat)(w:World)(hg:(8 < g∧5 < g))(hl:∀x∈l,x < 256)(hsl:Sl w A n (bl l))(hA:0 < n→∀ad,A=some ad→ad.block≠g)(hlc:n≤c)(h:Hs true T g w)(hmax:T.length+n≤1048576)(tab:Tab w) :
  Calls Tryz.prog 106 #[.pointer (some ⟨g,0,none⟩),.slice A n c] w
   fun e w'=>e=.returned (.int .i64 0)∧Hs true (T ++ l) g w'∧w.grownBy w' (some g)∧Tab w':=by
 subst hn
 rcases Nat.eq_zero_or_pos l.length with h0|h0
 ·have hl0:l=[]:=List.length_eq_zero_iff.1 h0
  subst hl0
  exact(Z9n T g A c w h (by simpa using hmax)).mono fun e w' ⟨h1,h2⟩=>by subst h2;exact⟨h1,by rw[List.append_nil];exact h,World.grownBy.refl _ _,tab⟩
 ·exact Z6o T l g A c w hg hl hsl (hA h0) hlc h hmax tab
end Go.Proofs.YtjimhjfjfpeojaaGreatDoor.Sh
namespace Go.Proofs.YtjimhjfjfpeojaaGreatDoor.Gn
open Go.RowKit Go.Deep
abbrev Rw:=Option Addr × Nat × Nat × List Nat
def rwv(r:Rw):Value:=.slice r.1 r.2.1 r.2.2.1
section
variable {H:Type} {enc:TypeId × Value→H} {P:Program} {w:World} {base:Nat} {spare:Nat→Bool} {held:Bool}
end
open Go.RowKit Go.Proofs.YtjimhjfjfpeojaaGreatDoor.Fd Go.Deep
def cat:List Rw→List Nat
 | []=>[]
 |r :: rs=>r.2.2.2 ++ cat rs
theorem Z7i(l k:List Rw):cat (l ++ k)=cat l ++ cat k:=by
 induction l with
 |nil=>simp[cat]
 |cons r l ih=>simp only[List.cons_append,cat,ih,List.append_assoc]
theorem Zjc{l:List Rw}{k:Nat}{r:Rw}(h:l[k]?=some r):cat (l.take (k+1))=cat (l.take k) ++ r.2.2.2:=by
 rw[show l.take (k+1)=l.take k ++ [r] by rw[List.take_add_one,h];rfl,Z7i];simp[cat]
theorem Zjd(l:List Rw)(k:Nat):(cat (l.take k)).length≤(cat l).length:=by
 have h:=congrArg (fun x=>(cat x).length) (List.take_append_drop k l)
 simp only[Z7i,List.length_append] at h
 omega
structure Pc (w:World) (r:Rw):Prop where
 len:r.2.1=r.2.2.2.length
 row:Sl w r.1 r.2.2.2.length (bl r.2.2.2)
 lt:∀x∈r.2.2.2,x < 256
 cap:r.2.2.2.length≤r.2.2.1
 nil:r.1=none→r.2.2.1=0
theorem Pc.below{w w':World}{r:Rw}(h:Pc w r)(hb:Below w.heap.size w w'):Pc w' r:=⟨h.len,h.row.below hb,h.lt,h.cap,h.nil⟩
end Go.Proofs.YtjimhjfjfpeojaaGreatDoor.Gn
