/- Joined texts. -/
import Derived.Test.YtjimhjfjfpeojaaGreatDoorQvRaF
import Derived.Test.YtjimhjfjfpeojaaGreatDoorQvFaE
import Derived.Test.YtjimhjfjfpeojaaGreatDoorQvAvNum
import Derived.Test.YtjimhjfjfpeojaaGreatDoorQvAvN
set_option maxRecDepth 100000
set_option maxHeartbeats 8000000
set_option linter.unusedVariables false
namespace Go.Proofs.YtjimhjfjfpeojaaGreatDoor.Fd
open Go.RowKit Go.Proofs.YtjimhjfjfpeojaaGreatDoor.Gn Go.Deep
theorem Zan(A:Option Addr)(c:Nat)(l:List Nat)(w:World)(hl:∀x∈l,x < 256)(hs:Sl w A 32 (bl l)) :
  Calls Tryz.prog 48 #[.slice A 32 c] w fun e w'=>DecP (le l) e∧Below w.heap.size w w':=by
 have A0:=(Below.refl w.heap.size w).alloc (Nat.le_refl _) (.cells z5 26)
 have Z0:=Lib.hid (Bl.new_ w 26 z5)
 have HL:=Lib.hid hl
 have W0:=Lib.hid A0
 have S0:=Lib.hid (hs.below A0)
 have LB:=Lib.hid (show le l < 65536 ^ 16 by
  have h:=Zco l hl
  rw[show l.length=32 by simpa[bl] using hs.1] at h
  rw[show(65536:Nat) ^ 16=256 ^ 32 from Z3q 16]
  exact h)
 have N0:=Lib.hid (Z2p A 32 c l (w.alloc (.cells z5 26)) (by decide) hl (hs.below A0))
 obtain⟨m,hm⟩:∃m,le l=m:=⟨_,rfl⟩
 rw[hm] at LB N0 ⊢
 have HM:=Lib.hid hm
 have PD:=Lib.hid (show ∀e,DecP m e=(if m < pp then DecR e (el m) 0 else DecR e ⟨0,0,0,0,0⟩ 30) from fun e=>rfl)
 clear hl hs A0 hm
 go_enter Tryz.func48,Tryz.ntmps48
 go_wp2_with fail
 change Calls _ _ _ (w.alloc (.cells z5 26)) _
 (with_reducible refine N0.out.mono ?_)
 rintro e w1 ⟨A1,k1,c1,rfl,h11,h12,h13⟩
 have T1:=Lib.hid h11
 have K1:=Lib.hid (show k1≤16 by rw[←Z09 h11];exact Z1c LB.out)
 have W1:=Lib.hid (Z0g W0.out (Nat.le_refl _) h13)
 have Z1:=Lib.hid (Z0.out.below' h13)
 have S1:=Lib.hid (S0.out.below h13)
 clear h11 h13 N0 W0 Z0 S0
 go_wp2_with fail
 (with_reducible refine(Zai w1).mono ?_)
 rintro e w2 ⟨A2,k2,c2,rfl,h21,h22,h23⟩
 have W2:=Lib.hid (Z0g W1.out (Nat.le_refl _) h23)
 have Z2:=Lib.hid (Z1.out.below' h23)
 have S2:=Lib.hid (S1.out.below h23)
 obtain⟨b,hb⟩:∃b,decide (m < pp)=b:=⟨_,rfl⟩
 have LL:=Z26 A1 A2 k1 k2 c1 c2 m pp w2 (by have:=K1.out;omega) (by rw[←Z09 h21,Z69];decide) (T1.out.below h23) h21
 rw[hb] at LL
 have LL:=Lib.hid LL
 have HB:=Lib.hid hb
 clear h21 h23 hb W1 Z1 S1
 go_wp2_with fail
 (with_reducible refine LL.out.mono ?_)
 rintro e w3 ⟨rfl,hb3⟩
 have W3:=Lib.hid (Z0g W2.out (Nat.le_refl _) hb3)
 have Z3:=Lib.hid (Z2.out.below' hb3)
 have S3:=Lib.hid (S2.out.below hb3)
 clear hb3 LL W2 Z2 S2
 cases b
 ·have HLT:=Lib.hid (show ¬m < pp from of_decide_eq_false HB.out)
  obtain⟨⟨r0,r1,r2,r3,r4⟩,f0,f1,f2,f3,f4⟩:=cells5 Z3.out
  go_wp2
  refine bodyPost_ret (v:=.tuple #[.agg z5,.int .i64 30]) ?_ rfl ⟨by rw[PD.out,if_neg HLT.out];exact rfl,Z08 W3.out (Nat.le_refl _) _ _ _ _ _⟩
  simp[results,Tryz.results48,go_sem,z5,r0,r1,r2,r3,r4]
 ·have HLT:=Lib.hid (show m < pp from of_decide_eq_true HB.out)
  have N1:=Z2p A 32 c l w3 (by decide) HL.out S3.out
  rw[HM.out] at N1
  have N1:=Lib.hid N1
  go_wp2_with fail
  (with_reducible refine N1.out.mono ?_)
  rintro e w4 ⟨A4,k4,c4,rfl,h41,h42,h43⟩
  have W4:=Lib.hid (Z0g W3.out (Nat.le_refl _) h43)
  have Z4:=Lib.hid (Z3.out.below' h43)
  have K4:=Lib.hid (show k4≤100 by rw[←Z09 h41];exact Nat.le_trans (len16 HLT.out) (by decide))
  have EE:=Zew A4 k4 c4 m w4 K4.out HLT.out h41
  obtain⟨y,hy⟩:∃y,el m=y:=⟨_,rfl⟩
  rw[hy] at EE
  have HY:=Lib.hid hy
  have EE:=Lib.hid (show Calls Tryz.prog 88 #[.slice A4 k4 c4] w4 fun e w'=>e=.returned (.agg #[.int .u64 (y.a:Int),.int .u64 (y.b:Int),.int .u64 (y.c:Int),.int .u64 (y.d:Int),.int .u64 (y.e:Int)])∧Below w4.heap.size w4 w' from EE)
  clear h41 h43 hy N1
  go_wp2_with fail
  (with_reducible refine EE.out.mono ?_)
  rintro e w5 ⟨rfl,hb5⟩
  have W5:=Lib.hid (Z0g W4.out (Nat.le_refl _) hb5)
  obtain⟨⟨r0,r1,r2,r3,r4⟩,f0,f1,f2,f3,f4⟩:=cells5 (Z4.out.below' hb5)
  clear hb5 EE
  go_wp2
  refine bodyPost_ret (v:=.tuple #[.agg y.v,.int .i64 0]) ?_ rfl ⟨by rw[PD.out,if_pos HLT.out,HY.out];exact rfl,Z08 W5.out (Nat.le_refl _) _ _ _ _ _⟩
  simp[results,Tryz.results48,go_sem,E5.v,r0,r1,r2,r3,r4]
end Go.Proofs.YtjimhjfjfpeojaaGreatDoor.Fd
namespace Go.Proofs.YtjimhjfjfpeojaaGreatDoor.Av
open Go.RowKit Go.Proofs.YtjimhjfjfpeojaaGreatDoor.Gn Go.Proofs.YtjimhjfjfpeojaaGreatDoor.Fd Go.Deep
theorem Zc3{u v:Nat}(hu:u < pp)(hv:v < pp)(w:World):FnAt Tryz.prog [.u64] w 89 [num u,num v] (.tup [num ((rr u v).getD 0),.lit (.bool (rr u v).isSome)]) :=
 ⟨fun _ _=>by kernel_rfl,fun O vs hO hk hl hr=>by
  obtain⟨x,y,rfl,h1,h2⟩:=Z5o hl hr
  obtain⟨A,n,c,rfl,s1,-⟩:=Z43 h1
  obtain⟨B,m,d,rfl,s2,-⟩:=Z43 h2
  refine(Zf0 A B n m c d u v w hu hv s1 s2).mono fun e w' ⟨C,k,q,s,b,h3,h4,h5,h6,h7,h8⟩=>⟨_,h3,?_,h8⟩
  subst h6 h7
  exact⟨_,rfl,rfl,⟨_,rfl,Zjv h4 (fun h=>by cases h) (Z8m hO hk h8) (Zk7 _)⟩,⟨_,rfl,rfl⟩,trivial⟩⟩
theorem Zi9{r:Bool}{l:List Nat}(h:l.length≤1000)(hl:∀x∈l,x < 256)(w:World):FnAt Tryz.prog [.u64] w 50 [byt r l] (num (le l)) :=
 ⟨fun _ _=>by kernel_rfl,fun O vs hO hk hln hr=>by
  obtain⟨u,rfl,h1⟩:=Z6g hln hr
  obtain⟨A,n,c,rfl,s1,-⟩:=Z43 h1
  exact(Z2p A n c l w (by have:=s1.1;simp[bl] at this;omega) hl s1).mono fun e w' hr=>Z83 hO hk hr⟩
theorem Zia{w w':World}{e:Ending}{l:List Nat}{O:Nat→Prop}(hm:l.length≤maxLen)(h:∃g,e=.returned (.slice (some ⟨g,0,none⟩) l.length l.length)∧w.heap.size≤g∧Bl w' g 5 (bl l).toArray∧Below w.heap.size w w') :
  ∃v n us,e=.returned v∧Row w' 5 1 v n us false∧us.length=((bl l).map DV.lit).length∧DV.reps (fun b=>O b∨blk v=some b) w' ((bl l).map DV.lit) 0 (fun i u=>us[i]?=some u)∧(∀b,blk v=some b→w.heap.size≤b)∧(∃A n c,v=.slice A n c)∧Below w.heap.size w w':=by
 obtain⟨g,h1,h2,h3,h4⟩:=h
 have hr:=Zod (l:=bl l) (ni:=false) h3 (by simpa[bl] using hm) (fun h=>by cases h)
 rw[show(bl l).length=l.length by simp[bl]] at hr
 refine⟨_,_,bl l,h1,hr,by simp,Z0f.2 fun j x hj=>?_,fun b hb=>?_,⟨_,_,_,rfl⟩,h4⟩
 ·rw[List.getElem?_map] at hj
  cases hq:(bl l)[j]? with
  |none=>rw[hq] at hj;cases hj
  |some v=>rw[hq] at hj;cases hj;exact⟨v,by rw[Nat.zero_add];exact hq,rfl⟩
 ·cases hb;exact h2
theorem by_le(n m:Nat)(h:m≤1000):(by_ n m).length≤maxLen:=by
 rw[show(by_ n m).length=m from Fd.by_length n m];unfold maxLen;omega
theorem Zmb{v m:Nat}(hv:v < pp)(hm:m≤1000)(w:World):OwnAt Tryz.prog [] w 39 [num v,.lit (.int .i64 (m:Int))] 5 1 false ((bl (by_ v m)).map .lit) :=
 ⟨fun _ _=>by kernel_rfl,fun O vs hO hk hl hr=>by
  obtain⟨x,y,rfl,h1,h2⟩:=Z5o hl hr
  obtain⟨A,n,c,rfl,s1,-⟩:=Z43 h1
  cases h2
  have:=Z2o A n c m (dg v) w (s1.1▸Nat.le_trans (dg16 hv) (by decide)) hm (Z0o v) s1
  rw[Z0l] at this
  exact this.mono fun e w' hr=>Zia (by_le v m hm) hr⟩
theorem Zk8{r:Bool}{l:List Nat}(h32:l.length=32)(hl:∀x∈l,x < 256)(w:World):FnAt Tryz.prog [] w 48 [byt r l] (.tup [.lit (.agg (if le l < pp then(el (le l)).v else z5)),.lit (.int .i64 (if le l < pp then 0 else 30))]) :=
 ⟨fun _ _=>by kernel_rfl,fun O vs hO hk hln hr=>by
  obtain⟨u,rfl,h1⟩:=Z6g hln hr
  obtain⟨A,n,c,rfl,s1,-⟩:=Z43 h1
  obtain rfl:n=32:=by have:=s1.1;simp[bl] at this;omega
  refine(Zan A c l w hl s1).mono fun e w' ⟨h3,h4⟩=>?_
  unfold DecP at h3
  split at h3
  ·rename_i hp
   rw[if_pos hp,if_pos hp]
   exact⟨_,h3,⟨_,rfl,rfl,⟨_,rfl,rfl⟩,⟨_,rfl,rfl⟩,trivial⟩,h4⟩
  ·rename_i hp
   rw[if_neg hp,if_neg hp]
   exact⟨_,h3,⟨_,rfl,rfl,⟨_,rfl,rfl⟩,⟨_,rfl,rfl⟩,trivial⟩,h4⟩⟩
end Go.Proofs.YtjimhjfjfpeojaaGreatDoor.Av
