/- Joined texts. -/
import Derived.Test.YtjimhjfjfpeojaaGreatDoorQbRaF
import Derived.Test.YtjimhjfjfpeojaaGreatDoorQbFaE
import Derived.Test.YtjimhjfjfpeojaaGreatDoorQbAvNum
import Derived.Test.YtjimhjfjfpeojaaGreatDoorQbAvN
set_option linter.unusedVariables false
namespace Go.Proofs.YtjimhjfjfpeojaaGreatDoor.Fd
open Go.RowKit Go.Proofs.YtjimhjfjfpeojaaGreatDoor.Gn Go.Deep
set_option maxHeartbeats 2000000 in
theorem rdecode_any(A:Option Addr)(c:Nat)(l:List Nat)(w:World)(hl:∀x∈l,x < 256)(hs:Sl w A 32 (bl l)) :
  Calls Tryz.prog 48 #[.slice A 32 c] w fun e w'=>DecP (le l) e∧Below w.heap.size w w':=by
 have A0:=(Below.refl w.heap.size w).alloc (Nat.le_refl _) (.cells z5 26)
 have Z0:=Lib.hid (Bl.new_ w 26 z5)
 have HL:=Lib.hid hl
 have W0:=Lib.hid A0
 have S0:=Lib.hid (hs.below A0)
 have LB:=Lib.hid (show le l < 65536 ^ 16 by
  have h:=le_lt l hl
  rw[show l.length=32 by simpa[bl] using hs.1] at h
  rw[show(65536:Nat) ^ 16=256 ^ 32 from pow_half 16]
  exact h)
 have N0:=Lib.hid (Number_any A 32 c l (w.alloc (.cells z5 26)) (by decide) hl (hs.below A0))
 obtain⟨m,hm⟩:∃m,le l=m:=⟨_,rfl⟩
 rw[hm] at LB N0 ⊢
 have HM:=Lib.hid hm
 have PD:=Lib.hid (show ∀e,DecP m e=(if m < pp then DecR e (el m) 0 else DecR e ⟨0,0,0,0,0⟩ 30) from fun e=>rfl)
 clear hl hs A0 hm
 go_enter Tryz.func48,Tryz.ntmps48
 go_wp2_with fail
 change Calls _ _ _ (w.alloc (.cells z5 26)) _
 (with_reducible refine N0.out.mono ?_)
 rintro e w1 ⟨A1,k1,c1,rfl,h11,h12,h13⟩
 have T1:=Lib.hid h11
 have K1:=Lib.hid (show k1≤16 by rw[←sl_len h11];exact dg_len' LB.out)
 have W1:=Lib.hid (bel_nx W0.out (Nat.le_refl _) h13)
 have Z1:=Lib.hid (Z0.out.below' h13)
 have S1:=Lib.hid (S0.out.below h13)
 clear h11 h13 N0 W0 Z0 S0
 go_wp2_with fail
 (with_reducible refine(P_any w1).mono ?_)
 rintro e w2 ⟨A2,k2,c2,rfl,h21,h22,h23⟩
 have W2:=Lib.hid (bel_nx W1.out (Nat.le_refl _) h23)
 have Z2:=Lib.hid (Z1.out.below' h23)
 have S2:=Lib.hid (S1.out.below h23)
 obtain⟨b,hb⟩:∃b,decide (m < pp)=b:=⟨_,rfl⟩
 have LL:=least_any A1 A2 k1 k2 c1 c2 m pp w2 (by have:=K1.out;omega) (by rw[←sl_len h21,dg_pp];decide) (T1.out.below h23) h21
 rw[hb] at LL
 have LL:=Lib.hid LL
 have HB:=Lib.hid hb
 clear h21 h23 hb W1 Z1 S1
 go_wp2_with fail
 (with_reducible refine LL.out.mono ?_)
 rintro e w3 ⟨rfl,hb3⟩
 have W3:=Lib.hid (bel_nx W2.out (Nat.le_refl _) hb3)
 have Z3:=Lib.hid (Z2.out.below' hb3)
 have S3:=Lib.hid (S2.out.below hb3)
 clear hb3 LL W2 Z2 S2
 cases b
 ·have HLT:=Lib.hid (show ¬m < pp from of_decide_eq_false HB.out)
  obtain⟨⟨r0,r1,r2,r3,r4⟩,f0,f1,f2,f3,f4⟩:=cells5 Z3.out
  go_wp2
  refine bodyPost_ret (v:=.tuple #[.agg z5,.int .i64 30]) ?_ rfl ⟨by rw[PD.out,if_neg HLT.out];exact rfl,set5_below W3.out (Nat.le_refl _) _ _ _ _ _⟩
  simp[results,Tryz.results48,go_sem,z5,r0,r1,r2,r3,r4]
 ·have HLT:=Lib.hid (show m < pp from of_decide_eq_true HB.out)
  have N1:=Number_any A 32 c l w3 (by decide) HL.out S3.out
  rw[HM.out] at N1
  have N1:=Lib.hid N1
  go_wp2_with fail
  (with_reducible refine N1.out.mono ?_)
  rintro e w4 ⟨A4,k4,c4,rfl,h41,h42,h43⟩
  have W4:=Lib.hid (bel_nx W3.out (Nat.le_refl _) h43)
  have Z4:=Lib.hid (Z3.out.below' h43)
  have K4:=Lib.hid (show k4≤100 by rw[←sl_len h41];exact Nat.le_trans (len16 HLT.out) (by decide))
  have EE:=RElem_any A4 k4 c4 m w4 K4.out HLT.out h41
  obtain⟨y,hy⟩:∃y,el m=y:=⟨_,rfl⟩
  rw[hy] at EE
  have HY:=Lib.hid hy
  have EE:=Lib.hid (show Calls Tryz.prog 88 #[.slice A4 k4 c4] w4 fun e w'=>e=.returned (.agg #[.int .u64 (y.a:Int),.int .u64 (y.b:Int),.int .u64 (y.c:Int),.int .u64 (y.d:Int),.int .u64 (y.e:Int)])∧Below w4.heap.size w4 w' from EE)
  clear h41 h43 hy N1
  go_wp2_with fail
  (with_reducible refine EE.out.mono ?_)
  rintro e w5 ⟨rfl,hb5⟩
  have W5:=Lib.hid (bel_nx W4.out (Nat.le_refl _) hb5)
  obtain⟨⟨r0,r1,r2,r3,r4⟩,f0,f1,f2,f3,f4⟩:=cells5 (Z4.out.below' hb5)
  clear hb5 EE
  go_wp2
  refine bodyPost_ret (v:=.tuple #[.agg y.v,.int .i64 0]) ?_ rfl ⟨by rw[PD.out,if_pos HLT.out,HY.out];exact rfl,set5_below W5.out (Nat.le_refl _) _ _ _ _ _⟩
  simp[results,Tryz.results48,go_sem,E5.v,r0,r1,r2,r3,r4]
end Go.Proofs.YtjimhjfjfpeojaaGreatDoor.Fd
namespace Go.Proofs.YtjimhjfjfpeojaaGreatDoor.Av
open Go.RowKit Go.Proofs.YtjimhjfjfpeojaaGreatDoor.Gn Go.Proofs.YtjimhjfjfpeojaaGreatDoor.Fd Go.Deep
theorem c_same{a b:Nat}(ha:a < pp)(hb:b < pp)(w:World):FnAt Tryz.prog [] w 52 [num a,num b] (.lit (.bool (decide (a=b)))) :=
 ⟨fun _ _=>by kernel_rfl,fun O vs hO hk hl hr=>by
  obtain⟨u,v,rfl,h1,h2⟩:=two_args hl hr
  obtain⟨A,n,c,rfl,s1,-⟩:=row_sl h1
  obtain⟨B,m,d,rfl,s2,-⟩:=row_sl h2
  exact(RSame_any A B n m c d a b w (s1.1▸Nat.le_trans (dg16 ha) (by decide)) (s2.1▸Nat.le_trans (dg16 hb) (by decide)) s1 s2).mono fun e w' ⟨h3,h4⟩=>⟨_,h3,rfl,h4⟩⟩
theorem c_root{u v:Nat}(hu:u < pp)(hv:v < pp)(w:World):FnAt Tryz.prog [.u64] w 89 [num u,num v] (.tup [num ((rr u v).getD 0),.lit (.bool (rr u v).isSome)]) :=
 ⟨fun _ _=>by kernel_rfl,fun O vs hO hk hl hr=>by
  obtain⟨x,y,rfl,h1,h2⟩:=two_args hl hr
  obtain⟨A,n,c,rfl,s1,-⟩:=row_sl h1
  obtain⟨B,m,d,rfl,s2,-⟩:=row_sl h2
  refine(RRoot_any A B n m c d u v w hu hv s1 s2).mono fun e w' ⟨C,k,q,s,b,h3,h4,h5,h6,h7,h8⟩=>⟨_,h3,?_,h8⟩
  subst h6 h7
  exact⟨_,rfl,rfl,⟨_,rfl,sl_row h4 (fun h=>by cases h) (below_noK hO hk h8) (nl_noK _)⟩,⟨_,rfl,rfl⟩,trivial⟩⟩
theorem c_of(x:E5)(hx:x.ok)(w:World):FnAt Tryz.prog [.u64] w 51 [.lit (.agg x.v)] (num (x.val%pp)) :=
 ⟨fun _ _=>by kernel_rfl,fun O vs hO hk hl hr=>by
  obtain⟨u,rfl,h1⟩:=one_arg hl hr
  cases h1
  exact(Of_any x w hx).mono fun e w' hr=>retN_rep hO hk hr⟩
theorem c_number{r:Bool}{l:List Nat}(h:l.length≤1000)(hl:∀x∈l,x < 256)(w:World):FnAt Tryz.prog [.u64] w 50 [byt r l] (num (le l)) :=
 ⟨fun _ _=>by kernel_rfl,fun O vs hO hk hln hr=>by
  obtain⟨u,rfl,h1⟩:=one_arg hln hr
  obtain⟨A,n,c,rfl,s1,-⟩:=row_sl h1
  exact(Number_any A n c l w (by have:=s1.1;simp[bl] at this;omega) hl s1).mono fun e w' hr=>retN_rep hO hk hr⟩
theorem retY_rep{O:Nat→Prop}{w w':World}{e:Ending}{l:List Nat}(hO:∀b,O b→b < w.heap.size)(hm:l.length≤maxLen)(h:∃g,e=.returned (.slice (some ⟨g,0,none⟩) l.length l.length)∧w.heap.size≤g∧Bl w' g 5 (bl l).toArray∧Below w.heap.size w w'):∃v,e=.returned v∧(byt true l).rep O w' v∧Below w.heap.size w w':=by
 obtain⟨g,h1,h2,h3,h4⟩:=h
 refine⟨_,h1,⟨some ⟨g,0,none⟩,l.length,l.length,rfl,by simp[bl],fun _=>⟨Nat.le_refl _,hm,fun h=>by cases h⟩,reps_iff.2 fun j x hj=>?_⟩,h4⟩
 rw[List.getElem?_map] at hj
 cases hq:(bl l)[j]? with
 |none=>rw[hq] at hj;cases hj
 |some v =>
  rw[hq] at hj;cases hj
  obtain⟨ad,e1,e2⟩:=(bl_sl (l:=l) h3 rfl).2 j v hq
  cases e1
  refine⟨v,⟨_,rfl,fun hb=>?_,by rw[Nat.zero_add];exact e2⟩,rfl⟩
  have:=hO _ hb;simp at this;omega
theorem ownY_rep{w w':World}{e:Ending}{l:List Nat}{O:Nat→Prop}(hm:l.length≤maxLen)(h:∃g,e=.returned (.slice (some ⟨g,0,none⟩) l.length l.length)∧w.heap.size≤g∧Bl w' g 5 (bl l).toArray∧Below w.heap.size w w') :
  ∃v n us,e=.returned v∧Row w' 5 1 v n us false∧us.length=((bl l).map DV.lit).length∧DV.reps (fun b=>O b∨blk v=some b) w' ((bl l).map DV.lit) 0 (fun i u=>us[i]?=some u)∧(∀b,blk v=some b→w.heap.size≤b)∧(∃A n c,v=.slice A n c)∧Below w.heap.size w w':=by
 obtain⟨g,h1,h2,h3,h4⟩:=h
 have hr:=row_bl (l:=bl l) (ni:=false) h3 (by simpa[bl] using hm) (fun h=>by cases h)
 rw[show(bl l).length=l.length by simp[bl]] at hr
 refine⟨_,_,bl l,h1,hr,by simp,reps_iff.2 fun j x hj=>?_,fun b hb=>?_,⟨_,_,_,rfl⟩,h4⟩
 ·rw[List.getElem?_map] at hj
  cases hq:(bl l)[j]? with
  |none=>rw[hq] at hj;cases hj
  |some v=>rw[hq] at hj;cases hj;exact⟨v,by rw[Nat.zero_add];exact hq,rfl⟩
 ·cases hb;exact h2
theorem by_le(n m:Nat)(h:m≤1000):(by_ n m).length≤maxLen:=by
 rw[show(by_ n m).length=m from Fd.by_length n m];unfold maxLen;omega
theorem c_bytes{v m:Nat}(hv:v < pp)(hm:m≤1000)(w:World):OwnAt Tryz.prog [] w 39 [num v,.lit (.int .i64 (m:Int))] 5 1 false ((bl (by_ v m)).map .lit) :=
 ⟨fun _ _=>by kernel_rfl,fun O vs hO hk hl hr=>by
  obtain⟨x,y,rfl,h1,h2⟩:=two_args hl hr
  obtain⟨A,n,c,rfl,s1,-⟩:=row_sl h1
  cases h2
  have:=Bytes_any A n c m (dg v) w (s1.1▸Nat.le_trans (dg16 hv) (by decide)) hm (dg_dg v) s1
  rw[vl_dg] at this
  exact this.mono fun e w' hr=>ownY_rep (by_le v m hm) hr⟩
theorem c_rdec{r:Bool}{l:List Nat}(h32:l.length=32)(hl:∀x∈l,x < 256)(w:World):FnAt Tryz.prog [] w 48 [byt r l] (.tup [.lit (.agg (if le l < pp then(el (le l)).v else z5)),.lit (.int .i64 (if le l < pp then 0 else 30))]) :=
 ⟨fun _ _=>by kernel_rfl,fun O vs hO hk hln hr=>by
  obtain⟨u,rfl,h1⟩:=one_arg hln hr
  obtain⟨A,n,c,rfl,s1,-⟩:=row_sl h1
  obtain rfl:n=32:=by have:=s1.1;simp[bl] at this;omega
  refine(rdecode_any A c l w hl s1).mono fun e w' ⟨h3,h4⟩=>?_
  unfold DecP at h3
  split at h3
  ·rename_i hp
   rw[if_pos hp,if_pos hp]
   exact⟨_,h3,⟨_,rfl,rfl,⟨_,rfl,rfl⟩,⟨_,rfl,rfl⟩,trivial⟩,h4⟩
  ·rename_i hp
   rw[if_neg hp,if_neg hp]
   exact⟨_,h3,⟨_,rfl,rfl,⟨_,rfl,rfl⟩,⟨_,rfl,rfl⟩,trivial⟩,h4⟩⟩
end Go.Proofs.YtjimhjfjfpeojaaGreatDoor.Av
