/- Joined texts. -/
import Derived.Test.YtdbljpeadehjkaaQrWrReadB
set_option linter.unusedVariables false
namespace Go.Proofs.Ytdbljpeadehjkaa.Wr
open Go.RowKit Go.Proofs.Ytdbljpeadehjkaa.Gn Go.Proofs.Ytdbljpeadehjkaa.Fd Go.Deep
theorem rcl_nil:rcl []=(0,0,20):=rfl
theorem rcl_low{x:Nat}{t:List Nat}(h:x < 192):rcl (x :: t)=(x,1,0):=by simp[rcl,noC,szC,h]
theorem rcl_wide{x:Nat}{t:List Nat}(h:199 < x):rcl (x :: t)=(0,0,22):=by simp[rcl,noC,h,show ¬x < 192 by omega]
theorem rcl_one{x:Nat}(h:¬x < 192)(h2:¬199 < x):rcl [x]=(0,0,20):=by
 simp only[rcl,noC,szC,if_neg h,if_neg h2]
 rw[if_neg (by decide),if_pos (by simp;omega)]
theorem rcl_form{x y:Nat}{u:List Nat}(h:¬x < 192)(h2:¬199 < x)(h3:y=0∨(x=192∧y < 192)):rcl (x :: y :: u)=(0,0,22):=by
 simp only[rcl,noC,szC,if_neg h,if_neg h2,decide_eq_true h3,if_true]
theorem rcl_short{x y:Nat}{u:List Nat}(h:¬x < 192)(h2:¬199 < x)(h3:¬(y=0∨(x=192∧y < 192)))(h4:u.length+2≤x - 191):rcl (x :: y :: u)=(0,0,20):=by
 simp only[rcl,noC,szC,if_neg h,if_neg h2,decide_eq_false h3]
 rw[if_neg (by decide),if_pos (by simp;omega)]
theorem rcl_good{x y:Nat}{u:List Nat}(h:¬x < 192)(h2:¬199 < x)(h3:¬(y=0∨(x=192∧y < 192)))(h4:¬u.length+2≤x - 191):rcl (x :: y :: u)=(be ((y :: u).take (x - 191)),x - 190,0):=by
 simp only[rcl,noC,szC,if_neg h,if_neg h2,decide_eq_false h3]
 rw[if_neg (by decide),if_neg (by simp;omega),if_neg (by omega),List.drop_succ_cons,List.drop_zero,show x - 190 - 1=x - 191 by omega]
set_option maxHeartbeats 4000000 in
set_option maxRecDepth 100000 in
theorem RReadCount_any{A:Option Addr}{n c:Nat}{l:List Nat}{w:World}(h:Pc w (A,n,c,l))(p:Int)(hmax:n≤1000000000) :
  Calls Try.prog 12 #[.slice A n c,.int .i64 p] w fun e w'=>e=.returned (rcv l p)∧w=w':=by
 have hn:n=l.length:=h.len
 have hcap:l.length≤c:=h.cap
 by_cases p0:p < 0
 ·rw[rcv_out (Or.inl p0)]
  clear hn hcap h
  go_enter Try.func12,Try.ntmps12
  go_wp2_with fail
  go_ret3
  exact⟨rfl,rfl⟩
 by_cases p1:(n:Int) < p
 ·rw[rcv_out (Or.inr (by omega))]
  clear hn hcap h
  go_enter Try.func12,Try.ntmps12
  go_wp2_with fail
  go_ret3
  exact⟨rfl,rfl⟩
 obtain⟨k,rfl⟩:∃k:Nat,p=(k:Int):=⟨p.toNat,by omega⟩
 have hkn:k≤n:=by omega
 have hnc:n≤c:=by omega
 have P1:=pc_drop h hkn
 have hl:(l.drop k).length=n - k:=by simp;omega
 have RV':∀a b e,rcl (l.drop k)=(a,b,e)→rcv l (k:Int)=.tuple #[.int .u64 (a:Int),.int .i64 ((k:Int)+(b:Int)),.int .i64 (e:Int)]:=fun a b e he=>rcv_in (by omega) he
 obtain⟨r,hr⟩:∃r,l.drop k=r:=⟨_,rfl⟩
 obtain⟨R,hR⟩:∃R,rcv l (k:Int)=R:=⟨_,rfl⟩
 obtain⟨B,hB⟩:∃B,(if c=k then A else A.map (fun x=>x.add k))=B:=⟨_,rfl⟩
 obtain⟨m,hm⟩:∃m,n - k=m:=⟨_,rfl⟩
 obtain⟨d,hd⟩:∃d,c - k=d:=⟨_,rfl⟩
 rw[hr,hB,hm,hd] at P1
 rw[hr,hm] at hl
 rw[hr,hR] at RV'
 rw[hR]
 have RV:=Lib.hid RV'
 have PP:=Lib.hid P1
 clear h hr hR P1 hcap hn RV'
 cases r with
 |nil =>
  rw[RV.out 0 0 20 rcl_nil]
  have m0:(m:Int)=0:=by simp at hl;omega
  clear RV PP hl
  go_enter Try.func12,Try.ntmps12
  go_wp2_with fail
  go_ret3
  exact⟨rfl,rfl⟩
 |cons x t =>
  obtain⟨ad,rfl,h0,k0,x2⟩:=pc_at PP.out (k:=0) (x:=x) rfl
  rw[add_zero] at h0
  have m0:0 < (m:Int):=by omega
  have m00:¬(m:Int)=0:=by omega
  have hB2:Option.map (fun x=>x.add k) A=some ad:=by rw[if_neg (by omega)] at hB;exact hB
  by_cases c1:x < 192
  ·rw[RV.out x 1 0 (rcl_low c1)]
   have q1:(x:Int) < 192:=by omega
   clear RV PP hl c1
   go_enter Try.func12,Try.ntmps12
   go_wp2_with fail
   go_ret3
   exact⟨rfl,rfl⟩
  have q1:¬(x:Int) < 192:=by omega
  have x3:(x:Int) < 256:=by omega
  by_cases c2:199 < x
  ·rw[RV.out 0 0 22 (rcl_wide c2)]
   have q2:8 < (x:Int) - 191:=by omega
   clear RV PP hl c1 c2
   go_enter Try.func12,Try.ntmps12
   go_wp2_with fail
   go_ret3
   exact⟨rfl,rfl⟩
  obtain⟨q,hq⟩:∃q:Nat,x - 191=q:=⟨_,rfl⟩
  have eq1:(x:Int) - 191=(q:Int):=by omega
  have q2:¬8 < (q:Int):=by omega
  cases t with
  |nil =>
   rw[RV.out 0 0 20 (rcl_one c1 c2)]
   have m1:(m:Int)=1:=by simp at hl;omega
   have m2:¬1 < (m:Int):=by omega
   have q3:(1:Int)≤(q:Int):=by omega
   clear RV PP hl c1 c2 hq
   go_enter Try.func12,Try.ntmps12
   go_wp2_with fail
   go_ret3
   exact⟨rfl,rfl⟩
  |cons y u =>
   obtain⟨ad',e,h1,k1,y2⟩:=pc_at PP.out (k:=1) (x:=y) rfl
   obtain rfl:ad=ad':=by injection e
   rw[add_one] at h1
   have n1:¬(m:Int)=1:=by omega
   have nk:1 < (m:Int):=by omega
   by_cases d1:y=0
   ·rw[RV.out 0 0 22 (rcl_form c1 c2 (Or.inl d1))]
    have q3:(y:Int)=0:=by omega
    clear RV PP hl c1 c2 d1 e hq
    go_enter Try.func12,Try.ntmps12
    go_wp2_with fail
    go_ret3
    exact⟨rfl,rfl⟩
   have q3:¬(y:Int)=0:=by omega
   by_cases d2:x=192∧y < 192
   ·rw[RV.out 0 0 22 (rcl_form c1 c2 (Or.inr d2))]
    have q4:(q:Int)=1:=by omega
    have q5:(y:Int) < 192:=by omega
    clear RV PP hl c1 c2 d1 d2 e hq
    go_enter Try.func12,Try.ntmps12
    go_wp2_with fail
    go_ret3
    exact⟨rfl,rfl⟩
   have D:¬(y=0∨(x=192∧y < 192)):=by omega
   by_cases dx:x=192
   ·have q4:(q:Int)=1:=by omega
    have q5:¬(y:Int) < 192:=by omega
    rw[RV.out _ _ _ (rcl_good c1 c2 D (by simp at hl;omega)),show x - 191=1 by omega,show((k:Int)+((x - 190:Nat):Int))=(k:Int)+1+1 by omega,show be ((y :: u).take 1)=y by simp[be]]
    clear RV PP hl c1 c2 d1 d2 e hq D q3 dx
    go_enter Try.func12,Try.ntmps12
    go_wp2_with fail
    clear q4 q5
    go_loopw [9,10] (fun v i wr=>(v=.int .u64 0∧i=.int .i64 1∨v=.int .u64 (y:Int)∧i=.int .i64 2)∧w=wr) (fun _ i _=>2 - (intOf i).toNat)
    case atStart=>exact⟨Or.inl ⟨rfl,rfl⟩,rfl⟩
    case round =>
     obtain⟨⟨rfl,rfl⟩|⟨rfl,rfl⟩,rfl⟩:=hrel
     ·go_wp2
      exact⟨⟨Or.inr ⟨rfl,rfl⟩,trivial⟩,by decide⟩
     ·go_wp2_with fail
      go_ret3
      exact⟨rfl,rfl⟩
   ·have q4:¬(q:Int)=1:=by omega
    by_cases hs:m≤q
    ·rw[RV.out 0 0 20 (rcl_short c1 c2 D (by simp at hl;omega))]
     have q5:(m:Int)≤(q:Int):=by omega
     clear RV PP hl c1 c2 d1 d2 e hq D
     go_enter Try.func12,Try.ntmps12
     go_wp2_with fail
     go_ret3
     exact⟨rfl,rfl⟩
    have z0:¬(m:Int)≤(q:Int):=by omega
    rw[RV.out _ _ _ (rcl_good c1 c2 D (by simp at hl;omega)),show((k:Int)+((x - 190:Nat):Int))=(k:Int)+1+(q:Int) by omega,hq]
    have RX:=Lib.hid (show x - 190=q+1 from by omega)
    obtain⟨t,ht⟩:∃t,y :: u=t:=⟨_,rfl⟩
    have CI:=Lib.hid (show ∀(j z:Nat),t[j]?=some z→w.cell? (ad.add (j+1))=some (.int .u8 (z:Int)) from by
     intro j z hz
     rw[←ht] at hz
     obtain⟨ad',e,hc,-, -⟩:=pc_at PP.out (k:=j+1) (x:=z) hz
     obtain rfl:ad=ad':=by injection e
     exact hc)
    have LT:=Lib.hid (show ∀z∈t,z < 256 from fun z hz=>PP.out.lt z (by rw[←ht] at hz;exact List.mem_cons_of_mem _ hz))
    have HT:=Lib.hid (show q≤t.length from by rw[←ht];simp at hl ⊢;omega)
    have QM:=Lib.hid (show q < m from by omega)
    rw[ht]
    clear RV PP hl c1 c2 d1 d2 e hq D ht
    go_enter Try.func12,Try.ntmps12
    go_wp2_with fail
    go_loopw [9,10] (fun v i wr=>∃j:Nat,j≤q∧v=.int .u64 (be (t.take j):Int)∧i=.int .i64 ((j+1:Nat):Int)∧w=wr) (fun _ i _=>q+1 - (intOf i).toNat)
    case atStart=>exact⟨0,Nat.zero_le _,by simp[be],rfl,rfl⟩
    case round =>
     obtain⟨j,hj,rfl,rfl,rfl⟩:=hrel
     by_cases hlt:j < q
     ·obtain⟨y,hy⟩:∃y,t[j]?=some y:=⟨_,List.getElem?_eq_getElem (by have:=HT.out;omega)⟩
      have c1:=CI.out j y hy
      have c2:w.cell? (ad.add j.succ)=_:=c1
      have y2:y < 256:=LT.out y (List.mem_of_getElem? hy)
      have NX:=Lib.hid (show be (t.take (j+1))=be (t.take j)*256+y from by rw[List.take_add_one,hy];exact be_snoc _ _)
      have BL:=be_lt j (t.take j) (by have:=HT.out;simp;omega) fun x hx=>LT.out x (List.mem_of_mem_take hx)
      have BP:256 ^ j≤256 ^ 7:=Nat.pow_le_pow_right (by decide) (by omega)
      obtain⟨N,hN⟩:∃N,be (t.take j)=N:=⟨_,rfl⟩
      rw[hN] at BL NX ⊢
      have NL:(N:Int) < 72057594037927936:=by have:=Nat.lt_of_lt_of_le BL BP;omega
      obtain⟨i,hi⟩:∃i,j+1=i:=⟨_,rfl⟩
      rw[hi] at c1 NX ⊢
      have i1:(i:Int)≤(q:Int):=by omega
      have i2:(i:Int) < (m:Int):=by have:=QM.out;omega
      have i3:0 < i:=by omega
      have HI:=Lib.hid hi
      clear BL BP hN hy c2 hj hlt hi
      go_wp2
      exact⟨⟨i,by omega,by rw[NX.out];exact congrArg (Value.int IntKind.u64) (by omega),by have:=HI.out;go_num,trivial⟩,by simp[intOf];omega⟩
     ·obtain rfl:j=q:=by omega
      have q1:¬((j+1:Nat):Int)≤(j:Int):=by omega
      go_wp2_with fail
      go_ret3
      exact⟨rfl,rfl⟩
end Go.Proofs.Ytdbljpeadehjkaa.Wr
