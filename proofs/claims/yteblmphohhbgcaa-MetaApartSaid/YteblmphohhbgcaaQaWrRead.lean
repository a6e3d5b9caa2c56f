/- Joined texts. -/
import Derived.Test.YteblmphohhbgcaaQaWrCount
import Derived.OwnWalk
set_option linter.unusedVariables false
namespace Go.Proofs.Yteblmphohhbgcaa.Wr
open Go.RowKit Go.Proofs.Yteblmphohhbgcaa.Gn Go.Proofs.Yteblmphohhbgcaa.Fd Go.Deep
def noC:List Nat→Bool
 | []=>false
 |x :: t=>if x < 192 then false else if 199 < x then true else match t with
  | []=>false
  |y :: _=>decide (y=0∨(x=192∧y < 192))
def szC:List Nat→Nat
 | []=>1
 |x :: _=>if x < 192 then 1 else x - 190
theorem pc_at{A:Option Addr}{n c:Nat}{l:List Nat}{w:World}(h:Pc w (A,n,c,l)){k x:Nat}(hx:l[k]?=some x):∃ad,A=some ad∧w.cell? (ad.add k)=some (.int .u8 (x:Int))∧k < n∧x < 256:=by
 have hk:k < l.length:=by have:=(List.getElem?_eq_some_iff.1 hx).1;exact this
 obtain⟨ad,e,hc⟩:=h.row.at_ hk
 refine⟨ad,e,by rw[hc,bl_get,hx];rfl,by have e:n=l.length:=h.len;omega,h.lt x (List.mem_of_getElem? hx)⟩
theorem add_one(ad:Addr):ad.add 1=⟨ad.block,ad.off+1,none⟩:=by
 unfold Addr.add;split <;> simp_all
theorem add_zero(ad:Addr):ad.add 0=ad:=by
 unfold Addr.add;split <;> simp_all
set_option maxHeartbeats 2000000 in
set_option maxRecDepth 100000 in
theorem noCount_any{A:Option Addr}{n c:Nat}{l:List Nat}{w:World}(h:Pc w (A,n,c,l)) :
  Calls Try.prog 102 #[.slice A n c] w fun e w'=>e=.returned (.bool (noC l))∧w=w':=by
 have hn:n=l.length:=h.len
 cases l with
 |nil =>
  obtain rfl:n=0:=hn
  clear h
  go_enter Try.func102,Try.ntmps102
  go_wp2_with fail
  go_ret
  exact⟨rfl,rfl⟩
 |cons x t =>
  obtain⟨ad,rfl,h0,k0,x2⟩:=pc_at h (k:=0) (x:=x) rfl
  have h0':=h0
  rw[add_zero] at h0'
  have n0:¬(n:Int)=0:=by omega
  have nn:0 < (n:Int):=by omega
  by_cases c1:x < 192
  ·have q1:(x:Int) < 192:=by omega
   have e:noC (x :: t)=false:=by simp[noC,c1]
   rw[e]
   clear hn h k0 x2 c1 e
   go_enter Try.func102,Try.ntmps102
   go_wp2_with fail
   go_ret
   exact⟨rfl,rfl⟩
  have q1:¬(x:Int) < 192:=by omega
  by_cases c2:199 < x
  ·have q2:199 < (x:Int):=by omega
   have e:noC (x :: t)=true:=by simp[noC,c1,c2]
   rw[e]
   clear hn h k0 x2 c1 e
   go_enter Try.func102,Try.ntmps102
   go_wp2_with fail
   go_ret
   exact⟨rfl,rfl⟩
  have q2:¬199 < (x:Int):=by omega
  cases t with
  |nil =>
   have n1:(n:Int)=1:=by have:n=1:=hn;omega
   have e:noC [x]=false:=by simp only[noC,if_neg c1,if_neg c2]
   rw[e]
   clear hn h k0 x2 c1 c2 e
   go_enter Try.func102,Try.ntmps102
   go_wp2_with fail
   go_ret
   exact⟨rfl,rfl⟩
  |cons y u =>
   obtain⟨ad',e,h1,k1,y2⟩:=pc_at h (k:=1) (x:=y) rfl
   obtain rfl:ad=ad':=by injection e
   rw[add_one] at h1
   have n1:¬(n:Int)=1:=by omega
   have nk:1 < (n:Int):=by omega
   have e2:noC (x :: y :: u)=decide (y=0∨(x=192∧y < 192)):=by simp only[noC,if_neg c1,if_neg c2]
   rw[e2]
   clear hn h k0 x2 k1 y2 e e2
   by_cases d1:y=0
   ·have q3:(y:Int)=0:=by omega
    rw[decide_eq_true (Or.inl d1)]
    clear d1
    go_enter Try.func102,Try.ntmps102
    go_wp2_with fail
    go_ret
    exact⟨rfl,rfl⟩
   have q3:¬(y:Int)=0:=by omega
   by_cases d2:x=192
   ·have q4:(x:Int)=192:=by omega
    by_cases d3:y < 192
    ·have q5:(y:Int) < 192:=by omega
     rw[decide_eq_true (Or.inr ⟨d2,d3⟩)]
     clear d1 d2 d3 c1 c2
     go_enter Try.func102,Try.ntmps102
     go_wp2_with fail
     go_ret
     exact⟨rfl,rfl⟩
    ·have q5:¬(y:Int) < 192:=by omega
     rw[decide_eq_false (by omega)]
     clear d1 d2 d3 c1 c2
     go_enter Try.func102,Try.ntmps102
     go_wp2_with fail
     go_ret
     exact⟨ret_bool (beq_eq_false_iff_ne.2 q3),rfl⟩
   ·have q4:¬(x:Int)=192:=by omega
    rw[decide_eq_false (by omega)]
    clear d1 d2 c1 c2
    go_enter Try.func102,Try.ntmps102
    go_wp2_with fail
    go_ret
    exact⟨ret_bool (beq_eq_false_iff_ne.2 q3),rfl⟩
set_option maxHeartbeats 2000000 in
set_option maxRecDepth 100000 in
theorem countSize_any{A:Option Addr}{n c:Nat}{l:List Nat}{w:World}(h:Pc w (A,n,c,l)) :
  Calls Try.prog 103 #[.slice A n c] w fun e w'=>e=.returned (.int .i64 ((szC l:Nat):Int))∧w=w':=by
 have hn:n=l.length:=h.len
 cases l with
 |nil =>
  obtain rfl:n=0:=hn
  clear h
  go_enter Try.func103,Try.ntmps103
  go_wp2_with fail
  go_ret
  exact⟨rfl,rfl⟩
 |cons x t =>
  obtain⟨ad,rfl,h0,k0,x2⟩:=pc_at h (k:=0) (x:=x) rfl
  have h0':=h0
  rw[add_zero] at h0'
  have n0:¬(n:Int)=0:=by omega
  have nn:0 < (n:Int):=by omega
  by_cases c1:x < 192
  ·have q1:(x:Int) < 192:=by omega
   have e:szC (x :: t)=1:=by simp[szC,c1]
   rw[e]
   clear hn h k0 x2 c1 e
   go_enter Try.func103,Try.ntmps103
   go_wp2_with fail
   go_ret
   exact⟨rfl,rfl⟩
  ·have q1:¬(x:Int) < 192:=by omega
   have e:szC (x :: t)=x - 190:=by simp[szC,c1]
   obtain⟨z,hz⟩:∃z,z=x - 190:=⟨_,rfl⟩
   rw[e,←hz]
   have ez:(x:Int) - 192+2=(z:Int):=by omega
   have x3:(x:Int) < 256:=by omega
   clear hn h k0 c1 e hz
   go_enter Try.func103,Try.ntmps103
   go_wp2_with fail
   go_ret
   exact⟨rfl,rfl⟩
end Go.Proofs.Yteblmphohhbgcaa.Wr
namespace Go.Proofs.Yteblmphohhbgcaa.Wr
open Go.RowKit Go.Proofs.Yteblmphohhbgcaa.Gn Go.Proofs.Yteblmphohhbgcaa.Fd Go.Deep
def be(l:List Nat):Nat:=l.foldl (fun n x=>n*256+x) 0
theorem be_snoc(l:List Nat)(x:Nat):be (l ++ [x])=be l*256+x:=by simp[be]
theorem be_lt:∀(m:Nat) (l:List Nat),l.length=m→(∀x∈l,x < 256)→be l < 256 ^ m:=by
 intro m
 induction m with
 |zero=>intro l e _;rw[List.length_eq_zero_iff.1 e];simp[be]
 |succ m ih =>
  intro l e h
  have hne:l≠[]:=by rintro rfl;simp at e
  rw[←List.dropLast_concat_getLast hne] at h ⊢
  have h1:=ih l.dropLast (by simp[e]) fun y hy=>h y (List.mem_append_left _ hy)
  have h2:=h (l.getLast hne) (List.mem_append_right _ (List.mem_singleton.2 rfl))
  rw[be_snoc,Nat.pow_succ]
  omega
def rcl(r:List Nat):Nat × Nat × Nat :=
 if noC r then(0,0,22) else if r.length < szC r then(0,0,20) else if szC r=1 then(r.headD 0,1,0) else(be ((r.drop 1).take (szC r - 1)),szC r,0)
def rcv(l:List Nat)(p:Int):Value :=
 if p < 0∨(l.length:Int) < p then .tuple #[.int .u64 0,.int .i64 0,.int .i64 1]
 else .tuple #[.int .u64 ((rcl (l.drop p.toNat)).1:Nat),.int .i64 (p+((rcl (l.drop p.toNat)).2.1:Nat)),.int .i64 ((rcl (l.drop p.toNat)).2.2:Nat)]
theorem rcv_out{l:List Nat}{p:Int}(h:p < 0∨(l.length:Int) < p):rcv l p=.tuple #[.int .u64 0,.int .i64 0,.int .i64 1]:=if_pos h
theorem rcv_in{l:List Nat}{k:Nat}(h:k≤l.length){a b c:Nat}(e:rcl (l.drop k)=(a,b,c)):rcv l (k:Int)=.tuple #[.int .u64 (a:Int),.int .i64 ((k:Int)+(b:Int)),.int .i64 (c:Int)]:=by
 unfold rcv
 rw[if_neg (by omega),Int.toNat_natCast,e]
theorem add_n(b o j:Nat):(⟨b,o,none⟩:Addr).add j=⟨b,o+j,none⟩:=by
 unfold Addr.add;split <;> simp_all
theorem pc_drop{w:World}{A:Option Addr}{n c:Nat}{l:List Nat}(h:Pc w (A,n,c,l)){k:Nat}(hk:k≤n):Pc w (if c=k then A else A.map (fun x=>x.add k),n - k,c - k,l.drop k):=by
 obtain rfl:n=l.length:=h.len
 have hr:Sl w A l.length (bl l):=h.row
 have hcap:l.length≤c:=h.cap
 have h1:=hr.drop_ k hk hcap
 rw[bl_drop] at h1
 refine⟨by simp,?_,fun x hx=>h.lt x (List.mem_of_mem_drop hx),by simp;omega,fun e=>?_⟩
 ·simpa using h1
 ·have hn:=h.nil
  simp at e hn ⊢
  split at e
  ·omega
  ·have:=hn (by simpa using e);omega
set_option maxHeartbeats 4000000 in
set_option maxRecDepth 100000 in
theorem ReadCount_any{A:Option Addr}{n c:Nat}{l:List Nat}{w:World}(h:Pc w (A,n,c,l))(p:Int)(hmax:n≤1000000000) :
  Calls Try.prog 100 #[.slice A n c,.int .i64 p] w fun e w'=>e=.returned (rcv l p)∧w=w':=by
 have hn:n=l.length:=h.len
 have hcap:l.length≤c:=h.cap
 by_cases p0:p < 0
 ·rw[rcv_out (Or.inl p0)]
  clear hn hcap h
  go_enter Try.func100,Try.ntmps100
  go_wp2_with fail
  go_ret3
  exact⟨rfl,rfl⟩
 by_cases p1:(n:Int) < p
 ·rw[rcv_out (Or.inr (by omega))]
  clear hn hcap h
  go_enter Try.func100,Try.ntmps100
  go_wp2_with fail
  go_ret3
  exact⟨rfl,rfl⟩
 obtain⟨k,rfl⟩:∃k:Nat,p=(k:Int):=⟨p.toNat,by omega⟩
 have hkn:k≤n:=by omega
 have hnc:n≤c:=by omega
 have P1:=pc_drop h hkn
 have CN:=noCount_any P1
 have CS:=countSize_any P1
 have hl:(l.drop k).length=n - k:=by simp;omega
 have RV:∀a b e,rcl (l.drop k)=(a,b,e)→rcv l (k:Int)=.tuple #[.int .u64 (a:Int),.int .i64 ((k:Int)+(b:Int)),.int .i64 (e:Int)]:=fun a b e he=>rcv_in (by omega) he
 obtain⟨r,hr⟩:∃r,l.drop k=r:=⟨_,rfl⟩
 obtain⟨R,hR⟩:∃R,rcv l (k:Int)=R:=⟨_,rfl⟩
 obtain⟨B,hB⟩:∃B,(if c=k then A else A.map (fun x=>x.add k))=B:=⟨_,rfl⟩
 obtain⟨m,hm⟩:∃m,n - k=m:=⟨_,rfl⟩
 obtain⟨d,hd⟩:∃d,c - k=d:=⟨_,rfl⟩
 rw[hr,hB,hm,hd] at P1
 rw[hr,hB,hm,hd] at CN CS
 rw[hr,hm] at hl
 rw[hr,hR] at RV
 rw[hR]
 obtain⟨z,hz⟩:∃z,szC r=z:=⟨_,rfl⟩
 rw[hz] at CS
 have CN':=CN
 have CS':=CS
 have RV':=RV
 clear CN CS RV
 have CN:=Lib.hid CN'
 have CS:=Lib.hid CS'
 have RV:=Lib.hid RV'
 clear CN' CS' RV'
 have PP:=Lib.hid P1
 have HZ:=Lib.hid hz
 clear h hr hR P1 hcap hn hz
 cases hno:noC r with
 |true =>
  have e:=RV.out 0 0 22 (by unfold rcl;rw[if_pos hno])
  rw[e]
  rw[hno] at CN
  clear RV PP
  go_enter Try.func100,Try.ntmps100
  go_wp2_with (go_at_call 102;(with_reducible refine CN.out.mono ?_);rintro e w' ⟨rfl,rfl⟩)
  go_ret3
  exact⟨rfl,rfl⟩
 |false =>
  rw[hno] at CN
  by_cases hs:m < z
  ·have e:=RV.out 0 0 20 (by unfold rcl;rw[if_neg (by rw[hno];decide),if_pos (by rw[hl,HZ.out];exact hs)])
   rw[e]
   have hs':(m:Int) < (z:Int):=by omega
   clear RV PP hno hl HZ e hs
   go_enter Try.func100,Try.ntmps100
   go_wp2_with (first|(go_at_call 102;(with_reducible refine CN.out.mono ?_);rintro e w' ⟨rfl,rfl⟩)|(go_at_call 103;(with_reducible refine CS.out.mono ?_);rintro e w' ⟨rfl,rfl⟩))
   go_ret3
   exact⟨rfl,rfl⟩
  have hs':¬(m:Int) < (z:Int):=by omega
  have z1:1≤z:=by rw[←HZ.out];unfold szC;split <;> (try split) <;> omega
  obtain⟨x,t,rfl⟩:∃x t,r=x :: t:=by
   cases r with
   |nil=>simp at hl;omega
   |cons x t=>exact⟨x,t,rfl⟩
  obtain⟨ad,rfl,h0,k0,x2⟩:=pc_at PP.out (k:=0) (x:=x) rfl
  rw[add_zero] at h0
  have m0:0 < (m:Int):=by omega
  have hB2:Option.map (fun x=>x.add k) A=some ad:=by rw[if_neg (by omega)] at hB;exact hB
  by_cases hz1:z=1
  ·have e:=RV.out x 1 0 (by unfold rcl;rw[if_neg (by rw[hno];decide),if_neg (by rw[hl,HZ.out];omega),if_pos (by rw[HZ.out];exact hz1)];rfl)
   rw[e]
   have hz':(z:Int)=1:=by omega
   clear RV PP hno hl HZ e hs z1 hz1
   go_enter Try.func100,Try.ntmps100
   go_wp2_with (first|(go_at_call 102;(with_reducible refine CN.out.mono ?_);rintro e w' ⟨rfl,rfl⟩)|(go_at_call 103;(with_reducible refine CS.out.mono ?_);rintro e w' ⟨rfl,rfl⟩))
   go_ret3
   exact⟨rfl,rfl⟩
  have hz':¬(z:Int)=1:=by omega
  have md:m≤d:=by have:=PP.out.cap;have e:m=(x :: t).length:=PP.out.len;have e2:(x :: t).length≤d:=this;omega
  have d1:¬d=1:=by omega
  have z2:(1:Int)≤(z:Int):=by omega
  have zd:(z:Int)≤(d:Int):=by omega
  have e:=RV.out _ _ _ (show rcl (x :: t)=(be (t.take (z - 1)),z,0) by unfold rcl;rw[if_neg (by rw[hno];decide),if_neg (by rw[hl,HZ.out];omega),if_neg (by rw[HZ.out];exact hz1),HZ.out];rfl)
  rw[e]
  have z8:z≤9:=by
   have h1:(if x < 192 then 1 else x - 190)=z:=HZ.out
   have h2:=hno
   simp only[noC] at h2
   by_cases c1:x < 192
   ·rw[if_pos c1] at h1;omega
   ·rw[if_neg c1] at h1 h2
    by_cases c2:199 < x
    ·rw[if_pos c2] at h2;cases h2
    ·omega
  obtain⟨q,hq⟩:∃q,z - 1=q:=⟨_,rfl⟩
  have SD:=PP.out.row.drop_ (c:=d) 1 (by simp) (by have:=PP.out.cap;exact this)
  rw[if_neg d1] at SD
  have LT:=Lib.hid (show ∀y∈t,y < 256 from fun y hy=>PP.out.lt y (List.mem_cons_of_mem _ hy))
  have HT:=Lib.hid (show q≤t.length from by simp at hl;omega)
  have CI:=Lib.hid (show ∀(j y:Nat),t[j]?=some y→w.cell? ⟨ad.block,ad.off+1+j,none⟩=some (.int .u8 (y:Int)) from by
   intro j y hy
   obtain⟨ad',e,hc⟩:=SD.2 j (.int .u8 (y:Int)) (by simp[bl,hy])
   simp only[Option.map_some,Option.some.injEq,add_one] at e
   rw[←e,add_n] at hc;exact hc)
  rw[hq]
  have HQ:=Lib.hid (show z=q+1 from by omega)
  clear RV e SD
  go_enter Try.func100,Try.ntmps100
  go_wp2_with (first|(go_at_call 102;(with_reducible refine CN.out.mono ?_);rintro e w' ⟨rfl,rfl⟩)|(go_at_call 103;(with_reducible refine CS.out.mono ?_);rintro e w' ⟨rfl,rfl⟩))
  go_loopw [45,9] (fun i v wr=>∃j:Nat,j≤q∧i=.int .i64 (j:Int)∧v=.int .u64 (be (t.take j):Int)∧w=wr) (fun i _ _=>q - (intOf i).toNat)
  case atStart=>exact⟨0,Nat.zero_le _,rfl,by simp[be],rfl⟩
  case round =>
   obtain⟨j,hj,rfl,rfl,rfl⟩:=hrel
   by_cases hlt:j < q
   ·obtain⟨y,hy⟩:∃y,t[j]?=some y:=⟨_,List.getElem?_eq_getElem (by have:=HT.out;omega)⟩
    have c1:=CI.out j y hy
    have q1:(j:Int) < (q:Int):=by omega
    have y2:y < 256:=LT.out y (List.mem_of_getElem? hy)
    have NX:=Lib.hid (show be (t.take (j+1))=be (t.take j)*256+y from by rw[List.take_add_one,hy];exact be_snoc _ _)
    have BL:=be_lt j (t.take j) (by have:=HT.out;simp;omega) fun x hx=>LT.out x (List.mem_of_mem_take hx)
    have BP:256 ^ j≤256 ^ 7:=Nat.pow_le_pow_right (by decide) (by omega)
    obtain⟨N,hN⟩:∃N,be (t.take j)=N:=⟨_,rfl⟩
    rw[hN] at BL NX ⊢
    have NL:N < 72057594037927936:=Nat.lt_of_lt_of_le BL BP
    clear BL BP hN hy
    have eo:bits .or .u64 ((N:Int)*256) (y:Int)=((N*256+y:Nat):Int):=by
     rw[show(N:Int)*256=((N*256:Nat):Int) by omega,bits_or_u64_nat _ _ (by omega) (by omega),show(256:Nat)=2 ^ 8 from rfl,or_add _ _ _ y2]
    go_wp2
    exact⟨⟨j+1,by omega,by go_num,by rw[NX.out];exact congrArg (Value.int IntKind.u64) (by omega),trivial⟩,by simp[intOf];omega⟩
   ·obtain rfl:j=q:=by omega
    have q1:¬(j:Int) < (j:Int):=by omega
    go_wp2_with fail
    go_ret3
    exact⟨rfl,rfl⟩
end Go.Proofs.Yteblmphohhbgcaa.Wr
