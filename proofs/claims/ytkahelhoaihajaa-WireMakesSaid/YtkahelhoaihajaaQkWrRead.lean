/- Joined texts. -/
import Derived.Test.YtkahelhoaihajaaQkWrCount
set_option linter.unusedVariables false
namespace Go.Proofs.Ytkahelhoaihajaa.Wr
open Go.RowKit Go.Proofs.Ytkahelhoaihajaa.Gn Go.Proofs.Ytkahelhoaihajaa.Fd Go.Deep
def noC:List Nat→Bool
 | []=>false
 |x :: t=>if x < 192 then false else if 199 < x then true else match t with
  | []=>false
  |y :: _=>decide (y=0∨(x=192∧y < 192))
def szC:List Nat→Nat
 | []=>1
 |x :: _=>if x < 192 then 1 else x - 190
theorem pc_at{A:Option Addr}{n c:Nat}{l:List Nat}{w:World}(h:Pc w (A,n,c,l)){k x:Nat}(hx:l[k]?=some x):∃ad,A=some ad∧w.cell? (ad.add k)=some (.int .u8 (x:Int))∧k < n∧x < 256:=by
 have hk:k < l.length:=by have:=(List.getElem?_eq_some_iff.1 hx).1;exact this
 obtain⟨ad,e,hc⟩:=h.row.at_ hk
 refine⟨ad,e,by rw[hc,bl_get,hx];rfl,by have e:n=l.length:=h.len;omega,h.lt x (List.mem_of_getElem? hx)⟩
theorem add_one(ad:Addr):ad.add 1=⟨ad.block,ad.off+1,none⟩:=by
 unfold Addr.add;split <;> simp_all
theorem add_zero(ad:Addr):ad.add 0=ad:=by
 unfold Addr.add;split <;> simp_all
set_option maxHeartbeats 2000000 in
set_option maxRecDepth 100000 in
theorem noCount_any{A:Option Addr}{n c:Nat}{l:List Nat}{w:World}(h:Pc w (A,n,c,l)) :
  Calls Try.prog 97 #[.slice A n c] w fun e w'=>e=.returned (.bool (noC l))∧w=w':=by
 have hn:n=l.length:=h.len
 cases l with
 |nil =>
  obtain rfl:n=0:=hn
  clear h
  go_enter Try.func97,Try.ntmps97
  go_wp2_with fail
  go_ret
  exact⟨rfl,rfl⟩
 |cons x t =>
  obtain⟨ad,rfl,h0,k0,x2⟩:=pc_at h (k:=0) (x:=x) rfl
  have h0':=h0
  rw[add_zero] at h0'
  have n0:¬(n:Int)=0:=by omega
  have nn:0 < (n:Int):=by omega
  by_cases c1:x < 192
  ·have q1:(x:Int) < 192:=by omega
   have e:noC (x :: t)=false:=by simp[noC,c1]
   rw[e]
   clear hn h k0 x2 c1 e
   go_enter Try.func97,Try.ntmps97
   go_wp2_with fail
   go_ret
   exact⟨rfl,rfl⟩
  have q1:¬(x:Int) < 192:=by omega
  by_cases c2:199 < x
  ·have q2:199 < (x:Int):=by omega
   have e:noC (x :: t)=true:=by simp[noC,c1,c2]
   rw[e]
   clear hn h k0 x2 c1 e
   go_enter Try.func97,Try.ntmps97
   go_wp2_with fail
   go_ret
   exact⟨rfl,rfl⟩
  have q2:¬199 < (x:Int):=by omega
  cases t with
  |nil =>
   have n1:(n:Int)=1:=by have:n=1:=hn;omega
   have e:noC [x]=false:=by simp only[noC,if_neg c1,if_neg c2]
   rw[e]
   clear hn h k0 x2 c1 c2 e
   go_enter Try.func97,Try.ntmps97
   go_wp2_with fail
   go_ret
   exact⟨rfl,rfl⟩
  |cons y u =>
   obtain⟨ad',e,h1,k1,y2⟩:=pc_at h (k:=1) (x:=y) rfl
   obtain rfl:ad=ad':=by injection e
   rw[add_one] at h1
   have n1:¬(n:Int)=1:=by omega
   have nk:1 < (n:Int):=by omega
   have e2:noC (x :: y :: u)=decide (y=0∨(x=192∧y < 192)):=by simp only[noC,if_neg c1,if_neg c2]
   rw[e2]
   clear hn h k0 x2 k1 y2 e e2
   by_cases d1:y=0
   ·have q3:(y:Int)=0:=by omega
    rw[decide_eq_true (Or.inl d1)]
    clear d1
    go_enter Try.func97,Try.ntmps97
    go_wp2_with fail
    go_ret
    exact⟨rfl,rfl⟩
   have q3:¬(y:Int)=0:=by omega
   by_cases d2:x=192
   ·have q4:(x:Int)=192:=by omega
    by_cases d3:y < 192
    ·have q5:(y:Int) < 192:=by omega
     rw[decide_eq_true (Or.inr ⟨d2,d3⟩)]
     clear d1 d2 d3 c1 c2
     go_enter Try.func97,Try.ntmps97
     go_wp2_with fail
     go_ret
     exact⟨rfl,rfl⟩
    ·have q5:¬(y:Int) < 192:=by omega
     rw[decide_eq_false (by omega)]
     clear d1 d2 d3 c1 c2
     go_enter Try.func97,Try.ntmps97
     go_wp2_with fail
     go_ret
     exact⟨ret_bool (beq_eq_false_iff_ne.2 q3),rfl⟩
   ·have q4:¬(x:Int)=192:=by omega
    rw[decide_eq_false (by omega)]
    clear d1 d2 c1 c2
    go_enter Try.func97,Try.ntmps97
    go_wp2_with fail
    go_ret
    exact⟨ret_bool (beq_eq_false_iff_ne.2 q3),rfl⟩
set_option maxHeartbeats 2000000 in
set_option maxRecDepth 100000 in
theorem countSize_any{A:Option Addr}{n c:Nat}{l:List Nat}{w:World}(h:Pc w (A,n,c,l)) :
  Calls Try.prog 98 #[.slice A n c] w fun e w'=>e=.returned (.int .i64 ((szC l:Nat):Int))∧w=w':=by
 have hn:n=l.length:=h.len
 cases l with
 |nil =>
  obtain rfl:n=0:=hn
  clear h
  go_enter Try.func98,Try.ntmps98
  go_wp2_with fail
  go_ret
  exact⟨rfl,rfl⟩
 |cons x t =>
  obtain⟨ad,rfl,h0,k0,x2⟩:=pc_at h (k:=0) (x:=x) rfl
  have h0':=h0
  rw[add_zero] at h0'
  have n0:¬(n:Int)=0:=by omega
  have nn:0 < (n:Int):=by omega
  by_cases c1:x < 192
  ·have q1:(x:Int) < 192:=by omega
   have e:szC (x :: t)=1:=by simp[szC,c1]
   rw[e]
   clear hn h k0 x2 c1 e
   go_enter Try.func98,Try.ntmps98
   go_wp2_with fail
   go_ret
   exact⟨rfl,rfl⟩
  ·have q1:¬(x:Int) < 192:=by omega
   have e:szC (x :: t)=x - 190:=by simp[szC,c1]
   obtain⟨z,hz⟩:∃z,z=x - 190:=⟨_,rfl⟩
   rw[e,←hz]
   have ez:(x:Int) - 192+2=(z:Int):=by omega
   have x3:(x:Int) < 256:=by omega
   clear hn h k0 c1 e hz
   go_enter Try.func98,Try.ntmps98
   go_wp2_with fail
   go_ret
   exact⟨rfl,rfl⟩
end Go.Proofs.Ytkahelhoaihajaa.Wr
