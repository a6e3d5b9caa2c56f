/- Joined texts. -/
import Derived.Test.YtjimhjfjfpeojaaGreatDoorQbAvP
import Derived.Test.YtjimhjfjfpeojaaGreatDoorQbAvN
import Derived.Test.YtjimhjfjfpeojaaGreatDoorQbPuB
set_option linter.unusedVariables false
namespace Go.Proofs.YtjimhjfjfpeojaaGreatDoor.Av
open Go.RowKit Go.Proofs.YtjimhjfjfpeojaaGreatDoor.Gn Go.Proofs.YtjimhjfjfpeojaaGreatDoor.Fd Go.Proofs.YtjimhjfjfpeojaaGreatDoor.Ed Go.Deep
structure T3 where
 x:Nat
 y:Nat
 z:Nat
def T3.dv(p:T3):DV:=pt p.x p.y p.z
structure T3.ok (p:T3):Prop where
 x:p.x < pp
 y:p.y < pp
 z:p.z < pp
def ad3(p q:T3):T3:=⟨adX p.x p.y p.z q.x q.y q.z dn,adY p.x p.y p.z q.x q.y q.z dn,adZ p.x p.y p.z q.x q.y q.z dn⟩
theorem ad3_ok(p q:T3):(ad3 p q).ok:=⟨lt_mod _,lt_mod _,lt_mod _⟩
def R3(p:T3)(g:G):Prop:=cv.Rep3 ⟨fe p.x,fe p.y,fe p.z⟩ g.x g.y
theorem fe_mod(n:Nat):fe (n%pp)=fe n:=fe_eq.2 (Nat.mod_mod n pp)
theorem fe_less{a b:Nat}(h:b < pp):fe (a+(pp - b))=fe a - fe b:=by
 have e:fe (a+(pp - b))+fe b=fe a:=by
  rw[←fe_add,show a+(pp - b)+b=a+pp by omega]
  exact fe_eq.2 (by unfold cg;simp)
 have q:=Crv.add_assoc_ (fe (a+(pp - b))) (fe b) (-fe b)
 have q2:=Crv.neg_add_ (fe b)
 rw[Crv.add_comm_] at q2
 rw[Crv.sub_eq_,←e,q,q2,Crv.add_zero_]
theorem fe_lessm(a n:Nat):fe (a+(pp - n%pp))=fe a - fe n:=by rw[fe_less (lt_mod n),fe_mod]
theorem R3.add{p q:T3}{g h:G}(hp:R3 p g)(hq:R3 q h):R3 (ad3 p q) (ga g h):=by
 have:=Crv.rep3_add hp hq
 have e:(⟨fe (ad3 p q).x,fe (ad3 p q).y,fe (ad3 p q).z⟩:Pt3 pp)=cv.add3 ⟨fe p.x,fe p.y,fe p.z⟩ ⟨fe q.x,fe q.y,fe q.z⟩:=by
  have hd:cv.d=fe dn:=rfl
  simp only[ad3,adX,adY,adZ,aLo,aHi,aCr,aB,aF,aG,fe_mod,fe_mul,fe_lessm,Crv.add3,hd]
  simp only[fe_add,fe_mul,fe_mod]
 unfold R3
 rw[e]
 exact this
def zero3:T3:=⟨0,1,1⟩
def dg1(l:List Nat)(i:Nat):Bool:=decide (bt l i=1)
def st3(n m:List Nat)(p q both o:T3)(i:Nat):T3:=match dg1 n i,dg1 m i with
 |true,true=>ad3 (ad3 o o) both
 |true,false=>ad3 (ad3 o o) p
 |false,true=>ad3 (ad3 o o) q
 |false,false=>ad3 o o
def go3(n m:List Nat)(p q both:T3):Nat→T3→T3
 |0,o=>o
 |i+1,o=>go3 n m p q both i (st3 n m p q both o i)
def two3(n m:List Nat)(p q:T3):T3:=go3 n m p q (ad3 p q) (8*max n.length m.length) zero3
theorem st3_ok{n m:List Nat}{p q b o:T3}{i:Nat}:(st3 n m p q b o i).ok:=by
 unfold st3;split <;> exact ad3_ok _ _
theorem zero3_ok:zero3.ok:=by
 have:1 < pp:=by rw[pp_eq];decide
 exact⟨by show 0 < pp;omega,this,this⟩
theorem go3_ok{n m:List Nat}{p q b:T3}:∀(k:Nat) {o:T3},o.ok→(go3 n m p q b k o).ok:=by
 intro k
 induction k with
 |zero=>intro o h;exact h
 |succ k ih=>intro o h;exact ih st3_ok
theorem bt_two(l:List Nat)(i:Nat):bt l i=0∨bt l i=1:=by
 have:bt l i < 2:=Nat.mod_lt _ (by decide)
 omega
theorem R3.step{n m:List Nat}(hn:∀x∈n,x < 256)(hm:∀x∈m,x < 256){p q o:T3}{g h:G}(hp:R3 p g)(hq:R3 q h){k:Nat}(ho:R3 o (ga (ti (le n / 2 ^ (k+1)) g) (ti (le m / 2 ^ (k+1)) h))) :
  R3 (st3 n m p q (ad3 p q) o k) (ga (ti (le n / 2 ^ k) g) (ti (le m / 2 ^ k) h)):=by
 rw[ti_both 2 (le n) (le m) k g h,Ed.le_bit n k hn,Ed.le_bit m k hm]
 have h2:R3 (ad3 o o) (ti 2 (ga (ti (le n / 2 ^ (k+1)) g) (ti (le m / 2 ^ (k+1)) h))):=by
  have:=ho.add ho
  rw[ti_succ,ti_one]
  exact this
 unfold st3 dg1
 rcases bt_two n k with e1|e1 <;> rcases bt_two m k with e2|e2 <;> simp only[e1,e2,decide_true,Nat.zero_ne_one,decide_false,ti_zero,ti_one,ga_z]
 ·exact h2
 ·exact h2.add hq
 ·exact h2.add hp
 ·rw[ga_assoc];exact h2.add (hp.add hq)
theorem R3.go{n m:List Nat}(hn:∀x∈n,x < 256)(hm:∀x∈m,x < 256){p q:T3}{g h:G}(hp:R3 p g)(hq:R3 q h):∀(k:Nat) {o:T3},R3 o (ga (ti (le n / 2 ^ k) g) (ti (le m / 2 ^ k) h))→R3 (go3 n m p q (ad3 p q) k o) (ga (ti (le n) g) (ti (le m) h)):=by
 intro k
 induction k with
 |zero=>intro o ho;rw[ti_all,ti_all] at ho;exact ho
 |succ k ih=>intro o ho;exact ih (R3.step hn hm hp hq ho)
theorem R3.zero:R3 zero3 gz:=by
 have:cv.Rep3 ⟨0,1,1⟩ (0:F) 1:=⟨by
  rw[←fe_one,←fe_zero];intro h;have:=fe_eq.1 h;unfold cg at this;rw[pp_eq] at this;exact absurd this (by decide),(Crv.zero_mul_ _).symm,(Crv.mul_one_ _).symm,cv.on_zero⟩
 unfold R3 zero3
 rw[fe_zero,fe_one]
 exact this
theorem le_lt8{l:List Nat}(h:∀x∈l,x < 256){T:Nat}(hT:l.length≤T):le l / 2 ^ (8*T)=0:=by
 have h1:=le_lt l h
 refine Nat.div_eq_of_lt (Nat.lt_of_lt_of_le h1 ?_)
 rw[Nat.pow_mul]
 exact Nat.pow_le_pow_right (by decide) hT
theorem R3.two{n m:List Nat}(hn:∀x∈n,x < 256)(hm:∀x∈m,x < 256){p q:T3}{g h:G}(hp:R3 p g)(hq:R3 q h):R3 (two3 n m p q) (ga (ti (le n) g) (ti (le m) h)):=by
 refine R3.go hn hm hp hq _ ?_
 rw[le_lt8 hn (Nat.le_max_left _ _),le_lt8 hm (Nat.le_max_right _ _),ti_zero,ti_zero,ga_z]
 exact R3.zero
end Go.Proofs.YtjimhjfjfpeojaaGreatDoor.Av
