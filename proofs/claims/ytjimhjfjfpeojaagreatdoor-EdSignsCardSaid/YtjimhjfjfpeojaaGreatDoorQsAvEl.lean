/- Joined texts. -/
import Derived.Test.YtjimhjfjfpeojaaGreatDoorQsFaE
import Derived.Test.YtjimhjfjfpeojaaGreatDoorQsAvP
import Derived.Test.YtjimhjfjfpeojaaGreatDoorQsEdA
import Derived.Test.YtjimhjfjfpeojaaGreatDoorQsAvN
import Derived.Test.YtjimhjfjfpeojaaGreatDoorQsPuB
import Derived.Test.YtjimhjfjfpeojaaGreatDoorQsEdL
import Derived.Test.YtjimhjfjfpeojaaGreatDoorQsEdC
import Derived.Test.YtjimhjfjfpeojaaGreatDoorQsEdN
set_option linter.unusedVariables false
namespace Go.Proofs.YtjimhjfjfpeojaaGreatDoor.Av
open Go.RowKit Go.Proofs.YtjimhjfjfpeojaaGreatDoor.Gn Go.Proofs.YtjimhjfjfpeojaaGreatDoor.Fd Go.Proofs.YtjimhjfjfpeojaaGreatDoor.Ed Go.Deep
theorem no_args{vs:List Value}(hl:vs.length=0):vs=[]:=List.length_eq_zero_iff.1 hl
section
variable {Γ:Ctx} {σ:St} {o:Oper}
end
section
variable {P:Program} {f:FuncId} {w:World} {r:Value}
end
def les:List DV→List DV→Prop
 | [],[]=>True
 |a :: l,b :: k=>DV.le a b∧les l k
 |_,_=>False
theorem les_at:∀ {l k:List DV},les l k→l.length=k.length∧∀(j:Nat) (x y:DV),l[j]?=some x→k[j]?=some y→DV.le x y:=by
 intro l
 induction l with
 |nil =>
  intro k h
  cases k with
  |nil=>exact⟨rfl,fun j x y hx=>by simp at hx⟩
  |cons b k=>exact h.elim
 |cons a l ih =>
  intro k h
  cases k with
  |nil=>exact h.elim
  |cons b k =>
   obtain⟨h1,h2⟩:=h
   obtain⟨h3,h4⟩:=ih h2
   refine⟨by simp[h3],fun j x y hx hy=>?_⟩
   cases j with
   |zero=>simp at hx hy;subst hx hy;exact h1
   |succ j=>exact h4 j x y (by simpa using hx) (by simpa using hy)
theorem FnAt.les{P:Program}{ks:List IntKind}{w:World}{f:FuncId}{xs ys:List DV}{r:DV}(h:FnAt P ks w f xs r)(hl:Av.les ys xs):FnAt P ks w f ys r:=h.le (les_at hl).1 (les_at hl).2
theorem FnAt.to{P:Program}{ks:List IntKind}{w:World}{f:FuncId}{xs:List DV}{r r':DV}(h:FnAt P ks w f xs r)(hl:DV.le r r'):FnAt P ks w f xs r' :=
 ⟨h.1,fun O vs hO hk hv hr=>(h.2 O vs hO hk hv hr).mono fun e w' ⟨v,h1,h2,h3⟩=>⟨v,h1,hl _ _ _ h2,h3⟩⟩
end Go.Proofs.YtjimhjfjfpeojaaGreatDoor.Av
namespace Go.Proofs.YtjimhjfjfpeojaaGreatDoor.Av
open Go.RowKit Go.Proofs.YtjimhjfjfpeojaaGreatDoor.Gn Go.Proofs.YtjimhjfjfpeojaaGreatDoor.Fd Go.Proofs.YtjimhjfjfpeojaaGreatDoor.Ed Go.Deep
structure T3 where
 x:Nat
 y:Nat
 z:Nat
def T3.dv(p:T3):DV:=pt p.x p.y p.z
structure T3.ok (p:T3):Prop where
 x:p.x < pp
 y:p.y < pp
 z:p.z < pp
def ad3(p q:T3):T3:=⟨adX p.x p.y p.z q.x q.y q.z dn,adY p.x p.y p.z q.x q.y q.z dn,adZ p.x p.y p.z q.x q.y q.z dn⟩
theorem ad3_ok(p q:T3):(ad3 p q).ok:=⟨lt_mod _,lt_mod _,lt_mod _⟩
def R3(p:T3)(g:G):Prop:=cv.Rep3 ⟨fe p.x,fe p.y,fe p.z⟩ g.x g.y
theorem fe_mod(n:Nat):fe (n%pp)=fe n:=fe_eq.2 (Nat.mod_mod n pp)
theorem fe_less{a b:Nat}(h:b < pp):fe (a+(pp - b))=fe a - fe b:=by
 have e:fe (a+(pp - b))+fe b=fe a:=by
  rw[←fe_add,show a+(pp - b)+b=a+pp by omega]
  exact fe_eq.2 (by unfold cg;simp)
 have q:=Crv.add_assoc_ (fe (a+(pp - b))) (fe b) (-fe b)
 have q2:=Crv.neg_add_ (fe b)
 rw[Crv.add_comm_] at q2
 rw[Crv.sub_eq_,←e,q,q2,Crv.add_zero_]
theorem fe_lessm(a n:Nat):fe (a+(pp - n%pp))=fe a - fe n:=by rw[fe_less (lt_mod n),fe_mod]
theorem R3.add{p q:T3}{g h:G}(hp:R3 p g)(hq:R3 q h):R3 (ad3 p q) (ga g h):=by
 have:=Crv.rep3_add hp hq
 have e:(⟨fe (ad3 p q).x,fe (ad3 p q).y,fe (ad3 p q).z⟩:Pt3 pp)=cv.add3 ⟨fe p.x,fe p.y,fe p.z⟩ ⟨fe q.x,fe q.y,fe q.z⟩:=by
  have hd:cv.d=fe dn:=rfl
  simp only[ad3,adX,adY,adZ,aLo,aHi,aCr,aB,aF,aG,fe_mod,fe_mul,fe_lessm,Crv.add3,hd]
  simp only[fe_add,fe_mul,fe_mod]
 unfold R3
 rw[e]
 exact this
def zero3:T3:=⟨0,1,1⟩
def dg1(l:List Nat)(i:Nat):Bool:=decide (bt l i=1)
def st3(n m:List Nat)(p q both o:T3)(i:Nat):T3:=match dg1 n i,dg1 m i with
 |true,true=>ad3 (ad3 o o) both
 |true,false=>ad3 (ad3 o o) p
 |false,true=>ad3 (ad3 o o) q
 |false,false=>ad3 o o
def go3(n m:List Nat)(p q both:T3):Nat→T3→T3
 |0,o=>o
 |i+1,o=>go3 n m p q both i (st3 n m p q both o i)
def two3(n m:List Nat)(p q:T3):T3:=go3 n m p q (ad3 p q) (8*max n.length m.length) zero3
theorem st3_ok{n m:List Nat}{p q b o:T3}{i:Nat}:(st3 n m p q b o i).ok:=by
 unfold st3;split <;> exact ad3_ok _ _
theorem zero3_ok:zero3.ok:=by
 have:1 < pp:=by rw[pp_eq];decide
 exact⟨by show 0 < pp;omega,this,this⟩
theorem go3_ok{n m:List Nat}{p q b:T3}:∀(k:Nat) {o:T3},o.ok→(go3 n m p q b k o).ok:=by
 intro k
 induction k with
 |zero=>intro o h;exact h
 |succ k ih=>intro o h;exact ih st3_ok
theorem bt_two(l:List Nat)(i:Nat):bt l i=0∨bt l i=1:=by
 have:bt l i < 2:=Nat.mod_lt _ (by decide)
 omega
theorem R3.step{n m:List Nat}(hn:∀x∈n,x < 256)(hm:∀x∈m,x < 256){p q o:T3}{g h:G}(hp:R3 p g)(hq:R3 q h){k:Nat}(ho:R3 o (ga (ti (le n / 2 ^ (k+1)) g) (ti (le m / 2 ^ (k+1)) h))) :
  R3 (st3 n m p q (ad3 p q) o k) (ga (ti (le n / 2 ^ k) g) (ti (le m / 2 ^ k) h)):=by
 rw[ti_both 2 (le n) (le m) k g h,Ed.le_bit n k hn,Ed.le_bit m k hm]
 have h2:R3 (ad3 o o) (ti 2 (ga (ti (le n / 2 ^ (k+1)) g) (ti (le m / 2 ^ (k+1)) h))):=by
  have:=ho.add ho
  rw[ti_succ,ti_one]
  exact this
 unfold st3 dg1
 rcases bt_two n k with e1|e1 <;> rcases bt_two m k with e2|e2 <;> simp only[e1,e2,decide_true,Nat.zero_ne_one,decide_false,ti_zero,ti_one,ga_z]
 ·exact h2
 ·exact h2.add hq
 ·exact h2.add hp
 ·rw[ga_assoc];exact h2.add (hp.add hq)
theorem R3.go{n m:List Nat}(hn:∀x∈n,x < 256)(hm:∀x∈m,x < 256){p q:T3}{g h:G}(hp:R3 p g)(hq:R3 q h):∀(k:Nat) {o:T3},R3 o (ga (ti (le n / 2 ^ k) g) (ti (le m / 2 ^ k) h))→R3 (go3 n m p q (ad3 p q) k o) (ga (ti (le n) g) (ti (le m) h)):=by
 intro k
 induction k with
 |zero=>intro o ho;rw[ti_all,ti_all] at ho;exact ho
 |succ k ih=>intro o ho;exact ih (R3.step hn hm hp hq ho)
theorem R3.zero:R3 zero3 gz:=by
 have:cv.Rep3 ⟨0,1,1⟩ (0:F) 1:=⟨by
  rw[←fe_one,←fe_zero];intro h;have:=fe_eq.1 h;unfold cg at this;rw[pp_eq] at this;exact absurd this (by decide),(Crv.zero_mul_ _).symm,(Crv.mul_one_ _).symm,cv.on_zero⟩
 unfold R3 zero3
 rw[fe_zero,fe_one]
 exact this
theorem le_lt8{l:List Nat}(h:∀x∈l,x < 256){T:Nat}(hT:l.length≤T):le l / 2 ^ (8*T)=0:=by
 have h1:=le_lt l h
 refine Nat.div_eq_of_lt (Nat.lt_of_lt_of_le h1 ?_)
 rw[Nat.pow_mul]
 exact Nat.pow_le_pow_right (by decide) hT
theorem R3.two{n m:List Nat}(hn:∀x∈n,x < 256)(hm:∀x∈m,x < 256){p q:T3}{g h:G}(hp:R3 p g)(hq:R3 q h):R3 (two3 n m p q) (ga (ti (le n) g) (ti (le m) h)):=by
 refine R3.go hn hm hp hq _ ?_
 rw[le_lt8 hn (Nat.le_max_left _ _),le_lt8 hm (Nat.le_max_right _ _),ti_zero,ti_zero,ga_z]
 exact R3.zero
end Go.Proofs.YtjimhjfjfpeojaaGreatDoor.Av
namespace Go.Proofs.YtjimhjfjfpeojaaGreatDoor.Av
open Go.RowKit Go.Proofs.YtjimhjfjfpeojaaGreatDoor.Gn Go.Proofs.YtjimhjfjfpeojaaGreatDoor.Fd Go.Proofs.YtjimhjfjfpeojaaGreatDoor.Ed Go.Deep
theorem dn_lt:dn < pp:=by rw[pp_eq];decide
theorem le_one:DV.le (.sq true 1 [.lit (.int .u64 1)]) (num 1):=num_one▸le_room _
theorem le_dg{n:Nat}{l:List Nat}(h:dg n=l):DV.le (.sq true 1 ((nl l).map .lit)) (num n):=by subst h;exact le_room _
theorem le_eq{x y:DV}(h:x=y):DV.le x y:=h▸le_refl _
theorem bool_le{a b:Bool}(h:a=b):DV.le (.lit (.bool a)) (.lit (.bool b)):=h▸le_refl _
theorem num_len(n:Nat):((nl (dg n)).map DV.lit).length=(dg n).length:=by simp[nl]
theorem same_iff{a b:Nat}:a%pp=b%pp↔fe a=fe b:=fe_eq.symm
theorem same_lt{a b:Nat}(ha:a < pp)(hb:b < pp):a=b↔fe a=fe b:=by
 rw[←same_iff,Nat.mod_eq_of_lt ha,Nat.mod_eq_of_lt hb]
set_option maxRecDepth 100000 in
theorem c_D(w:World):FnAt Tryz.prog [.u64] w 23 [] (num dn):=by
 refine FnAt.of Tryz.f23 _ _ Tryz.func23 Tryz.ntmps23 rfl (by kernel_rfl) (fun _ _=>by kernel_rfl) fun O=>?_
 show PW _ _ _ ⟨[],[]⟩
 refine(PW.seq ?_:PW _ _ _ _)
 refine(PW.region ?_:PW _ _ _ _)
 refine PL.mu rfl rfl rfl rfl rfl ?_
 refine PL.nil ?_
 refine(PW.seq ?_:PW _ _ _ _)
 refine(PW.region ?_:PW _ _ _ _)
 refine PL.step rfl rfl rfl (PS.buildSlice (parts:=[(0,_),(1,_),(2,_),(3,_),(4,_),(5,_),(6,_),(7,_),(8,_),(9,_),(10,_),(11,_),(12,_),(13,_),(14,_),(15,_)]) (xs:=[_,_,_,_,_,_,_,_,_,_,_,_,_,_,_,_]) (z:=(.int .u64 0)) (bytes:=8) rfl rfl rfl Tryz.underlying32 (by kernel_rfl) rfl (by kernel_rfl) (by kernel_rfl)) ?_
 refine PL.mu rfl rfl rfl rfl rfl ?_
 refine PL.nil ?_
 refine(PW.ret ?_:PW _ _ _ _)
 exact Rt.as (Rt.one Tryz.results23 rfl) (le_dg (l:=[30883,4953,19914,30187,55467,16705,2637,112,59544,30585,16505,36039,65139,11119,27886,20995]) (by decide +kernel))
end Go.Proofs.YtjimhjfjfpeojaaGreatDoor.Av
namespace Go.Proofs.YtjimhjfjfpeojaaGreatDoor.Av
open Go.RowKit Go.Proofs.YtjimhjfjfpeojaaGreatDoor.Gn Go.Proofs.YtjimhjfjfpeojaaGreatDoor.Fd Go.Proofs.YtjimhjfjfpeojaaGreatDoor.Ed Go.Deep
theorem by_31{n:Nat}(h:n < 57896044618658097711785492504343953926634992332820282019728792003956564819968):(by_ n 32).getD 31 0 < 128:=by
 have h1:=by_length n 32
 have h2:=by_lt n 32
 have h3:=low_le h1 h2
 rw[le_by,Nat.mod_eq_of_lt (Nat.lt_trans h (by decide))] at h3
 have:(by_ n 32).getD 31 0 / 128=0:=by
  rcases Nat.eq_zero_or_pos ((by_ n 32).getD 31 0 / 128) with h4|h4
  ·exact h4
  ·have:=Nat.mul_le_mul_right 57896044618658097711785492504343953926634992332820282019728792003956564819968 h4
   omega
 omega
def ez(p:KP):K:=kinv p.z
def ex(p:KP):K:=kmul p.x (ez p)
end Go.Proofs.YtjimhjfjfpeojaaGreatDoor.Av
namespace Go.Proofs.YtjimhjfjfpeojaaGreatDoor.Av
open Go.RowKit Go.Proofs.YtjimhjfjfpeojaaGreatDoor.Gn Go.Proofs.YtjimhjfjfpeojaaGreatDoor.Fd Go.Proofs.YtjimhjfjfpeojaaGreatDoor.Ed Go.Deep
theorem three_args{O:Nat→Prop}{w:World}{x y z:DV}{vs:List Value}(hl:vs.length=3)(h:DV.reps O w [x,y,z] 0 (fun i v=>vs[i]?=some v)):∃u v t,vs=[u,v,t]∧x.rep O w u∧y.rep O w v∧z.rep O w t:=by
 obtain⟨⟨u,h1,h2⟩,⟨v,h3,h4⟩,⟨t,h5,h6⟩,-⟩:=h
 match vs,hl with
 | [a,b,c],_=>simp at h1 h3 h5;subst h1 h3 h5;exact⟨_,_,_,rfl,h2,h4,h6⟩
theorem p_known(w:World)(tab:TabE w)(ts:Sh.Tab w):FnAt Tryz.prog [] w 11 [] (.lit (.bool true)) :=
 ⟨fun _ _=>by kernel_rfl,fun O vs hO hk hl hr=>by
  obtain rfl:=no_args hl
  exact(known_any w tab ts).mono fun e w' ⟨h3,h4⟩=>⟨_,h3,rfl,h4⟩⟩
end Go.Proofs.YtjimhjfjfpeojaaGreatDoor.Av
namespace Go.Proofs.YtjimhjfjfpeojaaGreatDoor.Av
open Go.RowKit Go.Proofs.YtjimhjfjfpeojaaGreatDoor.Gn Go.Proofs.YtjimhjfjfpeojaaGreatDoor.Fd Go.Proofs.YtjimhjfjfpeojaaGreatDoor.Ed Go.Deep
theorem kheld_R3{x y:K}{g:G}{a b:Nat}(h:Hp (kheld x y) g)(ha:fe a=x.f)(hb:fe b=y.f):R3 ⟨a,b,1⟩ g:=by
 have h2:cv.Rep ⟨x.f,y.f,(kof 1).f,(kmul x y).f⟩ g.x g.y:=h
 obtain⟨h3,h4,h5,-, h6⟩:=h2
 have h7:(kof 1).f=fe 1:=kof_f 1
 exact⟨by show fe 1≠0;rw[←h7];exact h3,by show fe a=_*fe 1;rw[ha,←h7];exact h4,by show fe b=_*fe 1;rw[hb,←h7];exact h5,h6⟩
def encX(t:T3):Nat:=t.x*(t.z ^ (pp - 2)%pp)%pp
def encY(t:T3):Nat:=t.y*(t.z ^ (pp - 2)%pp)%pp
def top(l:List Nat):List Nat:=l.set 31 (l.getD 31 0+128)
theorem inv_f(z:Nat):fe (z ^ (pp - 2)%pp)=cv.inv (fe z):=by
 rw[fe_mod]
 show fe (z ^ (pp - 2))=fe (fv (fe z) ^ (pp - 2))
 rw[fv_fe,fe_eq]
 exact(Nat.pow_mod z (pp - 2) pp)
theorem R3.enc{t:T3}{g:G}(h:R3 t g):encX t=fv g.x∧encY t=fv g.y:=by
 obtain⟨h1,h2⟩:=Crv.rep3_x h
 constructor
 ·rw[←h1]
  refine(same_lt (lt_mod _) (fv_lt _)).2 ?_
  rw[fe_fv,fe_mod,fe_mul,inv_f]
 ·rw[←h2]
  refine(same_lt (lt_mod _) (fv_lt _)).2 ?_
  rw[fe_fv,fe_mod,fe_mul,inv_f]
theorem enc_odd{t:T3}{g:G}(h:R3 t g)(ho:encX t%2=1):top (by_ (encY t) 32)=by_ (gb g) 32:=by
 obtain⟨h1,h2⟩:=h.enc
 rw[h1] at ho
 rw[h2,gb_odd (by simpa using ho)]
 have h3:=by_31 (fv_top g.y)
 have:=by_top (fv g.y) (fv_top g.y)
 rw[Nat.mod_eq_of_lt h3] at this
 exact this
theorem enc_even{t:T3}{g:G}(h:R3 t g)(ho:¬encX t%2=1):by_ (encY t) 32=by_ (gb g) 32:=by
 obtain⟨h1,h2⟩:=h.enc
 rw[h1] at ho
 rw[h2,gb_even (by simpa using ho)]
end Go.Proofs.YtjimhjfjfpeojaaGreatDoor.Av
namespace Go.Proofs.YtjimhjfjfpeojaaGreatDoor.Av
open Go.RowKit Go.Proofs.YtjimhjfjfpeojaaGreatDoor.Gn Go.Proofs.YtjimhjfjfpeojaaGreatDoor.Fd Go.Proofs.YtjimhjfjfpeojaaGreatDoor.Ed Go.Deep
theorem le_bnil:DV.le (.lit (.slice none 0 0)) (byt true []):=le_nil true 1
section
variable {Γ:Ctx} {σ:St} {fn:Func}
end
def encL(t:T3):List Nat:=if encX t%2=1 then top (by_ (encY t) 32) else by_ (encY t) 32
theorem R3.encL{t:T3}{g:G}(h:R3 t g):Av.encL t=by_ (gb g) 32:=by
 unfold Av.encL
 split
 ·rename_i ho;exact enc_odd h ho
 ·rename_i ho;exact enc_even h ho
theorem c_ad3{p q:T3}(hp:p.ok)(hq:q.ok)(w:World):FnAt Tryz.prog [.u64] w 22 [p.dv,q.dv,num dn] (ad3 p q).dv:=c_add hp.x hp.y hp.z hq.x hq.y hq.z dn_lt w
theorem dg_head(n:Nat)(h:0 < (dg n).length):(dg n).getD 0 0%2=n%2:=by
 have h1:=vl_dg n
 cases hd:dg n with
 |nil=>rw[hd] at h;exact absurd h (by decide)
 |cons a l =>
  rw[hd] at h1
  have:a+65536*vl l=n:=h1
  show a%2=n%2
  omega
theorem dg_none{n:Nat}(h:¬0 < (dg n).length):n=0:=by
 have h1:=vl_dg n
 rw[List.length_eq_zero_iff.1 (Nat.eq_zero_of_not_pos h)] at h1
 exact h1.symm
theorem num_get{n i:Nat}(h:i < (dg n).length):((nl (dg n)).map DV.lit)[i]?=some (.lit (.int .u64 (((dg n).getD i 0:Nat):Int))):=by
 simp[nl,List.getElem?_map,List.getElem?_eq_getElem h,List.getD_eq_getElem?_getD]
def base3:T3:=⟨nbx,nby,1⟩
theorem base3_ok:base3.ok:=⟨small_lt.2.2.1,small_lt.2.2.2,pp_one⟩
theorem base3_R3{b:G}(h:Hp kbase b):R3 base3 b:=kheld_R3 h (kof_f _).symm (kof_f _).symm
end Go.Proofs.YtjimhjfjfpeojaaGreatDoor.Av
