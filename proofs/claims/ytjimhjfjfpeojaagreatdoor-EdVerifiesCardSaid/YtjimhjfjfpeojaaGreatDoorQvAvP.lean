/- Joined texts. -/
import Derived.Test.YtjimhjfjfpeojaaGreatDoorQvAvNum
import Derived.Test.YtjimhjfjfpeojaaGreatDoorQvRdec
import Derived.Test.YtjimhjfjfpeojaaGreatDoorQvEdA
import Derived.Test.YtjimhjfjfpeojaaGreatDoorQvAvN
import Derived.Test.YtjimhjfjfpeojaaGreatDoorQvPuB
set_option maxRecDepth 100000
set_option maxHeartbeats 8000000
set_option linter.unusedVariables false
namespace Go.Proofs.YtjimhjfjfpeojaaGreatDoor.Av
open Go.RowKit Go.Proofs.YtjimhjfjfpeojaaGreatDoor.Gn Go.Proofs.YtjimhjfjfpeojaaGreatDoor.Fd Go.Deep
def pt(x y z:Nat):DV:=.agg [num x,num y,num z]
theorem Zcc:num 0=.sq false 1 []:=by unfold num row;rw[Z0r];rfl
theorem Zb1:num 1=.sq false 1 [.lit (.int .u64 1)]:=by unfold num row;rw[show dg 1=[1] by decide +kernel];rfl
theorem Z9k{a b c:DV}{x y z:Nat}(h1:DV.le a (num x))(h2:DV.le b (num y))(h3:DV.le c (num z)):DV.le (.agg [a,b,c]) (pt x y z):=Zoc rfl fun j u v hu hv=>by
 match j with
 |0=>simp at hu hv;subst hu hv;exact h1
 |1=>simp at hu hv;subst hu hv;exact h2
 |2=>simp at hu hv;subst hu hv;exact h3
 |j+3=>simp at hu
theorem Z0c(n:Nat):n%pp < pp:=Nat.mod_lt _ Z1y
theorem Zqo(w:World):FnAt Tryz.prog [] w 68 [] (pt 0 1 1):=by
 refine FnAt.of Tryz.f68 _ _ Tryz.func68 Tryz.ntmps68 rfl (by kernel_rfl) (fun _ _=>by kernel_rfl) fun O=>?_
 show PW _ _ _ ⟨[],[]⟩
 refine(PW.seq ?_:PW _ _ _ _)
 refine(PW.region ?_:PW _ _ _ _)
 refine PL.full rfl (Fa.alloc 1 (z:=(.agg #[.slice none 0 0,.slice none 0 0,.slice none 0 0])) rfl (by kernel_rfl) (by kernel_rfl) rfl rfl ?_)
 refine PL.nil ?_
 refine(PW.seq ?_:PW _ _ _ _)
 refine(PW.region ?_:PW _ _ _ _)
 refine PL.step rfl rfl rfl (PS.buildSlice (parts:=[(0,_)]) (xs:=[_]) (z:=(.int .u64 0)) (bytes:=8) rfl rfl rfl Tryz.underlying32 (by kernel_rfl) rfl (by kernel_rfl) (by kernel_rfl)) ?_
 refine PL.step rfl rfl rfl (PS.buildSlice (parts:=[(0,_)]) (xs:=[_]) (z:=(.int .u64 0)) (bytes:=8) rfl rfl rfl Tryz.underlying32 (by kernel_rfl) rfl (by kernel_rfl) (by kernel_rfl)) ?_
 refine PL.step rfl rfl rfl (PS.build (xs:=[_,_]) (zs:=[.slice none 0 0,.slice none 0 0,.slice none 0 0]) [1,2] _ rfl rfl Tryz.underlying34 (by kernel_rfl) (by kernel_rfl) (by kernel_rfl) rfl (by kernel_rfl) rfl) ?_
 refine PL.full rfl (Fa.storeR rfl rfl rfl rfl rfl rfl (by kernel_rfl) rfl ?_)
 refine PL.nil ?_
 refine(PW.ret ?_:PW _ _ _ _)
 exact Rt.as (Rt.cell Tryz.results68 rfl rfl Tryz.underlying34 rfl (by kernel_rfl)) (Z9k (Zcc▸le_nil _ _) (Zb1▸Z7q _) (Zb1▸Z7q _))
def aG(z t:Nat):Nat:=z*t%pp
def aF(d x u y v:Nat):Nat:=d*((x*u%pp)*(y*v%pp)%pp)%pp
def aCr(x y u v:Nat):Nat:=((((x+y)%pp)*((u+v)%pp)%pp+(pp - x*u%pp))%pp+(pp - y*v%pp))%pp
def aB(z t:Nat):Nat:=aG z t*aG z t%pp
def aLo(z t d x u y v:Nat):Nat:=(aB z t+(pp - aF d x u y v))%pp
def aHi(z t d x u y v:Nat):Nat:=(aB z t+aF d x u y v)%pp
def adX(x y z u v t d:Nat):Nat:=aG z t*aLo z t d x u y v%pp*aCr x y u v%pp
def adY(x y z u v t d:Nat):Nat:=aG z t*aHi z t d x u y v%pp*((y*v%pp+x*u%pp)%pp)%pp
def adZ(x y z u v t d:Nat):Nat:=aLo z t d x u y v*aHi z t d x u y v%pp
theorem Ztg{x y z u v t d:Nat}(hx:x < pp)(hy:y < pp)(hz:z < pp)(hu:u < pp)(hv:v < pp)(ht:t < pp)(hd:d < pp)(w:World):FnAt Tryz.prog [.u64] w 22 [pt x y z,pt u v t,num d] (pt (adX x y z u v t d) (adY x y z u v t d) (adZ x y z u v t d)):=by
 refine FnAt.of Tryz.f22 _ _ Tryz.func22 Tryz.ntmps22 rfl (by kernel_rfl) (fun _ _=>by kernel_rfl) fun O=>?_
 show PW _ _ _ ⟨[(0,.c (.dv _)),(1,.c (.dv _)),(2,.c (.dv _))],[]⟩
 refine(PW.seq ?_:PW _ _ _ _)
 refine(PW.region ?_:PW _ _ _ _)
 refine PL.full rfl (Fa.boxR 1 rfl rfl (by kernel_rfl) rfl rfl ?_)
 refine PL.full rfl (Fa.boxR 2 rfl rfl (by kernel_rfl) rfl rfl ?_)
 refine PL.full rfl (Fa.alloc 3 (z:=(.agg #[.slice none 0 0,.slice none 0 0,.slice none 0 0])) rfl (by kernel_rfl) (by kernel_rfl) rfl rfl ?_)
 refine PL.nil ?_
 refine(PW.seq ?_:PW _ _ _ _)
 refine(PW.region ?_:PW _ _ _ _)
 refine PL.step rfl rfl rfl (PS.fieldAddr 2 rfl rfl (fun _ _=>by kernel_rfl)) ?_
 refine PL.step rfl rfl rfl (PS.load rfl rfl rfl rfl Tryz.underlying32 rfl) ?_
 refine PL.step rfl rfl rfl (PS.fieldAddr 2 rfl rfl (fun _ _=>by kernel_rfl)) ?_
 refine PL.step rfl rfl rfl (PS.load rfl rfl rfl rfl Tryz.underlying32 rfl) ?_
 refine PL.call (xs:=[_,_]) rfl rfl rfl rfl rfl rfl rfl (fun w hw=>Z33 (by first|assumption|exact Z0c _) (by first|assumption|exact Z0c _) w) ?_
 refine PL.mu rfl rfl rfl rfl rfl ?_
 refine PL.nil ?_
 refine(PW.seq ?_:PW _ _ _ _)
 refine(PW.region ?_:PW _ _ _ _)
 refine PL.mv rfl rfl rfl rfl rfl ?_
 refine PL.mv rfl rfl rfl rfl rfl ?_
 refine PL.call (xs:=[_,_]) rfl rfl rfl rfl rfl rfl rfl (fun w hw=>Z33 (by first|assumption|exact Z0c _) (by first|assumption|exact Z0c _) w) ?_
 refine PL.mu rfl rfl rfl rfl rfl ?_
 refine PL.nil ?_
 refine(PW.seq ?_:PW _ _ _ _)
 refine(PW.region ?_:PW _ _ _ _)
 refine PL.step rfl rfl rfl (PS.fieldAddr 0 rfl rfl (fun _ _=>by kernel_rfl)) ?_
 refine PL.step rfl rfl rfl (PS.load rfl rfl rfl rfl Tryz.underlying32 rfl) ?_
 refine PL.step rfl rfl rfl (PS.fieldAddr 0 rfl rfl (fun _ _=>by kernel_rfl)) ?_
 refine PL.step rfl rfl rfl (PS.load rfl rfl rfl rfl Tryz.underlying32 rfl) ?_
 refine PL.call (xs:=[_,_]) rfl rfl rfl rfl rfl rfl rfl (fun w hw=>Z33 (by first|assumption|exact Z0c _) (by first|assumption|exact Z0c _) w) ?_
 refine PL.mu rfl rfl rfl rfl rfl ?_
 refine PL.nil ?_
 refine(PW.seq ?_:PW _ _ _ _)
 refine(PW.region ?_:PW _ _ _ _)
 refine PL.step rfl rfl rfl (PS.fieldAddr 1 rfl rfl (fun _ _=>by kernel_rfl)) ?_
 refine PL.step rfl rfl rfl (PS.load rfl rfl rfl rfl Tryz.underlying32 rfl) ?_
 refine PL.step rfl rfl rfl (PS.fieldAddr 1 rfl rfl (fun _ _=>by kernel_rfl)) ?_
 refine PL.step rfl rfl rfl (PS.load rfl rfl rfl rfl Tryz.underlying32 rfl) ?_
 refine PL.call (xs:=[_,_]) rfl rfl rfl rfl rfl rfl rfl (fun w hw=>Z33 (by first|assumption|exact Z0c _) (by first|assumption|exact Z0c _) w) ?_
 refine PL.mu rfl rfl rfl rfl rfl ?_
 refine PL.nil ?_
 refine(PW.seq ?_:PW _ _ _ _)
 refine(PW.region ?_:PW _ _ _ _)
 refine PL.mv rfl rfl rfl rfl rfl ?_
 refine PL.mv rfl rfl rfl rfl rfl ?_
 refine PL.mv rfl rfl rfl rfl rfl ?_
 refine PL.call (xs:=[_,_]) rfl rfl rfl rfl rfl rfl rfl (fun w hw=>Z33 (by first|assumption|exact Z0c _) (by first|assumption|exact Z0c _) w) ?_
 refine PL.call (xs:=[_,_]) rfl rfl rfl rfl rfl rfl rfl (fun w hw=>Z33 (by first|assumption|exact Z0c _) (by first|assumption|exact Z0c _) w) ?_
 refine PL.mu rfl rfl rfl rfl rfl ?_
 refine PL.nil ?_
 refine(PW.seq ?_:PW _ _ _ _)
 refine(PW.region ?_:PW _ _ _ _)
 refine PL.mv rfl rfl rfl rfl rfl ?_
 refine PL.mv rfl rfl rfl rfl rfl ?_
 refine PL.call (xs:=[_,_]) rfl rfl rfl rfl rfl rfl rfl (fun w hw=>Z4l (by first|assumption|exact Z0c _) (by first|assumption|exact Z0c _) w) ?_
 refine PL.mu rfl rfl rfl rfl rfl ?_
 refine PL.nil ?_
 refine(PW.seq ?_:PW _ _ _ _)
 refine(PW.region ?_:PW _ _ _ _)
 refine PL.mv rfl rfl rfl rfl rfl ?_
 refine PL.mv rfl rfl rfl rfl rfl ?_
 refine PL.call (xs:=[_,_]) rfl rfl rfl rfl rfl rfl rfl (fun w hw=>Z5e (by first|assumption|exact Z0c _) (by first|assumption|exact Z0c _) w) ?_
 refine PL.mu rfl rfl rfl rfl rfl ?_
 refine PL.nil ?_
 refine(PW.seq ?_:PW _ _ _ _)
 refine(PW.drawn 16 (by kernel_rfl) (by kernel_rfl) (by kernel_rfl) (by kernel_rfl) (by kernel_rfl) ?_:PW _ _ _ _)
 refine PD.step rfl rfl rfl (PS.fieldAddr 0 rfl rfl (fun _ _=>by kernel_rfl)) ?_
 refine PD.step rfl rfl rfl (PS.load rfl rfl rfl rfl Tryz.underlying32 rfl) ?_
 refine PD.step rfl rfl rfl (PS.fieldAddr 1 rfl rfl (fun _ _=>by kernel_rfl)) ?_
 refine PD.step rfl rfl rfl (PS.load rfl rfl rfl rfl Tryz.underlying32 rfl) ?_
 refine PD.call (xs:=[_,_]) rfl rfl rfl rfl rfl rfl rfl (fun w hw=>Z5e (by first|assumption|exact Z0c _) (by first|assumption|exact Z0c _) w) ?_
 refine PD.step rfl rfl rfl (PS.fieldAddr 0 rfl rfl (fun _ _=>by kernel_rfl)) ?_
 refine PD.step rfl rfl rfl (PS.load rfl rfl rfl rfl Tryz.underlying32 rfl) ?_
 refine PD.step rfl rfl rfl (PS.fieldAddr 1 rfl rfl (fun _ _=>by kernel_rfl)) ?_
 refine PD.step rfl rfl rfl (PS.load rfl rfl rfl rfl Tryz.underlying32 rfl) ?_
 refine PD.call (xs:=[_,_]) rfl rfl rfl rfl rfl rfl rfl (fun w hw=>Z5e (by first|assumption|exact Z0c _) (by first|assumption|exact Z0c _) w) ?_
 refine PD.call (xs:=[_,_]) rfl rfl rfl rfl rfl rfl rfl (fun w hw=>Z33 (by first|assumption|exact Z0c _) (by first|assumption|exact Z0c _) w) ?_
 refine PD.mv rfl rfl rfl rfl rfl ?_
 refine PD.call (xs:=[_,_]) rfl rfl rfl rfl rfl rfl rfl (fun w hw=>Z4l (by first|assumption|exact Z0c _) (by first|assumption|exact Z0c _) w) ?_
 refine PD.mv rfl rfl rfl rfl rfl ?_
 refine PD.call (xs:=[_,_]) rfl rfl rfl rfl rfl rfl rfl (fun w hw=>Z4l (by first|assumption|exact Z0c _) (by first|assumption|exact Z0c _) w) ?_
 refine PD.mu rfl rfl rfl rfl rfl ?_
 refine PD.nil ?_
 refine(PW.seq ?_:PW _ _ _ _)
 refine(PW.region ?_:PW _ _ _ _)
 refine PL.mv rfl rfl rfl rfl rfl ?_
 refine PL.mv rfl rfl rfl rfl rfl ?_
 refine PL.call (xs:=[_,_]) rfl rfl rfl rfl rfl rfl rfl (fun w hw=>Z33 (by first|assumption|exact Z0c _) (by first|assumption|exact Z0c _) w) ?_
 refine PL.mv rfl rfl rfl rfl rfl ?_
 refine PL.call (xs:=[_,_]) rfl rfl rfl rfl rfl rfl rfl (fun w hw=>Z33 (by first|assumption|exact Z0c _) (by first|assumption|exact Z0c _) w) ?_
 refine PL.mv rfl rfl rfl rfl rfl ?_
 refine PL.mv rfl rfl rfl rfl rfl ?_
 refine PL.call (xs:=[_,_]) rfl rfl rfl rfl rfl rfl rfl (fun w hw=>Z33 (by first|assumption|exact Z0c _) (by first|assumption|exact Z0c _) w) ?_
 refine PL.mv rfl rfl rfl rfl rfl ?_
 refine PL.mv rfl rfl rfl rfl rfl ?_
 refine PL.call (xs:=[_,_]) rfl rfl rfl rfl rfl rfl rfl (fun w hw=>Z5e (by first|assumption|exact Z0c _) (by first|assumption|exact Z0c _) w) ?_
 refine PL.call (xs:=[_,_]) rfl rfl rfl rfl rfl rfl rfl (fun w hw=>Z33 (by first|assumption|exact Z0c _) (by first|assumption|exact Z0c _) w) ?_
 refine PL.mv rfl rfl rfl rfl rfl ?_
 refine PL.mv rfl rfl rfl rfl rfl ?_
 refine PL.call (xs:=[_,_]) rfl rfl rfl rfl rfl rfl rfl (fun w hw=>Z33 (by first|assumption|exact Z0c _) (by first|assumption|exact Z0c _) w) ?_
 refine PL.step rfl rfl rfl (PS.build (xs:=[_,_,_]) (zs:=[.slice none 0 0,.slice none 0 0,.slice none 0 0]) [0,1,2] _ rfl rfl Tryz.underlying34 (by kernel_rfl) (by kernel_rfl) (by kernel_rfl) rfl (by kernel_rfl) rfl) ?_
 refine PL.full rfl (Fa.storeR rfl rfl rfl rfl rfl rfl (by kernel_rfl) rfl ?_)
 refine PL.nil ?_
 refine(PW.ret ?_:PW _ _ _ _)
 exact Rt.as (Rt.cell Tryz.results22 rfl rfl Tryz.underlying34 rfl (by kernel_rfl)) (le_refl _)
open Go.RowKit Go.Proofs.YtjimhjfjfpeojaaGreatDoor.Gn Go.Proofs.YtjimhjfjfpeojaaGreatDoor.Fd Go.Proofs.YtjimhjfjfpeojaaGreatDoor.Ed Go.Deep
theorem Znc{vs:List Value}(hl:vs.length=0):vs=[]:=List.length_eq_zero_iff.1 hl
theorem Zgg{k:Nat}{a:Array Value}(hk:a.size=k)(ha:∀u∈a.toList,u.oneCell'=true):∀O w v,(DV.lit (.agg a)).rep O w v→∃us:Array Value,v=.agg us∧us.size=k∧∀u∈us.toList,u.oneCell'=true :=
 fun O w v h=>⟨a,h,hk,ha⟩
section
variable {Γ:Ctx} {σ:St} {o:Oper}
end
section
variable {P:Program} {f:FuncId} {w:World} {r:Value}
end
def les:List DV→List DV→Prop
 | [],[]=>True
 |a :: l,b :: k=>DV.le a b∧les l k
 |_,_=>False
theorem Zki:∀ {l k:List DV},les l k→l.length=k.length∧∀(j:Nat) (x y:DV),l[j]?=some x→k[j]?=some y→DV.le x y:=by
 intro l
 induction l with
 |nil =>
  intro k h
  cases k with
  |nil=>exact⟨rfl,fun j x y hx=>by simp at hx⟩
  |cons b k=>exact h.elim
 |cons a l ih =>
  intro k h
  cases k with
  |nil=>exact h.elim
  |cons b k =>
   obtain⟨h1,h2⟩:=h
   obtain⟨h3,h4⟩:=ih h2
   refine⟨by simp[h3],fun j x y hx hy=>?_⟩
   cases j with
   |zero=>simp at hx hy;subst hx hy;exact h1
   |succ j=>exact h4 j x y (by simpa using hx) (by simpa using hy)
theorem FnAt.les{P:Program}{ks:List IntKind}{w:World}{f:FuncId}{xs ys:List DV}{r:DV}(h:FnAt P ks w f xs r)(hl:Av.les ys xs):FnAt P ks w f ys r:=h.le (Zki hl).1 (Zki hl).2
theorem FnAt.to{P:Program}{ks:List IntKind}{w:World}{f:FuncId}{xs:List DV}{r r':DV}(h:FnAt P ks w f xs r)(hl:DV.le r r'):FnAt P ks w f xs r' :=
 ⟨h.1,fun O vs hO hk hv hr=>(h.2 O vs hO hk hv hr).mono fun e w' ⟨v,h1,h2,h3⟩=>⟨v,h1,hl _ _ _ h2,h3⟩⟩
structure T3 where
 x:Nat
 y:Nat
 z:Nat
def T3.dv(p:T3):DV:=pt p.x p.y p.z
structure T3.ok (p:T3):Prop where
 x:p.x < pp
 y:p.y < pp
 z:p.z < pp
def ad3(p q:T3):T3:=⟨adX p.x p.y p.z q.x q.y q.z dn,adY p.x p.y p.z q.x q.y q.z dn,adZ p.x p.y p.z q.x q.y q.z dn⟩
theorem Z4u(p q:T3):(ad3 p q).ok:=⟨Z0c _,Z0c _,Z0c _⟩
def R3(p:T3)(g:G):Prop:=cv.Rep3 ⟨fe p.x,fe p.y,fe p.z⟩ g.x g.y
theorem fe_mod(n:Nat):fe (n%pp)=fe n:=Z2s.2 (Nat.mod_mod n pp)
theorem Z8c{a b:Nat}(h:b < pp):fe (a+(pp - b))=fe a - fe b:=by
 have e:fe (a+(pp - b))+fe b=fe a:=by
  rw[←Z37,show a+(pp - b)+b=a+pp by omega]
  exact Z2s.2 (by unfold cg;simp)
 have q:=Crv.add_assoc_ (fe (a+(pp - b))) (fe b) (-fe b)
 have q2:=Crv.neg_add_ (fe b)
 rw[Crv.add_comm_] at q2
 rw[Crv.sub_eq_,←e,q,q2,Crv.add_zero_]
theorem Zix(a n:Nat):fe (a+(pp - n%pp))=fe a - fe n:=by rw[Z8c (Z0c n),fe_mod]
theorem R3.add{p q:T3}{g h:G}(hp:R3 p g)(hq:R3 q h):R3 (ad3 p q) (ga g h):=by
 have:=Crv.rep3_add hp hq
 have e:(⟨fe (ad3 p q).x,fe (ad3 p q).y,fe (ad3 p q).z⟩:Pt3 pp)=cv.add3 ⟨fe p.x,fe p.y,fe p.z⟩ ⟨fe q.x,fe q.y,fe q.z⟩:=by
  have hd:cv.d=fe dn:=rfl
  simp only[ad3,adX,adY,adZ,aLo,aHi,aCr,aB,aF,aG,fe_mod,Z10,Zix,Crv.add3,hd]
  simp only[Z37,Z10,fe_mod]
 unfold R3
 rw[e]
 exact this
def Z9l:T3:=⟨0,1,1⟩
def dg1(l:List Nat)(i:Nat):Bool:=decide (bt l i=1)
def st3(n m:List Nat)(p q both o:T3)(i:Nat):T3:=match dg1 n i,dg1 m i with
 |true,true=>ad3 (ad3 o o) both
 |true,false=>ad3 (ad3 o o) p
 |false,true=>ad3 (ad3 o o) q
 |false,false=>ad3 o o
def go3(n m:List Nat)(p q both:T3):Nat→T3→T3
 |0,o=>o
 |i+1,o=>go3 n m p q both i (st3 n m p q both o i)
def two3(n m:List Nat)(p q:T3):T3:=go3 n m p q (ad3 p q) (8*max n.length m.length) Z9l
theorem Zqp{n m:List Nat}{p q b o:T3}{i:Nat}:(st3 n m p q b o i).ok:=by
 unfold st3;split <;> exact Z4u _ _
theorem Zcd:Z9l.ok:=by
 have:1 < pp:=by rw[Z1b];decide
 exact⟨by show 0 < pp;omega,this,this⟩
theorem Zqq{n m:List Nat}{p q b:T3}:∀(k:Nat) {o:T3},o.ok→(go3 n m p q b k o).ok:=by
 intro k
 induction k with
 |zero=>intro o h;exact h
 |succ k ih=>intro o h;exact ih Zqp
theorem Zkj(l:List Nat)(i:Nat):bt l i=0∨bt l i=1:=by
 have:bt l i < 2:=Nat.mod_lt _ (by decide)
 omega
theorem R3.step{n m:List Nat}(hn:∀x∈n,x < 256)(hm:∀x∈m,x < 256){p q o:T3}{g h:G}(hp:R3 p g)(hq:R3 q h){k:Nat}(ho:R3 o (ga (ti (le n / 2 ^ (k+1)) g) (ti (le m / 2 ^ (k+1)) h))) :
  R3 (st3 n m p q (ad3 p q) o k) (ga (ti (le n / 2 ^ k) g) (ti (le m / 2 ^ k) h)):=by
 rw[Zfe 2 (le n) (le m) k g h,Ed.le_bit n k hn,Ed.le_bit m k hm]
 have h2:R3 (ad3 o o) (ti 2 (ga (ti (le n / 2 ^ (k+1)) g) (ti (le m / 2 ^ (k+1)) h))):=by
  have:=ho.add ho
  rw[Z2h,Z95]
  exact this
 unfold st3 dg1
 rcases Zkj n k with e1|e1 <;> rcases Zkj m k with e2|e2 <;> simp only[e1,e2,decide_true,Nat.zero_ne_one,decide_false,Z28,Z95,ga_z]
 ·exact h2
 ·exact h2.add hq
 ·exact h2.add hp
 ·rw[Z1l];exact h2.add (hp.add hq)
theorem R3.go{n m:List Nat}(hn:∀x∈n,x < 256)(hm:∀x∈m,x < 256){p q:T3}{g h:G}(hp:R3 p g)(hq:R3 q h):∀(k:Nat) {o:T3},R3 o (ga (ti (le n / 2 ^ k) g) (ti (le m / 2 ^ k) h))→R3 (go3 n m p q (ad3 p q) k o) (ga (ti (le n) g) (ti (le m) h)):=by
 intro k
 induction k with
 |zero=>intro o ho;rw[Zk9,Zk9] at ho;exact ho
 |succ k ih=>intro o ho;exact ih (R3.step hn hm hp hq ho)
theorem R3.zero:R3 Z9l gz:=by
 have:cv.Rep3 ⟨0,1,1⟩ (0:F) 1:=⟨by
  rw[←Z38,←Z1e];intro h;have:=Z2s.1 h;unfold cg at this;rw[Z1b] at this;exact absurd this (by decide),(Crv.zero_mul_ _).symm,(Crv.mul_one_ _).symm,cv.on_zero⟩
 unfold R3 Z9l
 rw[Z1e,Z38]
 exact this
theorem Zkk{l:List Nat}(h:∀x∈l,x < 256){T:Nat}(hT:l.length≤T):le l / 2 ^ (8*T)=0:=by
 have h1:=Zco l h
 refine Nat.div_eq_of_lt (Nat.lt_of_lt_of_le h1 ?_)
 rw[Nat.pow_mul]
 exact Nat.pow_le_pow_right (by decide) hT
theorem R3.two{n m:List Nat}(hn:∀x∈n,x < 256)(hm:∀x∈m,x < 256){p q:T3}{g h:G}(hp:R3 p g)(hq:R3 q h):R3 (two3 n m p q) (ga (ti (le n) g) (ti (le m) h)):=by
 refine R3.go hn hm hp hq _ ?_
 rw[Zkk hn (Nat.le_max_left _ _),Zkk hm (Nat.le_max_right _ _),Z28,Z28,ga_z]
 exact R3.zero
end Go.Proofs.YtjimhjfjfpeojaaGreatDoor.Av
