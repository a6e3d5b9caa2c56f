/- Joined texts. -/
import Derived.IntWalk
import Derived.Test.YtoibhnpmemnlfaaGreatDoorQtEdM
import Derived.Test.YtoibhnpmemnlfaaGreatDoorQtAvBr
import Derived.Test.YtoibhnpmemnlfaaGreatDoorQtRaA
import Derived.Test.YtoibhnpmemnlfaaGreatDoorQtEdA
import Derived.Test.YtoibhnpmemnlfaaGreatDoorQtAvN
import Derived.Test.YtoibhnpmemnlfaaGreatDoorQtPuB
import Derived.Test.YtoibhnpmemnlfaaGreatDoorQtEdPts
set_option linter.unusedVariables false
namespace Go.Proofs.YtoibhnpmemnlfaaGreatDoor.Ed
open Go.RowKit Go.Proofs.YtoibhnpmemnlfaaGreatDoor.Gn Go.Proofs.YtoibhnpmemnlfaaGreatDoor.Fd Go.Deep
section
variable {P:Program} {ops:Array Oper} {Q:Exit→Act→World→Prop} {rest:List Oper} {o:Oper} {a:Act} {w w':World}
end
theorem sec_zero:le (sec (List.replicate 32 0))=kz:=by decide +kernel
theorem base_some:∃b,Hp kbase b:=by
 obtain⟨g,hg⟩:=qb_has
 exact⟨g,by unfold Hp;rw[kbase_pt];exact hg⟩
theorem hp_qb{b:G}(h:Hp kbase b):Has qb.pt b:=by unfold Hp at h;rwa [kbase_pt] at h
end Go.Proofs.YtoibhnpmemnlfaaGreatDoor.Ed
namespace Go.Proofs.YtoibhnpmemnlfaaGreatDoor.Av
open Go.RowKit Go.Proofs.YtoibhnpmemnlfaaGreatDoor.Gn Go.Proofs.YtoibhnpmemnlfaaGreatDoor.Fd Go.Proofs.YtoibhnpmemnlfaaGreatDoor.Ed Go.Deep
theorem no_args{vs:List Value}(hl:vs.length=0):vs=[]:=List.length_eq_zero_iff.1 hl
theorem agg_row{k:Nat}{a:Array Value}(hk:a.size=k)(ha:∀u∈a.toList,u.oneCell'=true):∀O w v,(DV.lit (.agg a)).rep O w v→∃us:Array Value,v=.agg us∧us.size=k∧∀u∈us.toList,u.oneCell'=true :=
 fun O w v h=>⟨a,h,hk,ha⟩
theorem row_sz{k:Nat}{d:DV}(h:∀O w v,d.rep O w v→∃us:Array Value,v=.agg us∧us.size=k∧∀u∈us.toList,u.oneCell'=true):∀O w vs,d.rep O w (.agg vs)→vs.size=k:=fun O w vs hd=>by
 obtain⟨us,h1,h2,-⟩:=h O w _ hd
 cases h1;exact h2
theorem row_agg{k:Nat}{d:DV}(h:∀O w v,d.rep O w v→∃us:Array Value,v=.agg us∧us.size=k∧∀u∈us.toList,u.oneCell'=true):∀O w v,d.rep O w v→∃us:Array Value,v=.agg us:=fun O w v hd=>by
 obtain⟨us,h1,-⟩:=h O w v hd
 exact⟨us,h1⟩
theorem agg_lit{l:List Value}:DV.le (.agg (l.map .lit)) (.lit (.agg l.toArray)):=fun O w v ⟨vs,h1,h2,h3⟩=>by
 subst h1
 have:vs=l.toArray:=by
  refine Array.ext (by simpa using h2) fun i hi hj=>?_
  obtain⟨u,h4,h5⟩:=reps_iff.1 h3 i (.lit l[i]) (by simp)
  rw[Nat.zero_add,Array.getElem?_eq_getElem hi] at h4
  cases h4
  have h5:vs[i]=l[i]:=h5
  simpa using h5
 rw[this];rfl
def kv(x:K):DV:=.lit (.agg x.v)
def pv(p:KP):DV:=.lit (.agg p.v)
theorem kv_row(x:K):∀O w v,(kv x).rep O w v→∃us:Array Value,v=.agg us∧us.size=5∧∀u∈us.toList,u.oneCell'=true:=agg_row rfl (K.ones x)
theorem kp_row(p:KP):∀O w v,(pv p).rep O w v→∃us:Array Value,v=.agg us∧us.size=20∧∀u∈us.toList,u.oneCell'=true:=agg_row rfl (KP.ones p)
section
variable {Γ:Ctx} {σ:St} {o:Oper}
theorem PS.part{x:Operand}{T t:TypeId}{m:Bool}{j off k:Nat}{vs:Array Value}(us:Array Value){ty:TypeDesc}(ho:o.op=.load T x)(hx:σ.ev x=.c (.ptr j off))(hj:look σ.o j=some (.whole m t (.lit (.agg vs))))(hk:Nat.ble (off+k) vs.size=true)
  (hu:Γ.P.underlying T=some ty) (hd:ty.isRow=true) (hi:(Γ.P.info? T).map (·.size)=some k) (he:vs.extract off (off+k)=us):PS Γ o σ (L (.agg us)):=by
 subst he
 have hk:=Nat.le_of_ble_eq_true hk
 refine PS.read _ fun ρ a w h1 h2=>?_
 have h3:=h2.ev x (by simp[ho,Op.operands])
 rw[hx] at h3
 obtain⟨g,e1,e2⟩:=h3
 obtain⟨g',ws,e3,-, e4,e6⟩:=h1.os j _ hj
 rw[e3] at e1;cases e1
 have e7:ws=vs:=by
  have:Value.agg ws=.agg vs:=e6
  cases this;rfl
 subst e7
 have hl:(ws.extract off (off+k)).toList.length=k:=by rw[Array.length_toList];simp;omega
 have hr:w.rangeAt g' off (ws.extract off (off+k)).toList:=World.rangeAt_of_block e4 off k
 refine⟨.agg (ws.extract off (off+k)),?_,rfl⟩
 unfold execOp
 simp only[ho,e2,Instr.loadAt,Instr.sureAddr,Sem.run_bind,Sem.run_pure,Result.andThen_ok,run_loadVar_mid w g' off T (ws.extract off (off+k)).toList ty hr hu hd (by rw[hl];exact hi),Array.toArray_toList]
end
section
variable {P:Program} {f:FuncId} {w:World} {r:Value}
theorem el_one{u:Value}(he:En P f)(h:Calls P f #[u] w fun e w'=>e=.returned r∧Below w.heap.size w w'):FnAt P [] w f [.lit u] (.lit r) :=
 ⟨he,fun O vs hO hk hl hr=>by
  obtain⟨v,rfl,h1⟩:=one_arg hl hr
  cases h1
  exact h.mono fun e w' ⟨h3,h4⟩=>⟨_,h3,rfl,h4⟩⟩
theorem el_two{u u':Value}(he:En P f)(h:Calls P f #[u,u'] w fun e w'=>e=.returned r∧Below w.heap.size w w'):FnAt P [] w f [.lit u,.lit u'] (.lit r) :=
 ⟨he,fun O vs hO hk hl hr=>by
  obtain⟨v,v',rfl,h1,h2⟩:=two_args hl hr
  cases h1;cases h2
  exact h.mono fun e w' ⟨h3,h4⟩=>⟨_,h3,rfl,h4⟩⟩
theorem FnAt.sat{ks:List IntKind}{φ:Value→Prop}{d:DV}(he:En P f)(h:∀v,φ v→FnAt P ks w f [.lit v] d):FnAt P ks w f [.sat φ] d :=
 ⟨he,fun O vs hO hk hl hr=>by
  obtain⟨v,rfl,h1⟩:=one_arg hl hr
  exact(h v h1).2 O [v] hO hk rfl ⟨⟨v,rfl,rfl⟩,trivial⟩⟩
theorem FnAt.sat2{ks:List IntKind}{φ ψ:Value→Prop}{d:DV}(he:En P f)(h:∀v u,φ v→ψ u→FnAt P ks w f [.lit v,.lit u] d):FnAt P ks w f [.sat φ,.sat ψ] d :=
 ⟨he,fun O vs hO hk hl hr=>by
  obtain⟨v,u,rfl,h1,h2⟩:=two_args hl hr
  exact(h v u h1 h2).2 O [v,u] hO hk rfl ⟨⟨v,rfl,rfl⟩,⟨u,rfl,rfl⟩,trivial⟩⟩
end
def les:List DV→List DV→Prop
 | [],[]=>True
 |a :: l,b :: k=>DV.le a b∧les l k
 |_,_=>False
theorem les_at:∀ {l k:List DV},les l k→l.length=k.length∧∀(j:Nat) (x y:DV),l[j]?=some x→k[j]?=some y→DV.le x y:=by
 intro l
 induction l with
 |nil =>
  intro k h
  cases k with
  |nil=>exact⟨rfl,fun j x y hx=>by simp at hx⟩
  |cons b k=>exact h.elim
 |cons a l ih =>
  intro k h
  cases k with
  |nil=>exact h.elim
  |cons b k =>
   obtain⟨h1,h2⟩:=h
   obtain⟨h3,h4⟩:=ih h2
   refine⟨by simp[h3],fun j x y hx hy=>?_⟩
   cases j with
   |zero=>simp at hx hy;subst hx hy;exact h1
   |succ j=>exact h4 j x y (by simpa using hx) (by simpa using hy)
theorem FnAt.les{P:Program}{ks:List IntKind}{w:World}{f:FuncId}{xs ys:List DV}{r:DV}(h:FnAt P ks w f xs r)(hl:Av.les ys xs):FnAt P ks w f ys r:=h.le (les_at hl).1 (les_at hl).2
theorem FnAt.to{P:Program}{ks:List IntKind}{w:World}{f:FuncId}{xs:List DV}{r r':DV}(h:FnAt P ks w f xs r)(hl:DV.le r r'):FnAt P ks w f xs r' :=
 ⟨h.1,fun O vs hO hk hv hr=>(h.2 O vs hO hk hv hr).mono fun e w' ⟨v,h1,h2,h3⟩=>⟨v,h1,hl _ _ _ h2,h3⟩⟩
theorem f_neg(x:K)(w:World):FnAt Tryz.prog [] w 31 [kv x] (kv (kneg x)):=el_one (fun _ _=>by kernel_rfl) (cneg x w)
theorem f_mul(x y:K)(w:World):FnAt Tryz.prog [] w 38 [kv x,kv y] (kv (kmul x y)):=el_two (fun _ _=>by kernel_rfl) (cmul x y w)
theorem f_inv(x:K)(w:World):FnAt Tryz.prog [] w 42 [kv x] (kv (kinv x)):=el_one (fun _ _=>by kernel_rfl) (cinv x w)
theorem f_same(x y:K)(w:World):FnAt Tryz.prog [] w 37 [kv x,kv y] (.lit (.bool (decide (x.f=y.f)))):=el_two (fun _ _=>by kernel_rfl) (csame x y w)
theorem f_odd(x:K)(w:World):FnAt Tryz.prog [] w 32 [kv x] (.lit (.bool (decide (fv x.f%2=1)))):=el_one (fun _ _=>by kernel_rfl) (codd x w)
end Go.Proofs.YtoibhnpmemnlfaaGreatDoor.Av
namespace Go.Proofs.YtoibhnpmemnlfaaGreatDoor.Av
open Go.RowKit Go.Proofs.YtoibhnpmemnlfaaGreatDoor.Gn Go.Proofs.YtoibhnpmemnlfaaGreatDoor.Fd Go.Proofs.YtoibhnpmemnlfaaGreatDoor.Ed Go.Deep
theorem fe_mod(n:Nat):fe (n%pp)=fe n:=fe_eq.2 (Nat.mod_mod n pp)
end Go.Proofs.YtoibhnpmemnlfaaGreatDoor.Av
namespace Go.Proofs.YtoibhnpmemnlfaaGreatDoor.Av
open Go.RowKit Go.Proofs.YtoibhnpmemnlfaaGreatDoor.Gn Go.Proofs.YtoibhnpmemnlfaaGreatDoor.Fd Go.Proofs.YtoibhnpmemnlfaaGreatDoor.Ed Go.Deep
theorem le_tup{xs ys:List DV}(hl:xs.length=ys.length)(h:∀(j:Nat) (x y:DV),xs[j]?=some x→ys[j]?=some y→DV.le x y):DV.le (.tup xs) (.tup ys):=fun O w v ⟨vs,h1,h2,h3⟩=>⟨vs,h1,by omega,reps_le hl h h3⟩
theorem le_tup2{a b x y:DV}(h1:DV.le a x)(h2:DV.le b y):DV.le (.tup [a,b]) (.tup [x,y]):=le_tup rfl fun j u v hu hv=>by
 match j with
 |0=>simp at hu hv;subst hu hv;exact h1
 |1=>simp at hu hv;subst hu hv;exact h2
 |j+2=>simp at hu
theorem le_eq{x y:DV}(h:x=y):DV.le x y:=h▸le_refl _
theorem bool_le{a b:Bool}(h:a=b):DV.le (.lit (.bool a)) (.lit (.bool b)):=h▸le_refl _
end Go.Proofs.YtoibhnpmemnlfaaGreatDoor.Av
