/- Joined texts. -/
import Derived.Test.YtoibhnpmemnlfaaGreatDoorQtAvPr
set_option linter.unusedVariables false
namespace Go.Proofs.YtoibhnpmemnlfaaGreatDoor.Fd
def vb(B:Nat)(l:List Nat):Nat:=l.foldr (fun x a=>x+B*a) 0
theorem vb_nil(B:Nat):vb B []=0:=rfl
theorem vb_cons(B x:Nat)(l:List Nat):vb B (x :: l)=x+B*vb B l:=rfl
theorem vb_take_succ(B:Nat)(l:List Nat)(k:Nat):vb B (l.take (k+1))=vb B (l.take k)+B ^ k*l.getD k 0:=by
 induction l generalizing k with
 |nil=>simp[vb_nil]
 |cons x l ih =>
  cases k with
  |zero=>simp[vb_cons,vb_nil]
  |succ k=>rw[List.take_succ_cons,List.take_succ_cons,vb_cons,vb_cons,ih,List.getD_cons_succ,Nat.mul_add,←Nat.mul_assoc,←Nat.pow_succ',Nat.add_assoc]
theorem vb_set_take(B:Nat)(o:List Nat)(k y:Nat)(h:k < o.length):vb B ((o.set k y).take (k+1))=vb B (o.take k)+B ^ k*y:=by
 rw[vb_take_succ,getD_set_eq _ _ _ h,List.take_set_of_le (Nat.le_refl _)]
theorem vb_set(B:Nat)(o:List Nat)(p y:Nat)(h:p < o.length):vb B (o.set p y)+B ^ p*o.getD p 0=vb B o+B ^ p*y:=by
 induction o generalizing p with
 |nil=>cases h
 |cons x o ih =>
  cases p with
  |zero=>simp[vb_cons];omega
  |succ p =>
   have:=ih p (by simpa using h)
   rw[List.set_cons_succ,vb_cons,vb_cons,List.getD_cons_succ,Nat.pow_succ,Nat.mul_comm _ B,Nat.mul_assoc,Nat.mul_assoc,Nat.add_assoc,Nat.add_assoc,←Nat.mul_add,←Nat.mul_add,this]
def Wo(B:Nat)(l:List Nat):Prop:=∀x∈l,x < B
theorem Wo.get{B:Nat}{a:List Nat}(h:Wo B a)(k:Nat)(hB:0 < B):a.getD k 0 < B:=by
 rw[List.getD_eq_getElem?_getD]
 cases hk:a[k]? with
 |none=>simpa using hB
 |some x=>exact h x (List.mem_of_getElem? hk)
theorem Wo.set{B:Nat}{o:List Nat}(h:Wo B o)(p y:Nat)(hy:y < B):Wo B (o.set p y):=by
 intro x hx
 rcases List.mem_or_eq_of_mem_set hx with h1|h1
 ·exact h x h1
 ·subst h1;exact hy
theorem vb_lt(B:Nat)(l:List Nat)(h:Wo B l)(hB:0 < B):vb B l < B ^ l.length:=by
 induction l with
 |nil=>exact Nat.one_pos
 |cons x l ih =>
  have h1:=h x List.mem_cons_self
  have h2:=ih fun y hy=>h y (List.mem_cons_of_mem _ hy)
  rw[vb_cons,List.length_cons,Nat.pow_succ']
  have:=Nat.mul_le_mul_left B (show vb B l+1≤B ^ l.length from h2)
  rw[Nat.mul_add] at this
  omega
theorem vb_take_all(B:Nat)(l:List Nat)(n:Nat)(h:l.length=n):vb B (l.take n)=vb B l:=by rw[←h,List.take_length]
theorem join_step(B n over borrow over' borrow' lo' x y c k:Nat)(R r0 C:List Nat)(hk:k < R.length)(hx:x=r0.getD k 0)(hc:c=C.getD k 0)
  (hv:vb B (R.take k)+n*vb B (C.take k)=vb B (r0.take k)+B ^ k*(over+borrow)) (h1:n*c+over=lo'+B*over') (h2:y+lo'+borrow=x+B*borrow') :
  vb B ((R.set k y).take (k+1))+n*vb B (C.take (k+1))=vb B (r0.take (k+1))+B ^ (k+1)*(over'+borrow'):=by
 rw[vb_set_take _ _ _ _ hk,vb_take_succ B C,vb_take_succ B r0,←hx,←hc,Nat.mul_add n,Nat.pow_succ,Nat.mul_assoc,Nat.mul_left_comm n]
 generalize B ^ k=P at *
 have e:y+n*c+(over+borrow)=x+B*(over'+borrow'):=by rw[Nat.mul_add];omega
 have e2:P*y+P*(n*c)+P*(over+borrow)=P*x+P*(B*(over'+borrow')):=by rw[←Nat.mul_add,←Nat.mul_add,e,Nat.mul_add]
 omega
theorem join_bound(B n over over' lo' c k:Nat)(C:List Nat)(hc:c=C.getD k 0)(hb:B ^ k*over≤n*vb B (C.take k))(h1:n*c+over=lo'+B*over'):B ^ (k+1)*over'≤n*vb B (C.take (k+1)):=by
 rw[vb_take_succ B C,←hc,Nat.mul_add n,Nat.pow_succ,Nat.mul_assoc,Nat.mul_left_comm n]
 generalize B ^ k=P at *
 have:=Nat.mul_le_mul_left P (show B*over'≤n*c+over by omega)
 rw[Nat.mul_add] at this
 omega
theorem add_step(B c c' s x o k:Nat)(R r1 O:List Nat)(hk:k < R.length)(hx:x=r1.getD k 0)(ho:o=O.getD k 0)(hv:vb B (R.take k)+B ^ k*c=vb B (r1.take k)+vb B (O.take k))(h:x+o+c=s+B*c') :
  vb B ((R.set k s).take (k+1))+B ^ (k+1)*c'=vb B (r1.take (k+1))+vb B (O.take (k+1)):=by
 rw[vb_set_take _ _ _ _ hk,vb_take_succ B r1,vb_take_succ B O,←hx,←ho,Nat.pow_succ,Nat.mul_assoc]
 generalize B ^ k=P at *
 have e2:P*s+P*(B*c')=P*x+P*o+P*c:=by rw[←Nat.mul_add,←Nat.mul_add,←Nat.mul_add,h]
 omega
theorem push_step(B S p p' x y k V:Nat)(R r0:List Nat)(hk:k < R.length)(hx:x=r0.getD k 0)(hv:vb B (R.take k)+B ^ k*p=S*vb B (r0.take k)+V)(h:y+B*p'=x*S+p) :
  vb B ((R.set k y).take (k+1))+B ^ (k+1)*p'=S*vb B (r0.take (k+1))+V:=by
 rw[vb_set_take _ _ _ _ hk,vb_take_succ B r0,←hx,Nat.pow_succ,Nat.mul_assoc,Nat.mul_add S,Nat.mul_left_comm S]
 generalize B ^ k=P at *
 have e2:P*y+P*(B*p')=P*(x*S)+P*p:=by rw[←Nat.mul_add,←Nat.mul_add,h]
 rw[Nat.mul_comm S x]
 omega
theorem prod_in(B i j over over' s a b z V:Nat)(o y:List Nat)(hp:i+j < o.length)(hb:b=y.getD j 0)(hz:z=o.getD (i+j) 0)(hv:vb B o+B ^ (i+j)*over=V+B ^ i*(a*vb B (y.take j)))(h:a*b+over+z=s+B*over') :
  vb B (o.set (i+j) s)+B ^ (i+(j+1))*over'=V+B ^ i*(a*vb B (y.take (j+1))):=by
 have h1:=vb_set B o (i+j) s hp
 rw[←hz] at h1
 rw[vb_take_succ B y,←hb,Nat.mul_add a,Nat.mul_add (B ^ i),←Nat.add_assoc V,←hv,show i+(j+1)=i+j+1 by omega,Nat.pow_succ,Nat.mul_assoc,Nat.mul_left_comm a,←Nat.mul_assoc (B ^ i) (B ^ j),←Nat.pow_add]
 generalize B ^ (i+j)=P at *
 have e2:P*s+P*(B*over')=P*(a*b)+P*over+P*z:=by rw[←Nat.mul_add,←Nat.mul_add,←Nat.mul_add,h]
 omega
theorem prod_row(B i over a V:Nat)(o y:List Nat)(n:Nat)(hn:y.length=n)(hp:i+n < o.length)(hz:o.getD (i+n) 0=0)(hv:vb B o+B ^ (i+n)*over=V+B ^ i*(a*vb B (y.take n))) :
  vb B (o.set (i+n) over)=V+B ^ i*(a*vb B y):=by
 have h1:=vb_set B o (i+n) over hp
 rw[hz,Nat.mul_zero,Nat.add_zero] at h1
 rw[h1,hv,vb_take_all B y n hn]
theorem prod_next(B i a:Nat)(x y:List Nat)(ha:a=x.getD i 0):vb B (x.take i)*vb B y+B ^ i*(a*vb B y)=vb B (x.take (i+1))*vb B y:=by
 rw[vb_take_succ,Nat.add_mul,ha,Nat.mul_assoc]
def c125:Nat:=27742317777372353535851937790883648493
def p252:Nat:=7237005577332262213973186563042994240829374041602535252466099000494570602496
theorem Lq_split:Lq=p252+c125:=by rw[Lq_eq];rfl
theorem c125_lt:c125*4294967296 < p252:=by decide
theorem c125_lt':4294967296*c125 < p252:=by decide
theorem p252_4:p252*16=18446744073709551616 ^ 4:=by decide
theorem c125_v:vb 18446744073709551616 [6346243789798364141,1503914060200516822,0,0]=c125:=by decide +kernel
theorem Lq_v:vb 18446744073709551616 [6346243789798364141,1503914060200516822,0,1152921504606846976]=Lq:=by rw[Lq_eq];decide +kernel
attribute [irreducible] c125 p252
theorem joined_ge(v n R:Nat)(hv:v < p252)(h:R+n*c125=v):R=(v+n*p252)%Lq:=by
 have:v+n*p252=R+Lq*n:=by rw[Lq_split,Nat.add_mul,Nat.mul_comm n p252,Nat.mul_comm c125 n];omega
 rw[this,Nat.add_mul_mod_self_left,Nat.mod_eq_of_lt (by rw[Lq_split];omega)]
theorem joined_lt(v n R R2 B4 c2:Nat)(hv:v < p252)(hn:n≤4294967296)(hB:B4=p252*16)(hR:R < B4)(h:R+n*c125=v+B4)(h2:R2+B4*c2=R+Lq)(hR2:R2 < B4):R2=(v+n*p252)%Lq:=by
 have hnc:n*c125 < p252:=Nat.lt_of_le_of_lt (Nat.mul_le_mul_right _ hn) c125_lt'
 have hL:=Lq_split
 have hc:c125*1≤c125*4294967296:=Nat.mul_le_mul_left _ (by decide)
 have hcl:=c125_lt
 have hvn:v < n*c125:=by omega
 have c1:c2=1:=by
  rcases Nat.lt_or_ge c2 1 with h3|h3
  ·obtain rfl:c2=0:=by omega
   omega
  ·rcases Nat.lt_or_ge c2 2 with h4|h4
   ·omega
   ·have:=Nat.mul_le_mul_left B4 h4
    omega
 subst c1
 have hn1:1≤n:=by
  rcases Nat.eq_zero_or_pos n with h3|h3
  ·subst h3;omega
  ·exact h3
 obtain⟨m,rfl⟩:∃m,n=m+1:=⟨n - 1,by omega⟩
 have e:v+(m+1)*p252=R2+Lq*m:=by
  have e1:Lq*m=m*p252+m*c125:=by rw[hL,Nat.add_mul,Nat.mul_comm p252,Nat.mul_comm c125]
  have e2:(m+1)*p252=m*p252+p252:=by rw[Nat.add_mul,Nat.one_mul]
  have e3:(m+1)*c125=m*c125+c125:=by rw[Nat.add_mul,Nat.one_mul]
  omega
 rw[e,Nat.add_mul_mod_self_left,Nat.mod_eq_of_lt (by omega)]
theorem join_over(n over borrow vR v B4:Nat)(hn:n≤4294967296)(hB:B4=p252*16)(hR:vR < B4)(hb:B4*over≤n*c125):over=0:=by
 have hnc:n*c125 < p252:=Nat.lt_of_le_of_lt (Nat.mul_le_mul_right _ hn) c125_lt'
 rcases Nat.eq_zero_or_pos over with h|h
 ·exact h
 ·have:=Nat.mul_le_mul_left B4 (show 1≤over from h)
  omega
end Go.Proofs.YtoibhnpmemnlfaaGreatDoor.Fd
