/- Joined texts. -/
import Derived.OrdersHeld
import Derived.Test.YtnnfpmebopgogaaDoorQrGnA
set_option linter.unusedVariables false
namespace Go.Proofs.YtnnfpmebopgogaaDoor.Gn
open Go.RowKit Go.Deep
theorem count_lt(f g:Nat→Bool)(h:∀j,g j=true→f j=true)(i:Nat)(h1:f i=true)(h2:g i=false):∀n,i < n→(List.range n).countP g < (List.range n).countP f:=by
 have le:∀n,(List.range n).countP g≤(List.range n).countP f:=fun n=>List.countP_mono_left fun x _ hx=>h x hx
 intro n
 induction n with
 |zero=>intro h;omega
 |succ n ih =>
  intro hi
  rw[List.range_succ,List.countP_append,List.countP_append]
  have:=le n
  by_cases e:i=n
  ·subst e
   simp only[List.countP_cons,List.countP_nil,h1,h2]
   simp;omega
  ·have:=ih (by omega)
   have q : [n].countP g≤[n].countP f:=List.countP_mono_left fun x _ hx=>h x hx
   omega
section
variable {P:Program} {ops:Array Oper} {Q:Exit→Act→World→Prop} {md:Region.Mode}
def unl(ops:Array Oper)(L:Array Bool):Nat:=(List.range ops.size).countP fun i=>!L.getD i true
theorem unl_lt{L:Array Bool}{i:Nat}(h:i∈Region.ready md ops L):unl ops (L.setIfInBounds i true) < unl ops L:=by
 obtain⟨h1,o,ho,-⟩:=mem_ready.1 h
 have hi:i < ops.size:=(Array.getElem?_eq_some_iff.1 ho).1
 have hl:i < L.size:=by
  rcases Nat.lt_or_ge i L.size with h2|h2
  ·exact h2
  ·simp[Array.getElem?_eq_none h2] at h1
 refine count_lt _ _ (fun j hj=>?_) i (by simpa using h1) (by simp[hl]) _ hi
 by_cases e:i=j
 ·subst e;simpa using h1
 ·rwa [getD_set_ne true e] at hj
theorem wpAny_inv{I:Array Bool→Act→World→Prop}
  (hs:∀L a w,I L a w→∀i∈Region.ready md ops L,wpOp P ops Q i (fun a' w'=>I (L.setIfInBounds i true) a' w') a w)
  (he:∀L a w,I L a w→Region.ready md ops L=[]→Q .normal a w) :
  ∀(n:Nat) (L:Array Bool) (a:Act) (w:World),unl ops L≤n→I L a w→wpAny P md ops Q n L a w:=by
 intro n
 induction n with
 |zero =>
  intro L a w hn hI
  have hr:Region.ready md ops L=[]:=by
   cases hr:Region.ready md ops L with
   |nil=>rfl
   |cons i r =>
    have:=unl_lt (md:=md) (ops:=ops) (L:=L) (i:=i) (by rw[hr];exact List.mem_cons_self)
    omega
  exact⟨hr,he _ _ _ hI hr⟩
 |succ n ih =>
  intro L a w hn hI
  refine⟨he _ _ _ hI,fun i hi=>?_⟩
  have:=unl_lt hi
  exact wpOp_mono (fun a' w' h=>ih _ a' w' (by omega) h) (hs _ _ _ hI i hi)
def fill:List (Option Tmp)→(Nat→Value)→Nat→Array Value→Array Value
 | [],_,_,t=>t
 |some d :: r,γ,k,t=>fill r γ (k+1) (t.setIfInBounds d (γ k))
 |none :: r,γ,k,t=>fill r γ (k+1) t
def upd(γ:Nat→Value)(i:Nat)(v:Value):Nat→Value:=fun j=>if j=i then v else γ j
def apart_:List (Option Tmp)→Bool
 | []=>true
 |some d :: r=>!r.contains (some d) && apart_ r
 |none :: r=>apart_ r
theorem fill_congr:∀(r:List (Option Tmp)) (γ γ':Nat→Value) (k:Nat) (t:Array Value),(∀j,k≤j→γ j=γ' j)→fill r γ k t=fill r γ' k t:=by
 intro r
 induction r with
 |nil=>intros;rfl
 |cons d r ih =>
  intro γ γ' k t h
  cases d with
  |none=>exact ih _ _ _ _ fun j hj=>h j (by omega)
  |some d =>
   rw[fill,fill,h k (Nat.le_refl _)]
   exact ih _ _ _ _ fun j hj=>h j (by omega)
theorem fill_set:∀(r:List (Option Tmp)) (γ:Nat→Value) (k d:Nat) (t:Array Value) (v:Value),r.contains (some d)=false→fill r γ k (t.setIfInBounds d v)=(fill r γ k t).setIfInBounds d v:=by
 intro r
 induction r with
 |nil=>intros;rfl
 |cons e r ih =>
  intro γ k d t v h
  cases e with
  |none=>exact ih _ _ _ _ _ (by simpa using h)
  |some e =>
   have hne:d≠e:=by rintro rfl;simp at h
   have h2:r.contains (some d)=false:=by
    simp only[List.contains_cons,Bool.or_eq_false_iff] at h
    exact h.2
   rw[fill,fill,Array.setIfInBounds_comm _ _ hne]
   exact ih _ _ _ _ _ h2
theorem fill_upd:∀(r:List (Option Tmp)) (γ:Nat→Value) (k i:Nat) (t:Array Value) (v:Value) (d:Option Tmp),apart_ r=true→r[i]?=some d →
  fill r (upd γ (k+i) v) k t=(match d with|some d=>(fill r γ k t).setIfInBounds d v|none=>fill r γ k t):=by
 intro r
 induction r with
 |nil=>intro γ k i t v d _ h;simp at h
 |cons e r ih =>
  intro γ k i t v d ha h
  cases i with
  |zero =>
   simp only[List.getElem?_cons_zero,Option.some.injEq] at h
   subst h
   have hc:∀t',fill r (upd γ (k+0) v) (k+1) t'=fill r γ (k+1) t':=fun t'=>fill_congr _ _ _ _ _ fun j hj=>by
    unfold upd;rw[if_neg (by omega)]
   cases e with
   |none=>exact hc t
   |some e =>
    rw[fill,hc,fill]
    have h2:r.contains (some e)=false:=by simp[apart_] at ha;simpa using ha.1
    show _=(fill r γ (k+1) (t.setIfInBounds e (γ k))).setIfInBounds e v
    rw[fill_set _ _ _ _ _ _ h2,fill_set _ _ _ _ _ _ h2,show upd γ (k+0) v k=v from by simp[upd]]
    simp
  |succ i =>
   have hu:upd γ (k+(i+1)) v k=γ k:=by unfold upd;rw[if_neg (by omega)]
   have h':r[i]?=some d:=by simpa using h
   have ha':apart_ r=true:=by
    cases e with
    |none=>exact ha
    |some e=>simp[apart_] at ha;exact ha.2
   cases e with
   |none =>
    rw[fill,fill,show k+(i+1)=(k+1)+i by omega]
    exact ih _ _ _ _ _ _ ha' h'
   |some e =>
    rw[fill,fill,hu,show k+(i+1)=(k+1)+i by omega]
    exact ih _ _ _ _ _ _ ha' h'
theorem fill_same:∀(r:List (Option Tmp)) (γ:Nat→Value) (k:Nat) (t:Array Value),(∀i d,r[i]?=some (some d)→γ (k+i)=t.getD d undef)→fill r γ k t=t:=by
 intro r
 induction r with
 |nil=>intros;rfl
 |cons e r ih =>
  intro γ k t h
  have h':∀i d,r[i]?=some (some d)→γ (k+1+i)=t.getD d undef:=fun i d hd=>by
   have:=h (i+1) d (by simpa using hd)
   rwa [show k+(i+1)=k+1+i by omega] at this
  cases e with
  |none=>exact ih _ _ _ h'
  |some e =>
   have h0:=h 0 e rfl
   have e1:t.setIfInBounds e (γ k)=t:=by
    rw[show γ k=t.getD e undef from h0]
    apply Array.ext_getElem?
    intro j
    rw[Array.getElem?_setIfInBounds]
    split
    ·rename_i hj
     subst hj
     split
     ·rename_i hlt
      simp[hlt]
     ·rename_i hlt
      rw[Array.getElem?_eq_none (by omega)]
    ·rfl
   rw[fill,e1]
   exact ih _ _ _ h'
def dep(o:Oper)(j:Nat):Bool:=o.after.any fun e=>Region.binds .any e && e.on == j
def late(o:Oper)(i:Nat):Bool:=o.after.all fun e=>!Region.binds .any e || e.on < i
def lates:List Oper→Nat→Bool
 | [],_=>true
 |o :: r,i=>late o i && lates r (i+1)
theorem lates_at:∀(l:List Oper) (k i:Nat) (o:Oper),lates l k=true→l[i]?=some o→late o (k+i)=true:=by
 intro l
 induction l with
 |nil=>intro k i o _ h;simp at h
 |cons x l ih =>
  intro k i o hl h
  simp only[lates,Bool.and_eq_true] at hl
  cases i with
  |zero=>simp at h;subst h;exact hl.1
  |succ i =>
   rw[show k+(i+1)=k+1+i by omega]
   exact ih _ _ _ hl.2 (by simpa using h)
def fr(ops:Array Oper)(a:Act)(γ:Nat→Value):Act:=⟨fill (ops.toList.map (·.dst)) γ 0 a.tmps,a.defers⟩
theorem fr_put{a:Act}{γ:Nat→Value}{i:Nat}{o:Oper}(ho:ops[i]?=some o)(ha:apart_ (ops.toList.map (·.dst))=true)(v:Value):(fr ops a γ).put o.dst v=fr ops a (upd γ i v):=by
 have h:(ops.toList.map (·.dst))[i]?=some o.dst:=by
  rw[List.getElem?_map,Array.getElem?_toList,ho];rfl
 have:=fill_upd _ γ 0 i a.tmps v _ ha h
 rw[Nat.zero_add] at this
 unfold fr
 rw[this]
 cases o.dst <;> rfl
theorem fr_self(a:Act):fr ops a (fun i=>match(ops.toList.map (·.dst))[i]? with|some (some d)=>a.tmps.getD d undef|_=>undef)=a:=by
 unfold fr
 rw[fill_same]
 intro i d h
 rw[Nat.zero_add,h]
def Owes(P:Program)(ops:Array Oper)(a:Act)(T:Nat→Value→World→Prop)(J:(Nat→Bool)→(Nat→Value)→World→Prop)(Chg:World→World→Prop)(i:Nat)(o:Oper):Prop :=
 ∀(Q:Exit→Act→World→Prop) (K:Act→World→Prop) (L:Nat→Bool) (γ:Nat→Value) (w:World),L i=false→(∀j,dep o j=true→L j=true)→(∀j o',ops[j]?=some o'→L j=true→∀d,dep o' d=true→L d=true)→(∀j d,L j=false→(ops.toList.map (·.dst))[j]?=some (some d)→γ j=a.tmps.getD d undef) →  J L γ w→(∀j,dep o j=true→T j (γ j) w) →
  (∀v w',T i v w'→J (fun j=>if j=i then true else L j) (upd γ i v) w'→Chg w w'→K ((fr ops a γ).put o.dst v) w') →
  if Region.wanted o (yielded ops (fr ops a γ).tmps)=true then o.wp P (fr ops a γ) w K Q else K ((fr ops a γ).put o.dst undef) w
def Each:List Oper→Nat→(Nat→Oper→Prop)→Prop
 | [],_,_=>True
 |o :: r,i,p=>p i o∧Each r (i+1) p
theorem each_at:∀(l:List Oper) (k i:Nat) (o:Oper) (p:Nat→Oper→Prop),Each l k p→l[i]?=some o→p (k+i) o:=by
 intro l
 induction l with
 |nil=>intro k i o p _ h;simp at h
 |cons x l ih =>
  intro k i o p hl h
  cases i with
  |zero=>simp at h;subst h;exact hl.1
  |succ i =>
   rw[show k+(i+1)=k+1+i by omega]
   exact ih _ _ _ _ hl.2 (by simpa using h)
end
end Go.Proofs.YtnnfpmebopgogaaDoor.Gn
