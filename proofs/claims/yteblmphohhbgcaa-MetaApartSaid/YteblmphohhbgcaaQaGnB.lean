/- Joined texts. -/
import Derived.OrdersHeld
import Derived.Test.YteblmphohhbgcaaQaGnA
set_option linter.unusedVariables false
namespace Go.Proofs.Yteblmphohhbgcaa.Gn
open Go.RowKit Go.Deep
theorem count_lt(f g:Nat→Bool)(h:∀j,g j=true→f j=true)(i:Nat)(h1:f i=true)(h2:g i=false):∀n,i < n→(List.range n).countP g < (List.range n).countP f:=by
 have le:∀n,(List.range n).countP g≤(List.range n).countP f:=fun n=>List.countP_mono_left fun x _ hx=>h x hx
 intro n
 induction n with
 |zero=>intro h;omega
 |succ n ih =>
  intro hi
  rw[List.range_succ,List.countP_append,List.countP_append]
  have:=le n
  by_cases e:i=n
  ·subst e
   simp only[List.countP_cons,List.countP_nil,h1,h2]
   simp;omega
  ·have:=ih (by omega)
   have q : [n].countP g≤[n].countP f:=List.countP_mono_left fun x _ hx=>h x hx
   omega
section
variable {P:Program} {ops:Array Oper} {Q:Exit→Act→World→Prop} {md:Region.Mode}
def unl(ops:Array Oper)(L:Array Bool):Nat:=(List.range ops.size).countP fun i=>!L.getD i true
theorem unl_lt{L:Array Bool}{i:Nat}(h:i∈Region.ready md ops L):unl ops (L.setIfInBounds i true) < unl ops L:=by
 obtain⟨h1,o,ho,-⟩:=mem_ready.1 h
 have hi:i < ops.size:=(Array.getElem?_eq_some_iff.1 ho).1
 have hl:i < L.size:=by
  rcases Nat.lt_or_ge i L.size with h2|h2
  ·exact h2
  ·simp[Array.getElem?_eq_none h2] at h1
 refine count_lt _ _ (fun j hj=>?_) i (by simpa using h1) (by simp[hl]) _ hi
 by_cases e:i=j
 ·subst e;simpa using h1
 ·rwa [getD_set_ne true e] at hj
theorem wpAny_inv{I:Array Bool→Act→World→Prop}
  (hs:∀L a w,I L a w→∀i∈Region.ready md ops L,wpOp P ops Q i (fun a' w'=>I (L.setIfInBounds i true) a' w') a w)
  (he:∀L a w,I L a w→Region.ready md ops L=[]→Q .normal a w) :
  ∀(n:Nat) (L:Array Bool) (a:Act) (w:World),unl ops L≤n→I L a w→wpAny P md ops Q n L a w:=by
 intro n
 induction n with
 |zero =>
  intro L a w hn hI
  have hr:Region.ready md ops L=[]:=by
   cases hr:Region.ready md ops L with
   |nil=>rfl
   |cons i r =>
    have:=unl_lt (md:=md) (ops:=ops) (L:=L) (i:=i) (by rw[hr];exact List.mem_cons_self)
    omega
  exact⟨hr,he _ _ _ hI hr⟩
 |succ n ih =>
  intro L a w hn hI
  refine⟨he _ _ _ hI,fun i hi=>?_⟩
  have:=unl_lt hi
  exact wpOp_mono (fun a' w' h=>ih _ a' w' (by omega) h) (hs _ _ _ hI i hi)
theorem wpOps_inv{I:Array Bool→Act→World→Prop}
  (hs:∀L a w,I L a w→∀i∈Region.ready md ops L,wpOp P ops Q i (fun a' w'=>I (L.setIfInBounds i true) a' w') a w)
  (he:∀L a w,I L a w→Region.ready md ops L=[]→Q .normal a w)
  (hl:∀i o,ops[i]?=some o→∀e∈o.after,Region.binds md e=true→e.on < i) :
  ∀(m k:Nat) (L:Array Bool) (a:Act) (w:World),k+m=ops.size→L.size=ops.size→(∀j,j < k→L.getD j false=true)→(∀j,k≤j→j < ops.size→L.getD j true=false)→I L a w→wpOps P ops Q (List.range' k m) a w:=by
 intro m
 induction m with
 |zero =>
  intro k L a w hk hsz h1 h2 hI
  refine he _ _ _ hI ?_
  cases hr:Region.ready md ops L with
  |nil=>rfl
  |cons i r =>
   exfalso
   obtain⟨h3,o,ho,-⟩:=mem_ready.1 (show i∈Region.ready md ops L by rw[hr];exact List.mem_cons_self)
   have hi:i < ops.size:=(Array.getElem?_eq_some_iff.1 ho).1
   have:=h1 i (by omega)
   simp[show i < L.size by omega] at this h3
   rw[h3] at this
   cases this
 |succ m ih =>
  intro k L a w hk hsz h1 h2 hI
  rw[List.range'_succ,wpOps_cons]
  have hkl:k < ops.size:=by omega
  have ho:ops[k]?=some ops[k]:=Array.getElem?_eq_getElem hkl
  have hr:k∈Region.ready md ops L:=mem_ready.2 ⟨h2 k (Nat.le_refl _) hkl,_,ho,fun e he hb=>h1 _ (hl _ _ ho e he hb)⟩
  refine wpOp_mono (fun a' w' h=>ih (k+1) _ a' w' (by omega) (by simpa using hsz) (fun j hj=>?_) (fun j hj hj2=>?_) h) (hs _ _ _ hI k hr)
  ·by_cases e:j=k
   ·subst e;simp[show j < L.size by omega]
   ·rw[getD_set_ne false (Ne.symm e)];exact h1 j (by omega)
  ·rw[getD_set_ne true (by omega)];exact h2 j (by omega) hj2
def fill:List (Option Tmp)→(Nat→Value)→Nat→Array Value→Array Value
 | [],_,_,t=>t
 |some d :: r,γ,k,t=>fill r γ (k+1) (t.setIfInBounds d (γ k))
 |none :: r,γ,k,t=>fill r γ (k+1) t
def upd(γ:Nat→Value)(i:Nat)(v:Value):Nat→Value:=fun j=>if j=i then v else γ j
def apart_:List (Option Tmp)→Bool
 | []=>true
 |some d :: r=>!r.contains (some d) && apart_ r
 |none :: r=>apart_ r
theorem fill_congr:∀(r:List (Option Tmp)) (γ γ':Nat→Value) (k:Nat) (t:Array Value),(∀j,k≤j→γ j=γ' j)→fill r γ k t=fill r γ' k t:=by
 intro r
 induction r with
 |nil=>intros;rfl
 |cons d r ih =>
  intro γ γ' k t h
  cases d with
  |none=>exact ih _ _ _ _ fun j hj=>h j (by omega)
  |some d =>
   rw[fill,fill,h k (Nat.le_refl _)]
   exact ih _ _ _ _ fun j hj=>h j (by omega)
theorem fill_set:∀(r:List (Option Tmp)) (γ:Nat→Value) (k d:Nat) (t:Array Value) (v:Value),r.contains (some d)=false→fill r γ k (t.setIfInBounds d v)=(fill r γ k t).setIfInBounds d v:=by
 intro r
 induction r with
 |nil=>intros;rfl
 |cons e r ih =>
  intro γ k d t v h
  cases e with
  |none=>exact ih _ _ _ _ _ (by simpa using h)
  |some e =>
   have hne:d≠e:=by rintro rfl;simp at h
   have h2:r.contains (some d)=false:=by
    simp only[List.contains_cons,Bool.or_eq_false_iff] at h
    exact h.2
   rw[fill,fill,Array.setIfInBounds_comm _ _ hne]
   exact ih _ _ _ _ _ h2
theorem fill_upd:∀(r:List (Option Tmp)) (γ:Nat→Value) (k i:Nat) (t:Array Value) (v:Value) (d:Option Tmp),apart_ r=true→r[i]?=some d →
  fill r (upd γ (k+i) v) k t=(match d with|some d=>(fill r γ k t).setIfInBounds d v|none=>fill r γ k t):=by
 intro r
 induction r with
 |nil=>intro γ k i t v d _ h;simp at h
 |cons e r ih =>
  intro γ k i t v d ha h
  cases i with
  |zero =>
   simp only[List.getElem?_cons_zero,Option.some.injEq] at h
   subst h
   have hc:∀t',fill r (upd γ (k+0) v) (k+1) t'=fill r γ (k+1) t':=fun t'=>fill_congr _ _ _ _ _ fun j hj=>by
    unfold upd;rw[if_neg (by omega)]
   cases e with
   |none=>exact hc t
   |some e =>
    rw[fill,hc,fill]
    have h2:r.contains (some e)=false:=by simp[apart_] at ha;simpa using ha.1
    show _=(fill r γ (k+1) (t.setIfInBounds e (γ k))).setIfInBounds e v
    rw[fill_set _ _ _ _ _ _ h2,fill_set _ _ _ _ _ _ h2,show upd γ (k+0) v k=v from by simp[upd]]
    simp
  |succ i =>
   have hu:upd γ (k+(i+1)) v k=γ k:=by unfold upd;rw[if_neg (by omega)]
   have h':r[i]?=some d:=by simpa using h
   have ha':apart_ r=true:=by
    cases e with
    |none=>exact ha
    |some e=>simp[apart_] at ha;exact ha.2
   cases e with
   |none =>
    rw[fill,fill,show k+(i+1)=(k+1)+i by omega]
    exact ih _ _ _ _ _ _ ha' h'
   |some e =>
    rw[fill,fill,hu,show k+(i+1)=(k+1)+i by omega]
    exact ih _ _ _ _ _ _ ha' h'
theorem fill_same:∀(r:List (Option Tmp)) (γ:Nat→Value) (k:Nat) (t:Array Value),(∀i d,r[i]?=some (some d)→γ (k+i)=t.getD d undef)→fill r γ k t=t:=by
 intro r
 induction r with
 |nil=>intros;rfl
 |cons e r ih =>
  intro γ k t h
  have h':∀i d,r[i]?=some (some d)→γ (k+1+i)=t.getD d undef:=fun i d hd=>by
   have:=h (i+1) d (by simpa using hd)
   rwa [show k+(i+1)=k+1+i by omega] at this
  cases e with
  |none=>exact ih _ _ _ h'
  |some e =>
   have h0:=h 0 e rfl
   have e1:t.setIfInBounds e (γ k)=t:=by
    rw[show γ k=t.getD e undef from h0]
    apply Array.ext_getElem?
    intro j
    rw[Array.getElem?_setIfInBounds]
    split
    ·rename_i hj
     subst hj
     split
     ·rename_i hlt
      simp[hlt]
     ·rename_i hlt
      rw[Array.getElem?_eq_none (by omega)]
    ·rfl
   rw[fill,e1]
   exact ih _ _ _ h'
def dep(o:Oper)(j:Nat):Bool:=o.after.any fun e=>Region.binds .any e && e.on == j
def late(o:Oper)(i:Nat):Bool:=o.after.all fun e=>!Region.binds .any e || e.on < i
def lates:List Oper→Nat→Bool
 | [],_=>true
 |o :: r,i=>late o i && lates r (i+1)
theorem lates_at:∀(l:List Oper) (k i:Nat) (o:Oper),lates l k=true→l[i]?=some o→late o (k+i)=true:=by
 intro l
 induction l with
 |nil=>intro k i o _ h;simp at h
 |cons x l ih =>
  intro k i o hl h
  simp only[lates,Bool.and_eq_true] at hl
  cases i with
  |zero=>simp at h;subst h;exact hl.1
  |succ i =>
   rw[show k+(i+1)=k+1+i by omega]
   exact ih _ _ _ hl.2 (by simpa using h)
def fr(ops:Array Oper)(a:Act)(γ:Nat→Value):Act:=⟨fill (ops.toList.map (·.dst)) γ 0 a.tmps,a.defers⟩
theorem fr_put{a:Act}{γ:Nat→Value}{i:Nat}{o:Oper}(ho:ops[i]?=some o)(ha:apart_ (ops.toList.map (·.dst))=true)(v:Value):(fr ops a γ).put o.dst v=fr ops a (upd γ i v):=by
 have h:(ops.toList.map (·.dst))[i]?=some o.dst:=by
  rw[List.getElem?_map,Array.getElem?_toList,ho];rfl
 have:=fill_upd _ γ 0 i a.tmps v _ ha h
 rw[Nat.zero_add] at this
 unfold fr
 rw[this]
 cases o.dst <;> rfl
theorem fr_self(a:Act):fr ops a (fun i=>match(ops.toList.map (·.dst))[i]? with|some (some d)=>a.tmps.getD d undef|_=>undef)=a:=by
 unfold fr
 rw[fill_same]
 intro i d h
 rw[Nat.zero_add,h]
def Owes(P:Program)(ops:Array Oper)(a:Act)(T:Nat→Value→World→Prop)(J:(Nat→Bool)→(Nat→Value)→World→Prop)(Chg:World→World→Prop)(i:Nat)(o:Oper):Prop :=
 ∀(Q:Exit→Act→World→Prop) (K:Act→World→Prop) (L:Nat→Bool) (γ:Nat→Value) (w:World),L i=false→(∀j,dep o j=true→L j=true)→(∀j o',ops[j]?=some o'→L j=true→∀d,dep o' d=true→L d=true)→(∀j d,L j=false→(ops.toList.map (·.dst))[j]?=some (some d)→γ j=a.tmps.getD d undef) →  J L γ w→(∀j,dep o j=true→T j (γ j) w) →
  (∀v w',T i v w'→J (fun j=>if j=i then true else L j) (upd γ i v) w'→Chg w w'→K ((fr ops a γ).put o.dst v) w') →
  if Region.wanted o (yielded ops (fr ops a γ).tmps)=true then o.wp P (fr ops a γ) w K Q else K ((fr ops a γ).put o.dst undef) w
def Each:List Oper→Nat→(Nat→Oper→Prop)→Prop
 | [],_,_=>True
 |o :: r,i,p=>p i o∧Each r (i+1) p
theorem each_at:∀(l:List Oper) (k i:Nat) (o:Oper) (p:Nat→Oper→Prop),Each l k p→l[i]?=some o→p (k+i) o:=by
 intro l
 induction l with
 |nil=>intro k i o p _ h;simp at h
 |cons x l ih =>
  intro k i o p hl h
  cases i with
  |zero=>simp at h;subst h;exact hl.1
  |succ i =>
   rw[show k+(i+1)=k+1+i by omega]
   exact ih _ _ _ _ hl.2 (by simpa using h)
theorem wp_region_free {id : Nat} {b : Bool} {a : Act} {w : World} (T : Nat → Value → World → Prop) (J : (Nat → Bool) → (Nat → Value) → World → Prop) (Chg : World → World → Prop)
    (hm : P.follows .mixedOrders = true) (ha : apart_ (ops.toList.map (·.dst)) = true) (hl : lates ops.toList 0 = true)
    (stab : ∀ j v w w', T j v w → Chg w w' → T j v w')
    (h0 : ∀ γ, J (fun _ => false) γ w.drew ∧ J (fun _ => false) γ w)
    (each : Each ops.toList 0 (Owes P ops a T J Chg))
    (fin : ∀ L γ w', (∀ i, i < ops.size → L i = true) → (∀ i, i < ops.size → T i (γ i) w') → J L γ w' → Q .normal (fr ops a γ) w') :
    (Code.region id ops b).wp P Q a w := by
  have key : (∀ L a' w', (∃ γ, a' = fr ops a γ ∧ L.size = ops.size ∧ (∀ j o', ops[j]? = some o' → L.getD j false = true → ∀ d, dep o' d = true → L.getD d false = true) ∧ (∀ j d, L.getD j false = false → (ops.toList.map (·.dst))[j]? = some (some d) → γ j = a.tmps.getD d undef) ∧ (∀ j, L.getD j false = true → T j (γ j) w') ∧ J (fun j => L.getD j false) γ w') → ∀ i ∈ Region.ready .any ops L, wpOp P ops Q i (fun a' w' => ∃ γ, a' = fr ops a γ ∧ (L.setIfInBounds i true).size = ops.size ∧ (∀ j o', ops[j]? = some o' → (L.setIfInBounds i true).getD j false = true → ∀ d, dep o' d = true → (L.setIfInBounds i true).getD d false = true) ∧ (∀ j d, (L.setIfInBounds i true).getD j false = false → (ops.toList.map (·.dst))[j]? = some (some d) → γ j = a.tmps.getD d undef) ∧ (∀ j, (L.setIfInBounds i true).getD j false = true → T j (γ j) w') ∧ J (fun j => (L.setIfInBounds i true).getD j false) γ w') a' w') ∧
      (∀ L a' w', (∃ γ, a' = fr ops a γ ∧ L.size = ops.size ∧ (∀ j o', ops[j]? = some o' → L.getD j false = true → ∀ d, dep o' d = true → L.getD d false = true) ∧ (∀ j d, L.getD j false = false → (ops.toList.map (·.dst))[j]? = some (some d) → γ j = a.tmps.getD d undef) ∧ (∀ j, L.getD j false = true → T j (γ j) w') ∧ J (fun j => L.getD j false) γ w') → Region.ready .any ops L = [] → Q .normal a' w') := by
   refine ⟨?_, ?_⟩
   · rintro L a' w' ⟨γ, rfl, hsz, hcl, hun, hT, hJ⟩ i hi
     obtain ⟨h1, o, ho, hdep⟩ := mem_ready.1 hi
     have hil : i < L.size := by
       have := (Array.getElem?_eq_some_iff.1 ho).1
       omega
     have h1' : L.getD i false = false := by
       simp [hil] at h1 ⊢; exact h1
     have hd : ∀ j, dep o j = true → L.getD j false = true := fun j hj => by
       obtain ⟨e, he, hb⟩ := Array.any_eq_true'.1 hj
       simp only [Bool.and_eq_true, beq_iff_eq] at hb
       rw [← hb.2]
       exact hdep e he hb.1
     have hL : (fun j => (L.setIfInBounds i true).getD j false) = fun j => if j = i then true else L.getD j false := by
       funext j
       by_cases e : j = i
       · subst e; simp [hil]
       · rw [if_neg e, getD_set_ne false (Ne.symm e)]
     have hcl2 : ∀ j o', ops[j]? = some o' → (L.setIfInBounds i true).getD j false = true → ∀ d, dep o' d = true → (L.setIfInBounds i true).getD d false = true := by
       intro j o' hj hlj d hdj
       have up : L.getD d false = true → (L.setIfInBounds i true).getD d false = true := fun h => getD_set_true h
       by_cases e : j = i
       · subst e
         rw [ho] at hj
         obtain rfl := Option.some.inj hj
         exact up (hd d hdj)
       · rw [getD_set_ne false (Ne.symm e)] at hlj
         exact up (hcl j o' hj hlj d hdj)
     have hun2 : ∀ v, ∀ j d, (L.setIfInBounds i true).getD j false = false → (ops.toList.map (·.dst))[j]? = some (some d) → upd γ i v j = a.tmps.getD d undef := by
       intro v j d hj hdj
       have hji : j ≠ i := by
         rintro rfl
         simp [hil] at hj
       rw [getD_set_ne false (Ne.symm hji)] at hj
       rw [show upd γ i v j = γ j by simp [upd, hji]]
       exact hun j d hj hdj
     refine wpOp_step ho fun K hK => ?_
     have := each_at _ _ _ _ _ each (show ops.toList[i]? = some o by rw [Array.getElem?_toList]; exact ho)
     rw [Nat.zero_add] at this
     have q : ∀ v w'', T i v w'' → J (fun j => if j = i then true else L.getD j false) (upd γ i v) w'' → Chg w' w'' → K ((fr ops a γ).put o.dst v) w'' := by
       intro v w'' h2 h3 h4
       refine hK _ _ ⟨upd γ i v, fr_put ho ha v, by simpa using hsz, (fun j o' hj hlj d hdj => hcl2 j o' hj hlj d hdj), hun2 v, fun j hj => ?_, by rw [hL]; exact h3⟩
       by_cases e : j = i
       · subst e; rw [show upd γ j v j = v by simp [upd]]; exact h2
       · rw [getD_set_ne false (Ne.symm e)] at hj
         rw [show upd γ i v j = γ j by simp [upd, e]]
         exact stab _ _ _ _ (hT j hj) h4
     exact this Q K (fun j => L.getD j false) γ w' h1' hd (fun j o' h1 h2 d h3 => hcl j o' h1 h2 d h3) (fun j d h1 h2 => hun j d h1 h2) hJ (fun j hj => hT j (hd j hj)) q
   · rintro L a' w' ⟨γ, rfl, hsz, hcl, hun, hT, hJ⟩ hr
     have all : ∀ i, i < ops.size → L.getD i false = true := by
       intro i
       induction i using Nat.strongRecOn with
       | ind i ih =>
         intro hi
         cases hb : L.getD i false with
         | true => rfl
         | false =>
           exfalso
           have ho : ops[i]? = some ops[i] := Array.getElem?_eq_getElem hi
           have hlt := lates_at _ _ _ _ hl (show ops.toList[i]? = some ops[i] by rw [Array.getElem?_toList]; exact ho)
           rw [Nat.zero_add] at hlt
           have : i ∈ Region.ready .any ops L := mem_ready.2 ⟨by simp [show i < L.size by omega] at hb ⊢; exact hb, _, ho, fun e he hbd => by
             have := Array.all_eq_true_iff_forall_mem.1 hlt e he
             simp only [hbd, Bool.not_true, Bool.false_or, decide_eq_true_eq] at this
             exact ih _ this (by omega)⟩
           rw [hr] at this
           cases this
     exact fin _ γ w' all (fun i hi => hT i (all i hi)) hJ
  obtain ⟨k1, k2⟩ := key
  have rep : (∀ j, (Array.replicate ops.size false).getD j false = false) := fun j => by
    by_cases hj2 : j < ops.size
    · simp [hj2]
    · simp [hj2]
  have first : ∀ w', J (fun _ => false) (fun i => match (ops.toList.map (·.dst))[i]? with | some (some d) => a.tmps.getD d undef | _ => undef) w' → ∃ γ, a = fr ops a γ ∧ (Array.replicate ops.size false).size = ops.size ∧ (∀ j o', ops[j]? = some o' → (Array.replicate ops.size false).getD j false = true → ∀ d, dep o' d = true → (Array.replicate ops.size false).getD d false = true) ∧ (∀ j d, (Array.replicate ops.size false).getD j false = false → (ops.toList.map (·.dst))[j]? = some (some d) → γ j = a.tmps.getD d undef) ∧ (∀ j, (Array.replicate ops.size false).getD j false = true → T j (γ j) w') ∧ J (fun j => (Array.replicate ops.size false).getD j false) γ w' := by
    intro w' hJ
    refine ⟨_, (fr_self a).symm, by simp, (fun j o' _ hj => by rw [rep j] at hj; cases hj), (fun j d _ hj => by rw [hj]), fun j hj => ?_, ?_⟩
    · rw [rep j] at hj; cases hj
    · rw [show (fun j => (Array.replicate ops.size false).getD j false) = fun _ => false from funext rep]
      exact hJ
  cases b with
  | true =>
    refine wp_region_any hm (wpAny_inv (I := fun L a' w' => ∃ γ, a' = fr ops a γ ∧ L.size = ops.size ∧ (∀ j o', ops[j]? = some o' → L.getD j false = true → ∀ d, dep o' d = true → L.getD d false = true) ∧ (∀ j d, L.getD j false = false → (ops.toList.map (·.dst))[j]? = some (some d) → γ j = a.tmps.getD d undef) ∧ (∀ j, L.getD j false = true → T j (γ j) w') ∧ J (fun j => L.getD j false) γ w') k1 k2 _ _ _ _ ?_ (first _ (h0 _).1))
    unfold unl
    exact Nat.le_trans List.countP_le_length (by simp)
  | false =>
    refine wp_region ?_
    rw [List.range_eq_range']
    refine wpOps_inv (I := fun L a' w' => ∃ γ, a' = fr ops a γ ∧ L.size = ops.size ∧ (∀ j o', ops[j]? = some o' → L.getD j false = true → ∀ d, dep o' d = true → L.getD d false = true) ∧ (∀ j d, L.getD j false = false → (ops.toList.map (·.dst))[j]? = some (some d) → γ j = a.tmps.getD d undef) ∧ (∀ j, L.getD j false = true → T j (γ j) w') ∧ J (fun j => L.getD j false) γ w') k1 k2 (fun i o ho e he hb => ?_) ops.size 0 _ a w (by omega) (by simp) (fun j hj => absurd hj (by omega)) (fun j _ hj => by simp [hj]) (first _ (h0 _).2)
    have hlt := lates_at _ _ _ _ hl (show ops.toList[i]? = some o by rw [Array.getElem?_toList]; exact ho)
    rw [Nat.zero_add] at hlt
    have := Array.all_eq_true_iff_forall_mem.1 hlt e he
    simpa [hb] using this
end
end Go.Proofs.Yteblmphohhbgcaa.Gn
namespace Go.Proofs.Yteblmphohhbgcaa.Gn
open Go.RowKit Go.Deep
section
variable {P:Program} {ops:Array Oper} {Q:Exit→Act→World→Prop}
theorem wp_val{o:Oper}{a:Act}{w w':World}{K:Act→World→Prop}{v:Value}(h:(execOp a.eval o).run P w=.ok (.value v) w')(hK:K (a.put o.dst v) w'):o.wp P a w K Q:=by
 unfold Oper.wp;rw[h];exact hK
theorem wp_skip{o:Oper}{a:Act}{w w':World}{K:Act→World→Prop}(h:(execOp a.eval o).run P w=.ok .skip w')(hK:K (a.put o.dst undef) w'):o.wp P a w K Q:=by
 unfold Oper.wp;rw[h];exact hK
theorem wp_enter{o:Oper}{a:Act}{w w':World}{K:Act→World→Prop}{f:FuncId}{args:Array Value}(h:(execOp a.eval o).run P w=.ok (.enter f args) w')
  (hc:Calls P f args w' fun e w''=>∃v,e=.returned v∧K (a.put o.dst v) w''):o.wp P a w K Q:=by
 unfold Oper.wp;rw[h]
 exact Calls.mono hc (by rintro e w'' ⟨v,rfl,hk⟩;exact hk)
theorem Each.nil{i:Nat}{p:Nat→Oper→Prop}:Each [] i p:=trivial
theorem Each.cons{i:Nat}{o:Oper}{r:List Oper}{p:Nat→Oper→Prop}(h:p i o)(hr:Each r (i+1) p):Each (o :: r) i p:=⟨h,hr⟩
end
end Go.Proofs.Yteblmphohhbgcaa.Gn
namespace Go.Proofs.Yteblmphohhbgcaa.Gn
open Go.RowKit Go.Deep
section
variable {P:Program} {ops:Array Oper} {Q:Exit→Act→World→Prop}
theorem run_cell_op{op:Oper}{a:Act}{w:World}(ty:TypeId)(x:Operand)(ho:op.op=.load ty x)
  (ad:Addr) (hx:a.eval x=.pointer (some ad)) (v:Value) (hc:w.cell? ad=some v) (d:TypeDesc) (hu:P.underlying ty=some d) (hd:d.isRow=false):(execOp a.eval op).run P w=.ok (.value v) w:=by
 unfold execOp
 have hagg:(isAgg ty).run P w=.ok false w:=by
  unfold isAgg
  simp only[Sem.run_bind,run_underlying hu,Result.andThen_ok]
  cases d <;> first|rfl|cases hd
 simp[ho,hx,Instr.loadAt,Instr.sureAddr,loadVar,hagg,hc]
end
end Go.Proofs.Yteblmphohhbgcaa.Gn
namespace Go.Proofs.Yteblmphohhbgcaa.Gn
open Go.RowKit Go.Deep
section
variable {P:Program}
end
section
variable {P:Program} {c:Code} {Q:Exit→Act→World→Prop} {a:Act}
end
end Go.Proofs.Yteblmphohhbgcaa.Gn
namespace Go.Proofs.Yteblmphohhbgcaa.Gn
open Go.RowKit Go.Deep
section
variable {P:Program} {ops:Array Oper}
section
end
end
end Go.Proofs.Yteblmphohhbgcaa.Gn
