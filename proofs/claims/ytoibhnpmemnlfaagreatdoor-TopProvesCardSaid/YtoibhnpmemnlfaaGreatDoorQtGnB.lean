/- Joined texts. -/
import Derived.OrdersHeld
import Derived.Test.YtoibhnpmemnlfaaGreatDoorQtGnA
set_option linter.unusedVariables false
namespace Go.Proofs.YtoibhnpmemnlfaaGreatDoor.Gn
open Go.RowKit Go.Deep
theorem count_lt(f g:Nat→Bool)(h:∀j,g j=true→f j=true)(i:Nat)(h1:f i=true)(h2:g i=false):∀n,i < n→(List.range n).countP g < (List.range n).countP f:=by
 have le:∀n,(List.range n).countP g≤(List.range n).countP f:=fun n=>List.countP_mono_left fun x _ hx=>h x hx
 intro n
 induction n with
 |zero=>intro h;omega
 |succ n ih =>
  intro hi
  rw[List.range_succ,List.countP_append,List.countP_append]
  have:=le n
  by_cases e:i=n
  ·subst e
   simp only[List.countP_cons,List.countP_nil,h1,h2]
   simp;omega
  ·have:=ih (by omega)
   have q : [n].countP g≤[n].countP f:=List.countP_mono_left fun x _ hx=>h x hx
   omega
section
variable {P:Program} {ops:Array Oper} {Q:Exit→Act→World→Prop} {md:Region.Mode}
def unl(ops:Array Oper)(L:Array Bool):Nat:=(List.range ops.size).countP fun i=>!L.getD i true
theorem unl_lt{L:Array Bool}{i:Nat}(h:i∈Region.ready md ops L):unl ops (L.setIfInBounds i true) < unl ops L:=by
 obtain⟨h1,o,ho,-⟩:=mem_ready.1 h
 have hi:i < ops.size:=(Array.getElem?_eq_some_iff.1 ho).1
 have hl:i < L.size:=by
  rcases Nat.lt_or_ge i L.size with h2|h2
  ·exact h2
  ·simp[Array.getElem?_eq_none h2] at h1
 refine count_lt _ _ (fun j hj=>?_) i (by simpa using h1) (by simp[hl]) _ hi
 by_cases e:i=j
 ·subst e;simpa using h1
 ·rwa [getD_set_ne true e] at hj
theorem wpAny_inv{I:Array Bool→Act→World→Prop}
  (hs:∀L a w,I L a w→∀i∈Region.ready md ops L,wpOp P ops Q i (fun a' w'=>I (L.setIfInBounds i true) a' w') a w)
  (he:∀L a w,I L a w→Region.ready md ops L=[]→Q .normal a w) :
  ∀(n:Nat) (L:Array Bool) (a:Act) (w:World),unl ops L≤n→I L a w→wpAny P md ops Q n L a w:=by
 intro n
 induction n with
 |zero =>
  intro L a w hn hI
  have hr:Region.ready md ops L=[]:=by
   cases hr:Region.ready md ops L with
   |nil=>rfl
   |cons i r =>
    have:=unl_lt (md:=md) (ops:=ops) (L:=L) (i:=i) (by rw[hr];exact List.mem_cons_self)
    omega
  exact⟨hr,he _ _ _ hI hr⟩
 |succ n ih =>
  intro L a w hn hI
  refine⟨he _ _ _ hI,fun i hi=>?_⟩
  have:=unl_lt hi
  exact wpOp_mono (fun a' w' h=>ih _ a' w' (by omega) h) (hs _ _ _ hI i hi)
theorem wpOps_inv{I:Array Bool→Act→World→Prop}
  (hs:∀L a w,I L a w→∀i∈Region.ready md ops L,wpOp P ops Q i (fun a' w'=>I (L.setIfInBounds i true) a' w') a w)
  (he:∀L a w,I L a w→Region.ready md ops L=[]→Q .normal a w)
  (hl:∀i o,ops[i]?=some o→∀e∈o.after,Region.binds md e=true→e.on < i) :
  ∀(m k:Nat) (L:Array Bool) (a:Act) (w:World),k+m=ops.size→L.size=ops.size→(∀j,j < k→L.getD j false=true)→(∀j,k≤j→j < ops.size→L.getD j true=false)→I L a w→wpOps P ops Q (List.range' k m) a w:=by
 intro m
 induction m with
 |zero =>
  intro k L a w hk hsz h1 h2 hI
  refine he _ _ _ hI ?_
  cases hr:Region.ready md ops L with
  |nil=>rfl
  |cons i r =>
   exfalso
   obtain⟨h3,o,ho,-⟩:=mem_ready.1 (show i∈Region.ready md ops L by rw[hr];exact List.mem_cons_self)
   have hi:i < ops.size:=(Array.getElem?_eq_some_iff.1 ho).1
   have:=h1 i (by omega)
   simp[show i < L.size by omega] at this h3
   rw[h3] at this
   cases this
 |succ m ih =>
  intro k L a w hk hsz h1 h2 hI
  rw[List.range'_succ,wpOps_cons]
  have hkl:k < ops.size:=by omega
  have ho:ops[k]?=some ops[k]:=Array.getElem?_eq_getElem hkl
  have hr:k∈Region.ready md ops L:=mem_ready.2 ⟨h2 k (Nat.le_refl _) hkl,_,ho,fun e he hb=>h1 _ (hl _ _ ho e he hb)⟩
  refine wpOp_mono (fun a' w' h=>ih (k+1) _ a' w' (by omega) (by simpa using hsz) (fun j hj=>?_) (fun j hj hj2=>?_) h) (hs _ _ _ hI k hr)
  ·by_cases e:j=k
   ·subst e;simp[show j < L.size by omega]
   ·rw[getD_set_ne false (Ne.symm e)];exact h1 j (by omega)
  ·rw[getD_set_ne true (by omega)];exact h2 j (by omega) hj2
def fill:List (Option Tmp)→(Nat→Value)→Nat→Array Value→Array Value
 | [],_,_,t=>t
 |some d :: r,γ,k,t=>fill r γ (k+1) (t.setIfInBounds d (γ k))
 |none :: r,γ,k,t=>fill r γ (k+1) t
def upd(γ:Nat→Value)(i:Nat)(v:Value):Nat→Value:=fun j=>if j=i then v else γ j
def apart_:List (Option Tmp)→Bool
 | []=>true
 |some d :: r=>!r.contains (some d) && apart_ r
 |none :: r=>apart_ r
theorem fill_congr:∀(r:List (Option Tmp)) (γ γ':Nat→Value) (k:Nat) (t:Array Value),(∀j,k≤j→γ j=γ' j)→fill r γ k t=fill r γ' k t:=by
 intro r
 induction r with
 |nil=>intros;rfl
 |cons d r ih =>
  intro γ γ' k t h
  cases d with
  |none=>exact ih _ _ _ _ fun j hj=>h j (by omega)
  |some d =>
   rw[fill,fill,h k (Nat.le_refl _)]
   exact ih _ _ _ _ fun j hj=>h j (by omega)
theorem fill_set:∀(r:List (Option Tmp)) (γ:Nat→Value) (k d:Nat) (t:Array Value) (v:Value),r.contains (some d)=false→fill r γ k (t.setIfInBounds d v)=(fill r γ k t).setIfInBounds d v:=by
 intro r
 induction r with
 |nil=>intros;rfl
 |cons e r ih =>
  intro γ k d t v h
  cases e with
  |none=>exact ih _ _ _ _ _ (by simpa using h)
  |some e =>
   have hne:d≠e:=by rintro rfl;simp at h
   have h2:r.contains (some d)=false:=by
    simp only[List.contains_cons,Bool.or_eq_false_iff] at h
    exact h.2
   rw[fill,fill,Array.setIfInBounds_comm _ _ hne]
   exact ih _ _ _ _ _ h2
theorem fill_upd:∀(r:List (Option Tmp)) (γ:Nat→Value) (k i:Nat) (t:Array Value) (v:Value) (d:Option Tmp),apart_ r=true→r[i]?=some d →
  fill r (upd γ (k+i) v) k t=(match d with|some d=>(fill r γ k t).setIfInBounds d v|none=>fill r γ k t):=by
 intro r
 induction r with
 |nil=>intro γ k i t v d _ h;simp at h
 |cons e r ih =>
  intro γ k i t v d ha h
  cases i with
  |zero =>
   simp only[List.getElem?_cons_zero,Option.some.injEq] at h
   subst h
   have hc:∀t',fill r (upd γ (k+0) v) (k+1) t'=fill r γ (k+1) t':=fun t'=>fill_congr _ _ _ _ _ fun j hj=>by
    unfold upd;rw[if_neg (by omega)]
   cases e with
   |none=>exact hc t
   |some e =>
    rw[fill,hc,fill]
    have h2:r.contains (some e)=false:=by simp[apart_] at ha;simpa using ha.1
    show _=(fill r γ (k+1) (t.setIfInBounds e (γ k))).setIfInBounds e v
    rw[fill_set _ _ _ _ _ _ h2,fill_set _ _ _ _ _ _ h2,show upd γ (k+0) v k=v from by simp[upd]]
    simp
  |succ i =>
   have hu:upd γ (k+(i+1)) v k=γ k:=by unfold upd;rw[if_neg (by omega)]
   have h':r[i]?=some d:=by simpa using h
   have ha':apart_ r=true:=by
    cases e with
    |none=>exact ha
    |some e=>simp[apart_] at ha;exact ha.2
   cases e with
   |none =>
    rw[fill,fill,show k+(i+1)=(k+1)+i by omega]
    exact ih _ _ _ _ _ _ ha' h'
   |some e =>
    rw[fill,fill,hu,show k+(i+1)=(k+1)+i by omega]
    exact ih _ _ _ _ _ _ ha' h'
theorem fill_same:∀(r:List (Option Tmp)) (γ:Nat→Value) (k:Nat) (t:Array Value),(∀i d,r[i]?=some (some d)→γ (k+i)=t.getD d undef)→fill r γ k t=t:=by
 intro r
 induction r with
 |nil=>intros;rfl
 |cons e r ih =>
  intro γ k t h
  have h':∀i d,r[i]?=some (some d)→γ (k+1+i)=t.getD d undef:=fun i d hd=>by
   have:=h (i+1) d (by simpa using hd)
   rwa [show k+(i+1)=k+1+i by omega] at this
  cases e with
  |none=>exact ih _ _ _ h'
  |some e =>
   have h0:=h 0 e rfl
   have e1:t.setIfInBounds e (γ k)=t:=by
    rw[show γ k=t.getD e undef from h0]
    apply Array.ext_getElem?
    intro j
    rw[Array.getElem?_setIfInBounds]
    split
    ·rename_i hj
     subst hj
     split
     ·rename_i hlt
      simp[hlt]
     ·rename_i hlt
      rw[Array.getElem?_eq_none (by omega)]
    ·rfl
   rw[fill,e1]
   exact ih _ _ _ h'
def dep(o:Oper)(j:Nat):Bool:=o.after.any fun e=>Region.binds .any e && e.on == j
def late(o:Oper)(i:Nat):Bool:=o.after.all fun e=>!Region.binds .any e || e.on < i
def lates:List Oper→Nat→Bool
 | [],_=>true
 |o :: r,i=>late o i && lates r (i+1)
theorem lates_at:∀(l:List Oper) (k i:Nat) (o:Oper),lates l k=true→l[i]?=some o→late o (k+i)=true:=by
 intro l
 induction l with
 |nil=>intro k i o _ h;simp at h
 |cons x l ih =>
  intro k i o hl h
  simp only[lates,Bool.and_eq_true] at hl
  cases i with
  |zero=>simp at h;subst h;exact hl.1
  |succ i =>
   rw[show k+(i+1)=k+1+i by omega]
   exact ih _ _ _ hl.2 (by simpa using h)
def fr(ops:Array Oper)(a:Act)(γ:Nat→Value):Act:=⟨fill (ops.toList.map (·.dst)) γ 0 a.tmps,a.defers⟩
theorem fr_put{a:Act}{γ:Nat→Value}{i:Nat}{o:Oper}(ho:ops[i]?=some o)(ha:apart_ (ops.toList.map (·.dst))=true)(v:Value):(fr ops a γ).put o.dst v=fr ops a (upd γ i v):=by
 have h:(ops.toList.map (·.dst))[i]?=some o.dst:=by
  rw[List.getElem?_map,Array.getElem?_toList,ho];rfl
 have:=fill_upd _ γ 0 i a.tmps v _ ha h
 rw[Nat.zero_add] at this
 unfold fr
 rw[this]
 cases o.dst <;> rfl
theorem fr_self(a:Act):fr ops a (fun i=>match(ops.toList.map (·.dst))[i]? with|some (some d)=>a.tmps.getD d undef|_=>undef)=a:=by
 unfold fr
 rw[fill_same]
 intro i d h
 rw[Nat.zero_add,h]
def Owes(P:Program)(ops:Array Oper)(a:Act)(T:Nat→Value→World→Prop)(J:(Nat→Bool)→(Nat→Value)→World→Prop)(Chg:World→World→Prop)(i:Nat)(o:Oper):Prop :=
 ∀(Q:Exit→Act→World→Prop) (K:Act→World→Prop) (L:Nat→Bool) (γ:Nat→Value) (w:World),L i=false→(∀j,dep o j=true→L j=true)→(∀j o',ops[j]?=some o'→L j=true→∀d,dep o' d=true→L d=true)→(∀j d,L j=false→(ops.toList.map (·.dst))[j]?=some (some d)→γ j=a.tmps.getD d undef) →  J L γ w→(∀j,dep o j=true→T j (γ j) w) →
  (∀v w',T i v w'→J (fun j=>if j=i then true else L j) (upd γ i v) w'→Chg w w'→K ((fr ops a γ).put o.dst v) w') →
  if Region.wanted o (yielded ops (fr ops a γ).tmps)=true then o.wp P (fr ops a γ) w K Q else K ((fr ops a γ).put o.dst undef) w
def Each:List Oper→Nat→(Nat→Oper→Prop)→Prop
 | [],_,_=>True
 |o :: r,i,p=>p i o∧Each r (i+1) p
theorem each_at:∀(l:List Oper) (k i:Nat) (o:Oper) (p:Nat→Oper→Prop),Each l k p→l[i]?=some o→p (k+i) o:=by
 intro l
 induction l with
 |nil=>intro k i o p _ h;simp at h
 |cons x l ih =>
  intro k i o p hl h
  cases i with
  |zero=>simp at h;subst h;exact hl.1
  |succ i =>
   rw[show k+(i+1)=k+1+i by omega]
   exact ih _ _ _ _ hl.2 (by simpa using h)
theorem wp_region_free {id : Nat} {b : Bool} {a : Act} {w : World} (T : Nat → Value → World → Prop) (J : (Nat → Bool) → (Nat → Value) → World → Prop) (Chg : World → World → Prop)
    (hm : P.follows .mixedOrders = true) (ha : apart_ (ops.toList.map (·.dst)) = true) (hl : lates ops.toList 0 = true)
    (stab : ∀ j v w w', T j v w → Chg w w' → T j v w')
    (h0 : ∀ γ, J (fun _ => false) γ w.drew ∧ J (fun _ => false) γ w)
    (each : Each ops.toList 0 (Owes P ops a T J Chg))
    (fin : ∀ L γ w', (∀ i, i < ops.size → L i = true) → (∀ i, i < ops.size → T i (γ i) w') → J L γ w' → Q .normal (fr ops a γ) w') :
    (Code.region id ops b).wp P Q a w := by
  have key : (∀ L a' w', (∃ γ, a' = fr ops a γ ∧ L.size = ops.size ∧ (∀ j o', ops[j]? = some o' → L.getD j false = true → ∀ d, dep o' d = true → L.getD d false = true) ∧ (∀ j d, L.getD j false = false → (ops.toList.map (·.dst))[j]? = some (some d) → γ j = a.tmps.getD d undef) ∧ (∀ j, L.getD j false = true → T j (γ j) w') ∧ J (fun j => L.getD j false) γ w') → ∀ i ∈ Region.ready .any ops L, wpOp P ops Q i (fun a' w' => ∃ γ, a' = fr ops a γ ∧ (L.setIfInBounds i true).size = ops.size ∧ (∀ j o', ops[j]? = some o' → (L.setIfInBounds i true).getD j false = true → ∀ d, dep o' d = true → (L.setIfInBounds i true).getD d false = true) ∧ (∀ j d, (L.setIfInBounds i true).getD j false = false → (ops.toList.map (·.dst))[j]? = some (some d) → γ j = a.tmps.getD d undef) ∧ (∀ j, (L.setIfInBounds i true).getD j false = true → T j (γ j) w') ∧ J (fun j => (L.setIfInBounds i true).getD j false) γ w') a' w') ∧
      (∀ L a' w', (∃ γ, a' = fr ops a γ ∧ L.size = ops.size ∧ (∀ j o', ops[j]? = some o' → L.getD j false = true → ∀ d, dep o' d = true → L.getD d false = true) ∧ (∀ j d, L.getD j false = false → (ops.toList.map (·.dst))[j]? = some (some d) → γ j = a.tmps.getD d undef) ∧ (∀ j, L.getD j false = true → T j (γ j) w') ∧ J (fun j => L.getD j false) γ w') → Region.ready .any ops L = [] → Q .normal a' w') := by
   refine ⟨?_, ?_⟩
   · rintro L a' w' ⟨γ, rfl, hsz, hcl, hun, hT, hJ⟩ i hi
     obtain ⟨h1, o, ho, hdep⟩ := mem_ready.1 hi
     have hil : i < L.size := by
       have := (Array.getElem?_eq_some_iff.1 ho).1
       omega
     have h1' : L.getD i false = false := by
       simp [hil] at h1 ⊢; exact h1
     have hd : ∀ j, dep o j = true → L.getD j false = true := fun j hj => by
       obtain ⟨e, he, hb⟩ := Array.any_eq_true'.1 hj
       simp only [Bool.and_eq_true, beq_iff_eq] at hb
       rw [← hb.2]
       exact hdep e he hb.1
     have hL : (fun j => (L.setIfInBounds i true).getD j false) = fun j => if j = i then true else L.getD j false := by
       funext j
       by_cases e : j = i
       · subst e; simp [hil]
       · rw [if_neg e, getD_set_ne false (Ne.symm e)]
     have hcl2 : ∀ j o', ops[j]? = some o' → (L.setIfInBounds i true).getD j false = true → ∀ d, dep o' d = true → (L.setIfInBounds i true).getD d false = true := by
       intro j o' hj hlj d hdj
       have up : L.getD d false = true → (L.setIfInBounds i true).getD d false = true := fun h => getD_set_true h
       by_cases e : j = i
       · subst e
         rw [ho] at hj
         obtain rfl := Option.some.inj hj
         exact up (hd d hdj)
       · rw [getD_set_ne false (Ne.symm e)] at hlj
         exact up (hcl j o' hj hlj d hdj)
     have hun2 : ∀ v, ∀ j d, (L.setIfInBounds i true).getD j false = false → (ops.toList.map (·.dst))[j]? = some (some d) → upd γ i v j = a.tmps.getD d undef := by
       intro v j d hj hdj
       have hji : j ≠ i := by
         rintro rfl
         simp [hil] at hj
       rw [getD_set_ne false (Ne.symm hji)] at hj
       rw [show upd γ i v j = γ j by simp [upd, hji]]
       exact hun j d hj hdj
     refine wpOp_step ho fun K hK => ?_
     have := each_at _ _ _ _ _ each (show ops.toList[i]? = some o by rw [Array.getElem?_toList]; exact ho)
     rw [Nat.zero_add] at this
     have q : ∀ v w'', T i v w'' → J (fun j => if j = i then true else L.getD j false) (upd γ i v) w'' → Chg w' w'' → K ((fr ops a γ).put o.dst v) w'' := by
       intro v w'' h2 h3 h4
       refine hK _ _ ⟨upd γ i v, fr_put ho ha v, by simpa using hsz, (fun j o' hj hlj d hdj => hcl2 j o' hj hlj d hdj), hun2 v, fun j hj => ?_, by rw [hL]; exact h3⟩
       by_cases e : j = i
       · subst e; rw [show upd γ j v j = v by simp [upd]]; exact h2
       · rw [getD_set_ne false (Ne.symm e)] at hj
         rw [show upd γ i v j = γ j by simp [upd, e]]
         exact stab _ _ _ _ (hT j hj) h4
     exact this Q K (fun j => L.getD j false) γ w' h1' hd (fun j o' h1 h2 d h3 => hcl j o' h1 h2 d h3) (fun j d h1 h2 => hun j d h1 h2) hJ (fun j hj => hT j (hd j hj)) q
   · rintro L a' w' ⟨γ, rfl, hsz, hcl, hun, hT, hJ⟩ hr
     have all : ∀ i, i < ops.size → L.getD i false = true := by
       intro i
       induction i using Nat.strongRecOn with
       | ind i ih =>
         intro hi
         cases hb : L.getD i false with
         | true => rfl
         | false =>
           exfalso
           have ho : ops[i]? = some ops[i] := Array.getElem?_eq_getElem hi
           have hlt := lates_at _ _ _ _ hl (show ops.toList[i]? = some ops[i] by rw [Array.getElem?_toList]; exact ho)
           rw [Nat.zero_add] at hlt
           have : i ∈ Region.ready .any ops L := mem_ready.2 ⟨by simp [show i < L.size by omega] at hb ⊢; exact hb, _, ho, fun e he hbd => by
             have := Array.all_eq_true_iff_forall_mem.1 hlt e he
             simp only [hbd, Bool.not_true, Bool.false_or, decide_eq_true_eq] at this
             exact ih _ this (by omega)⟩
           rw [hr] at this
           cases this
     exact fin _ γ w' all (fun i hi => hT i (all i hi)) hJ
  obtain ⟨k1, k2⟩ := key
  have rep : (∀ j, (Array.replicate ops.size false).getD j false = false) := fun j => by
    by_cases hj2 : j < ops.size
    · simp [hj2]
    · simp [hj2]
  have first : ∀ w', J (fun _ => false) (fun i => match (ops.toList.map (·.dst))[i]? with | some (some d) => a.tmps.getD d undef | _ => undef) w' → ∃ γ, a = fr ops a γ ∧ (Array.replicate ops.size false).size = ops.size ∧ (∀ j o', ops[j]? = some o' → (Array.replicate ops.size false).getD j false = true → ∀ d, dep o' d = true → (Array.replicate ops.size false).getD d false = true) ∧ (∀ j d, (Array.replicate ops.size false).getD j false = false → (ops.toList.map (·.dst))[j]? = some (some d) → γ j = a.tmps.getD d undef) ∧ (∀ j, (Array.replicate ops.size false).getD j false = true → T j (γ j) w') ∧ J (fun j => (Array.replicate ops.size false).getD j false) γ w' := by
    intro w' hJ
    refine ⟨_, (fr_self a).symm, by simp, (fun j o' _ hj => by rw [rep j] at hj; cases hj), (fun j d _ hj => by rw [hj]), fun j hj => ?_, ?_⟩
    · rw [rep j] at hj; cases hj
    · rw [show (fun j => (Array.replicate ops.size false).getD j false) = fun _ => false from funext rep]
      exact hJ
  cases b with
  | true =>
    refine wp_region_any hm (wpAny_inv (I := fun L a' w' => ∃ γ, a' = fr ops a γ ∧ L.size = ops.size ∧ (∀ j o', ops[j]? = some o' → L.getD j false = true → ∀ d, dep o' d = true → L.getD d false = true) ∧ (∀ j d, L.getD j false = false → (ops.toList.map (·.dst))[j]? = some (some d) → γ j = a.tmps.getD d undef) ∧ (∀ j, L.getD j false = true → T j (γ j) w') ∧ J (fun j => L.getD j false) γ w') k1 k2 _ _ _ _ ?_ (first _ (h0 _).1))
    unfold unl
    exact Nat.le_trans List.countP_le_length (by simp)
  | false =>
    refine wp_region ?_
    rw [List.range_eq_range']
    refine wpOps_inv (I := fun L a' w' => ∃ γ, a' = fr ops a γ ∧ L.size = ops.size ∧ (∀ j o', ops[j]? = some o' → L.getD j false = true → ∀ d, dep o' d = true → L.getD d false = true) ∧ (∀ j d, L.getD j false = false → (ops.toList.map (·.dst))[j]? = some (some d) → γ j = a.tmps.getD d undef) ∧ (∀ j, L.getD j false = true → T j (γ j) w') ∧ J (fun j => L.getD j false) γ w') k1 k2 (fun i o ho e he hb => ?_) ops.size 0 _ a w (by omega) (by simp) (fun j hj => absurd hj (by omega)) (fun j _ hj => by simp [hj]) (first _ (h0 _).2)
    have hlt := lates_at _ _ _ _ hl (show ops.toList[i]? = some o by rw [Array.getElem?_toList]; exact ho)
    rw [Nat.zero_add] at hlt
    have := Array.all_eq_true_iff_forall_mem.1 hlt e he
    simpa [hb] using this
end
end Go.Proofs.YtoibhnpmemnlfaaGreatDoor.Gn
namespace Go.Proofs.YtoibhnpmemnlfaaGreatDoor.Gn
open Go.RowKit Go.Deep
inductive Sp where
 |is (v:Value)
 |say (p:Value→World→Prop)
def Sp.T:Sp→Value→World→Prop
 |.is v,u,_=>u=v
 |.say p,u,w=>p u w
def spT(sp:List Sp)(i:Nat):Value→World→Prop:=(sp.getD i (.say fun _ _=>True)).T
def exo(ops:Array Oper)(a:Act)(i:Nat)(o:Oper)(sp:List Sp)(γ:Nat→Value):Nat→Value:=fun j=>match dep o j,sp[j]? with
 |true,some (.is v)=>v
 |_,_=>match(ops[j]?).any (fun oj=>dep oj i),(ops.toList.map (·.dst))[j]? with
  |true,some (some d)=>a.tmps.getD d undef
  |_,_=>γ j
def exa(sp:List Sp)(γ:Nat→Value):Nat→Value:=fun j=>match sp[j]? with
 |some (.is v)=>v
 |_=>γ j
theorem exo_eq{ops:Array Oper}{a:Act}{i:Nat}{o:Oper}{sp:List Sp}{γ:Nat→Value}{w:World}{L:Nat→Bool}(hLi:L i=false)(hcl:∀j o',ops[j]?=some o'→L j=true→∀d,dep o' d=true→L d=true)
  (hun:∀j d,L j=false→(ops.toList.map (·.dst))[j]?=some (some d)→γ j=a.tmps.getD d undef) (h:∀j,dep o j=true→spT sp j (γ j) w):exo ops a i o sp γ=γ:=by
 funext j
 unfold exo
 split
 ·rename_i v hd hj
  have:=h j hd
  unfold spT at this
  rw[List.getD_eq_getElem?_getD,hj] at this
  exact Eq.symm this
 ·split
  ·rename_i d hd hj
   refine(hun j d ?_ hj).symm
   cases hoj:ops[j]? with
   |none=>rw[hoj] at hd;cases hd
   |some oj =>
    rw[hoj] at hd
    cases hb:L j with
    |false=>rfl
    |true=>rw[hcl j oj hoj hb i (by simpa using hd)] at hLi;cases hLi
  ·rfl
theorem exa_eq{sp:List Sp}{γ:Nat→Value}{w:World}{n:Nat}(hn:sp.length≤n)(h:∀j,j < n→spT sp j (γ j) w):exa sp γ=γ:=by
 funext j
 unfold exa
 split
 ·rename_i v hj
  have hl:=(List.getElem?_eq_some_iff.1 hj).1
  have:=h j (by omega)
  unfold spT at this
  rw[List.getD_eq_getElem?_getD,hj] at this
  exact Eq.symm this
 ·rfl
section
variable {P:Program} {ops:Array Oper} {Q:Exit→Act→World→Prop}
theorem wp_val{o:Oper}{a:Act}{w w':World}{K:Act→World→Prop}{v:Value}(h:(execOp a.eval o).run P w=.ok (.value v) w')(hK:K (a.put o.dst v) w'):o.wp P a w K Q:=by
 unfold Oper.wp;rw[h];exact hK
theorem wp_skip{o:Oper}{a:Act}{w w':World}{K:Act→World→Prop}(h:(execOp a.eval o).run P w=.ok .skip w')(hK:K (a.put o.dst undef) w'):o.wp P a w K Q:=by
 unfold Oper.wp;rw[h];exact hK
theorem wp_enter{o:Oper}{a:Act}{w w':World}{K:Act→World→Prop}{f:FuncId}{args:Array Value}(h:(execOp a.eval o).run P w=.ok (.enter f args) w')
  (hc:Calls P f args w' fun e w''=>∃v,e=.returned v∧K (a.put o.dst v) w''):o.wp P a w K Q:=by
 unfold Oper.wp;rw[h]
 exact Calls.mono hc (by rintro e w'' ⟨v,rfl,hk⟩;exact hk)
theorem Each.nil{i:Nat}{p:Nat→Oper→Prop}:Each [] i p:=trivial
theorem Each.cons{i:Nat}{o:Oper}{r:List Oper}{p:Nat→Oper→Prop}(h:p i o)(hr:Each r (i+1) p):Each (o :: r) i p:=⟨h,hr⟩
structure Var where
 k:Nat
 s:Nat
 t:TypeId
 z:Array Value
 cs:Array Value
structure Res where
 s:Nat
 g:Nat
 t:TypeId
 z:Array Value
 cs:Array Value
structure JV (w0:World) (vs:List Var) (out:Option Res) (L:Nat→Bool) (γ:Nat→Value) (w:World):Prop where
 gr:w0.grownBy w (out.map Res.g)
 at_:∀x∈vs,L x.k=true→∃g,γ x.k=.pointer (some ⟨g,0,none⟩)∧w0.heap.size≤g∧Bl w g x.t (if L x.s then x.cs else x.z)
 ne:∀x∈vs,∀y∈vs,x.k≠y.k→L x.k=true→L y.k=true→γ x.k≠γ y.k
 od:∀x∈vs,L x.s=true→L x.k=true
 res:∀r∈out,r.g < w0.heap.size∧Bl w r.g r.t (if L r.s then r.cs else r.z)
def calm(vs:List Var)(out:Option Res)(i:Nat):Bool:=vs.all (fun x=>x.k != i && x.s != i) && out.all (fun r=>r.s != i)
def alone(vs:List Var)(out:Option Res)(n:Nat):Bool:=vs.all (fun x=>(vs.all fun y=>y.s != x.k && (y.k != x.k || y.s == x.s) && (y.s != x.s || y.k == x.k)) && (out.all fun r=>r.s != x.k && r.s != x.s) && x.k < n && x.s < n)
theorem JV.same{w0 w w':World}{vs:List Var}{out:Option Res}{L:Nat→Bool}{γ:Nat→Value}{i:Nat}(h:JV w0 vs out L γ w)(hc:calm vs out i=true)(hb:Below w.heap.size w w')(v:Value) :
  JV w0 vs out (fun j=>if j=i then true else L j) (upd γ i v) w':=by
 simp only[calm,Bool.and_eq_true,List.all_eq_true,bne_iff_ne] at hc
 obtain⟨hc1,hc2⟩:=hc
 have u:∀x∈vs,upd γ i v x.k=γ x.k:=fun x hx=>by unfold upd;rw[if_neg (hc1 x hx).1]
 refine⟨only_then h.gr (hb.mono h.gr.size),fun x hx hL=>?_,fun x hx y hy hne h1 h2=>?_,fun x hx hL=>?_,fun r hr=>?_⟩
 ·rw[if_neg (hc1 x hx).1] at hL
  obtain⟨g,h1,h2,h3⟩:=h.at_ x hx hL
  refine⟨g,by rw[u x hx];exact h1,h2,?_⟩
  rw[if_neg (hc1 x hx).2]
  exact h3.below' hb
 ·rw[if_neg (hc1 x hx).1] at h1
  rw[if_neg (hc1 y hy).1] at h2
  rw[u x hx,u y hy]
  exact h.ne x hx y hy hne h1 h2
 ·rw[if_neg (hc1 x hx).2] at hL
  rw[if_neg (hc1 x hx).1]
  exact h.od x hx hL
 ·obtain⟨h1,h2⟩:=h.res r hr
  refine⟨h1,?_⟩
  have:r.s≠i:=by
   cases out with
   |none=>cases hr
   |some q =>
    have e:q=r:=by simpa using hr
    subst e
    simpa using hc2
  rw[if_neg this]
  exact h2.below' hb
end
end Go.Proofs.YtoibhnpmemnlfaaGreatDoor.Gn
namespace Go.Proofs.YtoibhnpmemnlfaaGreatDoor.Gn
open Go.RowKit Go.Deep
section
variable {P:Program} {ops:Array Oper} {Q:Exit→Act→World→Prop}
theorem nodup_uniq{vs:List Var}(hk:(vs.map (·.k)).Nodup){x y:Var}(hx:x∈vs)(hy:y∈vs)(e:y.k=x.k):y=x:=by
 induction vs with
 |nil=>cases hx
 |cons z l ih =>
  rw[List.map_cons,List.nodup_cons] at hk
  obtain⟨n1,n2⟩:=hk
  rcases List.mem_cons.1 hy with q1|q1
  ·rcases List.mem_cons.1 hx with q2|q2
   ·rw[q1,q2]
   ·subst q1;exact absurd (List.mem_map.2 ⟨x,q2,e.symm⟩) n1
  ·rcases List.mem_cons.1 hx with q2|q2
   ·subst q2;exact absurd (List.mem_map.2 ⟨y,q1,e⟩) n1
   ·exact ih n2 q2 q1
theorem alone_at{vs:List Var}{out:Option Res}{n:Nat}(h:alone vs out n=true):∀x∈vs,(∀y∈vs,y.s≠x.k∧(y.k=x.k→y.s=x.s)∧(y.s=x.s→y.k=x.k))∧(∀r∈out,r.s≠x.k∧r.s≠x.s):=by
 intro x hx
 have h1:=List.all_eq_true.1 h x hx
 simp only[Bool.and_eq_true,List.all_eq_true,bne_iff_ne,Bool.or_eq_true,beq_iff_eq,decide_eq_true_eq] at h1
 obtain⟨⟨⟨h2,h3⟩,-⟩,-⟩:=h1
 refine⟨fun y hy=>?_,fun r hr=>?_⟩
 ·obtain⟨⟨a,b⟩,c⟩:=h2 y hy
  exact⟨a,fun e=>b.resolve_left (fun k=>k e),fun e=>c.resolve_left (fun k=>k e)⟩
 ·cases out with
  |none=>cases hr
  |some q =>
   have e:q=r:=by simpa using hr
   subst e
   simpa using h3
theorem JV.new_ {w0 w : World} {vs : List Var} {out : Option Res} {L : Nat → Bool} {γ : Nat → Value} {n : Nat} (h : JV w0 vs out L γ w) (hal : alone vs out n = true) (hk : (vs.map (·.k)).Nodup) {x : Var} (hx : x ∈ vs) (hL : L x.k = false) :
    JV w0 vs out (fun j => if j = x.k then true else L j) (upd γ x.k (.pointer (some ⟨w.heap.size, 0, none⟩))) (w.alloc (.cells x.z x.t)) := by
  have al := alone_at hal
  have same : ∀ y ∈ vs, y.k = x.k → y = x := fun y hy e => nodup_uniq hk hx hy e
  have hs : L x.s = false := by
    cases hb : L x.s with
    | false => rfl
    | true => rw [h.od x hx hb] at hL; cases hL
  refine ⟨only_alloc h.gr _, fun y hy hLy => ?_, fun y hy z hz hne h1 h2 => ?_, fun y hy hLy => ?_, fun r hr => ?_⟩
  · by_cases e : y.k = x.k
    · obtain rfl := same y hy e
      refine ⟨w.heap.size, by simp [upd], h.gr.size, ?_⟩
      have : y.s ≠ y.k := ((al y hx).1 y hx).1
      rw [if_neg this, hs]
      exact Bl.new_ w _ _
    · rw [if_neg e] at hLy
      obtain ⟨g, h1, h2, h3⟩ := h.at_ y hy hLy
      refine ⟨g, by unfold upd; rw [if_neg e]; exact h1, h2, ?_⟩
      have : y.s ≠ x.k := ((al x hx).1 y hy).1
      rw [if_neg this]
      exact h3.alloc _
  · have old : ∀ y ∈ vs, y.k ≠ x.k → L y.k = true → γ y.k ≠ .pointer (some ⟨w.heap.size, 0, none⟩) := by
      intro y hy e hLy he
      obtain ⟨g, h1, h2, h3⟩ := h.at_ y hy hLy
      rw [h1] at he
      simp only [Value.pointer.injEq, Option.some.injEq, Addr.mk.injEq, and_true] at he
      have := h3.lt
      omega
    unfold upd
    by_cases ey : y.k = x.k
    · have ez : z.k ≠ x.k := fun e => hne (ey.trans e.symm)
      rw [if_pos ey, if_neg ez]
      rw [if_neg ez] at h2
      exact (old z hz ez h2).symm
    · rw [if_neg ey]
      rw [if_neg ey] at h1
      by_cases ez : z.k = x.k
      · rw [if_pos ez]
        exact old y hy ey h1
      · rw [if_neg ez]
        rw [if_neg ez] at h2
        exact h.ne y hy z hz hne h1 h2
  · rw [if_neg ((al x hx).1 y hy).1] at hLy
    by_cases e : y.k = x.k
    · rw [if_pos e]
    · rw [if_neg e]; exact h.od y hy hLy
  · obtain ⟨h1, h2⟩ := h.res r hr
    refine ⟨h1, ?_⟩
    rw [if_neg ((al x hx).2 r hr).1]
    exact h2.alloc _
theorem JV.put_ {w0 w w' : World} {vs : List Var} {out : Option Res} {L : Nat → Bool} {γ : Nat → Value} {n : Nat} (h : JV w0 vs out L γ w) (hal : alone vs out n = true) {x : Var} (hx : x ∈ vs) (hLk : L x.k = true) {g : Nat} (hg : γ x.k = .pointer (some ⟨g, 0, none⟩))
    (hb : Bl w' g x.t x.cs) (hgr : w.grownBy w' (some g)) (v : Value) (uniq : ∀ y ∈ vs, y.k = x.k → y = x) :
    JV w0 vs out (fun j => if j = x.s then true else L j) (upd γ x.s v) w' := by
  have al := alone_at hal
  obtain ⟨g', e1, e2, e3⟩ := h.at_ x hx hLk
  rw [hg] at e1
  simp only [Value.pointer.injEq, Option.some.injEq, Addr.mk.injEq, and_true] at e1
  subst e1
  have hks : ∀ y ∈ vs, y.k ≠ x.s := fun y hy e => ((al y hy).1 x hx).1 e.symm
  have u : ∀ y ∈ vs, upd γ x.s v y.k = γ y.k := fun y hy => by unfold upd; rw [if_neg (hks y hy)]
  refine ⟨⟨hgr.os.trans h.gr.os, hgr.tape.trans h.gr.tape, hgr.output.trans h.gr.output, Nat.le_trans h.gr.size hgr.size, fun k hk hn => (hgr.block k (Nat.lt_of_lt_of_le hk h.gr.size) (fun e => by
      simp only [Option.some.injEq] at e; omega)).trans (h.gr.block k hk hn)⟩, fun y hy hLy => ?_, fun y hy z hz hne h1 h2 => ?_, fun y hy hLy => ?_, fun r hr => ?_⟩
  · rw [if_neg (hks y hy)] at hLy
    obtain ⟨q, h1, h2, h3⟩ := h.at_ y hy hLy
    rw [u y hy]
    by_cases e : y.k = x.k
    · obtain rfl := uniq y hy e
      refine ⟨g, hg, e2, ?_⟩
      rw [if_pos rfl]
      exact hb
    · refine ⟨q, h1, h2, ?_⟩
      have hs : y.s ≠ x.s := fun e2 => e (((al x hx).1 y hy).2.2 e2)
      rw [if_neg hs]
      refine h3.grown hgr ?_
      intro e3
      simp only [Option.some.injEq] at e3
      subst e3
      exact h.ne y hy x hx e hLy hLk (by rw [h1, hg])
  · rw [if_neg (hks y hy)] at h1
    rw [if_neg (hks z hz)] at h2
    rw [u y hy, u z hz]
    exact h.ne y hy z hz hne h1 h2
  · rw [if_neg (hks y hy)]
    by_cases e : y.s = x.s
    · rw [((al x hx).1 y hy).2.2 e]; exact hLk
    · rw [if_neg e] at hLy; exact h.od y hy hLy
  · obtain ⟨h1, h2⟩ := h.res r hr
    refine ⟨h1, ?_⟩
    rw [if_neg ((al x hx).2 r hr).2]
    exact h2.grown hgr (by simp only [ne_eq, Option.some.injEq]; omega)
theorem JV.res_{w0 w w':World}{vs:List Var}{r:Res}{L:Nat→Bool}{γ:Nat→Value}{n:Nat}(h:JV w0 vs (some r) L γ w)(hal:alone vs (some r) n=true)
  (hb:Bl w' r.g r.t r.cs) (hgr:w.grownBy w' (some r.g)) (v:Value) :
  JV w0 vs (some r) (fun j=>if j=r.s then true else L j) (upd γ r.s v) w':=by
 have al:=alone_at hal
 have hr:=(h.res r rfl).1
 have hks:∀y∈vs,y.k≠r.s:=fun y hy e=>((al y hy).2 r rfl).1 e.symm
 have hss:∀y∈vs,y.s≠r.s:=fun y hy e=>((al y hy).2 r rfl).2 e.symm
 have u:∀y∈vs,upd γ r.s v y.k=γ y.k:=fun y hy=>by unfold upd;rw[if_neg (hks y hy)]
 refine⟨only_trans h.gr hgr,fun y hy hLy=>?_,fun y hy z hz hne h1 h2=>?_,fun y hy hLy=>?_,fun q hq=>?_⟩
 ·rw[if_neg (hks y hy)] at hLy
  obtain⟨q,h1,h2,h3⟩:=h.at_ y hy hLy
  rw[u y hy,if_neg (hss y hy)]
  exact⟨q,h1,h2,h3.grown hgr (by simp only[ne_eq,Option.some.injEq];omega)⟩
 ·rw[if_neg (hks y hy)] at h1
  rw[if_neg (hks z hz)] at h2
  rw[u y hy,u z hz]
  exact h.ne y hy z hz hne h1 h2
 ·rw[if_neg (hss y hy)] at hLy
  rw[if_neg (hks y hy)]
  exact h.od y hy hLy
 ·have e:r=q:=by simpa using hq
  subst e
  exact⟨hr,by rw[if_pos rfl];exact hb⟩
def spx(sp:List (Option Value)):List Sp:=sp.map fun x=>match x with|some v=>.is v|none=>.say fun _ _=>True
def OwesV(P:Program)(ops:Array Oper)(a:Act)(sp:List (Option Value))(vs:List Var)(out:Option Res)(w0:World)(i:Nat)(o:Oper):Prop :=
 Owes P ops a (spT (spx sp)) (JV w0 vs out) (fun _ _=>True) i o
theorem spx_free(sp:List (Option Value))(j:Nat)(v:Value)(w w':World)(h:spT (spx sp) j v w):spT (spx sp) j v w':=by
 unfold spT spx at *
 rw[List.getD_eq_getElem?_getD,List.getElem?_map] at *
 cases hq:sp[j]? with
 |none=>trivial
 |some q =>
  rw[hq] at h
  cases q with
  |none=>trivial
  |some u=>exact h
theorem wp_region_v {id : Nat} {b : Bool} {a : Act} {w : World} (sp : List (Option Value)) (vs : List Var) (out : Option Res)
    (hm : P.follows .mixedOrders = true) (ha : apart_ (ops.toList.map (·.dst)) = true) (hl : lates ops.toList 0 = true) (hn : sp.length ≤ ops.size) (hal : alone vs out ops.size = true)
    (hres : ∀ r ∈ out, r.g < w.heap.size ∧ Bl w r.g r.t r.z ∧ r.s < ops.size)
    (each : Each ops.toList 0 (OwesV P ops a sp vs out w))
    (fin : ∀ γ w', w.grownBy w' (out.map Res.g) → (∀ x ∈ vs, ∃ g, γ x.k = .pointer (some ⟨g, 0, none⟩) ∧ w.heap.size ≤ g ∧ Bl w' g x.t x.cs) → (∀ x ∈ vs, ∀ y ∈ vs, x.k ≠ y.k → γ x.k ≠ γ y.k) → (∀ r ∈ out, Bl w' r.g r.t r.cs) → Q .normal (fr ops a (exa (spx sp) γ)) w') :
    (Code.region id ops b).wp P Q a w := by
  refine wp_region_free (spT (spx sp)) (JV w vs out) (fun _ _ => True) hm ha hl (fun j v x y h _ => spx_free _ _ _ _ _ h) (fun γ => ?_) each (fun L γ w' hL hT hJ => ?_)
  · have j0 : ∀ w' : World, w'.heap = w.heap → w'.os = w.os → w'.tape = w.tape → w'.output = w.output → JV w vs out (fun _ => false) γ w' := by
      intro w' e1 e2 e3 e4
      refine ⟨⟨e2, e3, e4, by rw [e1]; exact Nat.le_refl _, fun _ _ _ => by rw [e1]⟩, (fun _ _ h => absurd h (by decide)), (fun _ _ _ _ _ h => absurd h (by decide)), (fun _ _ h => absurd h (by decide)), fun r hr => ?_⟩
      obtain ⟨h1, h2, -⟩ := hres r hr
      exact ⟨h1, by rw [if_neg (by decide)]; unfold Bl at h2 ⊢; rw [e1]; exact h2⟩
    exact ⟨j0 _ rfl rfl rfl rfl, j0 _ rfl rfl rfl rfl⟩
  · have hb := List.all_eq_true.1 hal
    have := fin γ w' hJ.gr (fun x hx => ?_) (fun x hx y hy hne => ?_) (fun r hr => ?_)
    · rwa [exa_eq (by simpa [spx] using hn) hT] at this
    · have hx1 := hb x hx
      simp only [Bool.and_eq_true, decide_eq_true_eq] at hx1
      obtain ⟨g, h1, h2, h3⟩ := hJ.at_ x hx (hL _ hx1.1.2)
      rw [if_pos (hL _ hx1.2)] at h3
      exact ⟨g, h1, h2, h3⟩
    · have hx1 := hb x hx
      have hy1 := hb y hy
      simp only [Bool.and_eq_true, decide_eq_true_eq] at hx1 hy1
      exact hJ.ne x hx y hy hne (hL _ hx1.1.2) (hL _ hy1.1.2)
    · have := (hJ.res r hr).2
      rwa [if_pos (hL _ (hres r hr).2.2)] at this
variable {a:Act} {sp:List (Option Value)} {vs vs_:List Var} {out:Option Res} {w0:World} {i:Nat} {o:Oper}
theorem OwesV.val(v:Value)(hc:calm vs out i=true)(hw:∀γ,Region.wanted o (yielded ops (fr ops a (exo ops a i o (spx sp) γ)).tmps)=true)(hv:∀w,spT (spx sp) i v w)
  (h:∀γ w,(execOp (fr ops a (exo ops a i o (spx sp) γ)).eval o).run P w=.ok (.value v) w):OwesV P ops a sp vs out w0 i o:=by
 intro Q K L γ w hLi hdl hcl hun hJ hd hK
 have e:=exo_eq hLi hcl hun hd
 have h1:=hw γ
 have h2:=h γ w
 rw[e] at h1 h2
 rw[if_pos h1]
 exact wp_val h2 (hK v w (hv w) (hJ.same hc (Below.refl _ _) v) trivial)
theorem OwesV.read(v:Value)(hc:calm vs out i=true)(hw:∀γ,Region.wanted o (yielded ops (fr ops a (exo ops a i o (spx sp) γ)).tmps)=true)(hv:∀w,spT (spx sp) i v w)
  (h:∀γ w,w0.grownBy w (out.map Res.g)→(execOp (fr ops a (exo ops a i o (spx sp) γ)).eval o).run P w=.ok (.value v) w):OwesV P ops a sp vs out w0 i o:=by
 intro Q K L γ w hLi hdl hcl hun hJ hd hK
 have e:=exo_eq hLi hcl hun hd
 have h1:=hw γ
 have h2:=h γ w hJ.gr
 rw[e] at h1 h2
 rw[if_pos h1]
 exact wp_val h2 (hK v w (hv w) (hJ.same hc (Below.refl _ _) v) trivial)
theorem run_load_op{op:Oper}{a:Act}{w:World}(ty:TypeId)(x:Operand)(ho:op.op=.load ty x)
  (g o n:Nat) (hx:a.eval x=.pointer (some ⟨g,o,none⟩)) (t:TypeId) (cs:Array Value) (hb:Bl w g t cs) (d:TypeDesc) (hle:o+n≤cs.size) (vs:Array Value) (hvs:cs.extract o (o+n)=vs)
  (hu:P.underlying ty=some d) (hd:d.isRow=true) (hi:(P.info? ty).map (·.size)=some n):(execOp a.eval op).run P w=.ok (.value (.agg vs)) w:=by
 subst hvs
 have hl:(cs.extract o (o+n)).toList.length=n:=by simp;omega
 unfold execOp
 simp only[ho,hx,Instr.loadAt,Instr.sureAddr,Sem.run_bind,Sem.run_pure,Result.andThen_ok,run_loadVar_mid w g o ty (cs.extract o (o+n)).toList d (World.rangeAt_of_block hb o n) hu hd (by rw[hl];exact hi),Array.toArray_toList]
theorem run_cell_op{op:Oper}{a:Act}{w:World}(ty:TypeId)(x:Operand)(ho:op.op=.load ty x)
  (ad:Addr) (hx:a.eval x=.pointer (some ad)) (v:Value) (hc:w.cell? ad=some v) (d:TypeDesc) (hu:P.underlying ty=some d) (hd:d.isRow=false):(execOp a.eval op).run P w=.ok (.value v) w:=by
 unfold execOp
 have hagg:(isAgg ty).run P w=.ok false w:=by
  unfold isAgg
  simp only[Sem.run_bind,run_underlying hu,Result.andThen_ok]
  cases d <;> first|rfl|cases hd
 simp[ho,hx,Instr.loadAt,Instr.sureAddr,loadVar,hagg,hc]
theorem OwesV.load(g k n:Nat)(t:TypeId)(cs:Array Value)(hb:Bl w0 g t cs)(hg:out.map Res.g≠some g)(vs:Array Value)(ty:TypeId)(x:Operand)(d:TypeDesc)(hc:calm vs_ out i=true)(hw:∀γ,Region.wanted o (yielded ops (fr ops a (exo ops a i o (spx sp) γ)).tmps)=true)(hv:∀w,spT (spx sp) i (.agg vs) w)
  (ho:o.op=.load ty x) (hx:∀γ,(fr ops a (exo ops a i o (spx sp) γ)).eval x=.pointer (some ⟨g,k,none⟩)) (hle:k+n≤cs.size) (hvs:cs.extract k (k+n)=vs)
  (hu:P.underlying ty=some d) (hd:d.isRow=true) (hi:(P.info? ty).map (·.size)=some n):OwesV P ops a sp vs_ out w0 i o :=
 OwesV.read (.agg vs) hc hw hv fun γ w hgr=>run_load_op ty x ho g k n (hx γ) t cs (hb.grown hgr hg) d hle vs hvs hu hd hi
theorem OwesV.cell(ad:Addr)(v:Value)(hcell:w0.cell? ad=some v)(hg:out.map Res.g≠some ad.block)(ty:TypeId)(x:Operand)(d:TypeDesc)(hc:calm vs_ out i=true)(hw:∀γ,Region.wanted o (yielded ops (fr ops a (exo ops a i o (spx sp) γ)).tmps)=true)(hv:∀w,spT (spx sp) i v w)
  (ho:o.op=.load ty x) (hx:∀γ,(fr ops a (exo ops a i o (spx sp) γ)).eval x=.pointer (some ad)) (hu:P.underlying ty=some d) (hd:d.isRow=false):OwesV P ops a sp vs_ out w0 i o :=
 OwesV.read v hc hw hv fun γ w hgr=>run_cell_op ty x ho ad (hx γ) v ((only_cell hgr (cell_lt hcell) hg).trans hcell) d hu hd
theorem OwesV.call(f:FuncId)(args:Array Value)(v:Value)(hc:calm vs out i=true)(hw:∀γ,Region.wanted o (yielded ops (fr ops a (exo ops a i o (spx sp) γ)).tmps)=true)(hv:∀w,spT (spx sp) i v w)
  (h:∀γ w,(execOp (fr ops a (exo ops a i o (spx sp) γ)).eval o).run P w=.ok (.enter f args) w)
  (hC:∀w,w0.grownBy w (out.map Res.g)→Calls P f args w fun e w'=>e=.returned v∧Below w.heap.size w w'):OwesV P ops a sp vs out w0 i o:=by
 intro Q K L γ w hLi hdl hcl hun hJ hd hK
 have e:=exo_eq hLi hcl hun hd
 have h1:=hw γ
 have h2:=h γ w
 rw[e] at h1 h2
 rw[if_pos h1]
 exact wp_enter h2 ((hC w hJ.gr).mono (by rintro e w' ⟨he,hb⟩;exact⟨v,he,hK v w' (hv w') (hJ.same hc hb v) trivial⟩))
theorem OwesV.new_(x:Var)(hx:x∈vs)(hi:x.k=i)(hal:alone vs out ops.size=true)(hk:(vs.map (·.k)).Nodup)(hv:∀v w,spT (spx sp) i v w)(hw:∀γ,Region.wanted o (yielded ops (fr ops a (exo ops a i o (spx sp) γ)).tmps)=true)
  (h:∀γ w,(execOp (fr ops a (exo ops a i o (spx sp) γ)).eval o).run P w=.ok (.value (.pointer (some ⟨w.heap.size,0,none⟩))) (w.alloc (.cells x.z x.t))):OwesV P ops a sp vs out w0 i o:=by
 subst hi
 intro Q K L γ w hLi hdl hcl hun hJ hd hK
 have e:=exo_eq hLi hcl hun hd
 have h1:=hw γ
 have h2:=h γ w
 rw[e] at h1 h2
 rw[if_pos h1]
 exact wp_val h2 (hK _ _ (hv _ _) (hJ.new_ hal hk hx hLi) trivial)
theorem OwesV.put_(x:Var)(hx:x∈vs)(hi:x.s=i)(hal:alone vs out ops.size=true)(hk:(vs.map (·.k)).Nodup)(hv:∀v w,spT (spx sp) i v w)(hw:∀γ,Region.wanted o (yielded ops (fr ops a (exo ops a i o (spx sp) γ)).tmps)=true)
  (hdep:dep o x.k=true) (ty:TypeId) (xo yo:Operand) (ho:o.op=.store ty xo yo) (hxo:∀γ,(fr ops a (exo ops a i o (spx sp) γ)).eval xo=γ x.k) (hyo:∀γ,(fr ops a (exo ops a i o (spx sp) γ)).eval yo=.agg x.cs)
  (hz:x.z.size=x.cs.size) (hsz:(P.info? ty).map (·.size)=some x.cs.size) (h1c:∀v∈x.cs.toList,v.oneCell'=true):OwesV P ops a sp vs out w0 i o:=by
 subst hi
 intro Q K L γ w hLi hdl hcl hun hJ hd hK
 have e:=exo_eq hLi hcl hun hd
 have h1:=hw γ
 have h2:=hxo γ
 have h3:=hyo γ
 rw[e] at h1 h2 h3
 rw[if_pos h1]
 have hLk:=hdl _ hdep
 obtain⟨g,e1,e2,e3⟩:=hJ.at_ x hx hLk
 rw[hLi] at e3
 refine wp_store_bl ty xo yo ho g 0 x.cs (by rw[h2];exact e1) h3 x.t x.z e3 (by omega) hsz h1c fun w' hb hg=>?_
 rw[spl_all _ _ (by simpa using hz)] at hb
 exact hK undef w' (hv _ _) (hJ.put_ hal hx hLk e1 (by simpa using hb) hg undef (fun y hy e=>nodup_uniq hk hx hy e)) trivial
theorem OwesV.res_{r:Res}(hi:r.s=i)(hal:alone vs (some r) ops.size=true)(hv:∀v w,spT (spx sp) i v w)(hw:∀γ,Region.wanted o (yielded ops (fr ops a (exo ops a i o (spx sp) γ)).tmps)=true)
  (ty:TypeId) (xo yo:Operand) (ho:o.op=.store ty xo yo) (hxo:∀γ,(fr ops a (exo ops a i o (spx sp) γ)).eval xo=.pointer (some ⟨r.g,0,none⟩)) (hyo:∀γ,(fr ops a (exo ops a i o (spx sp) γ)).eval yo=.agg r.cs)
  (hz:r.z.size=r.cs.size) (hsz:(P.info? ty).map (·.size)=some r.cs.size) (h1c:∀v∈r.cs.toList,v.oneCell'=true):OwesV P ops a sp vs (some r) w0 i o:=by
 subst hi
 intro Q K L γ w hLi hdl hcl hun hJ hd hK
 have e:=exo_eq hLi hcl hun hd
 have h1:=hw γ
 have h2:=hxo γ
 have h3:=hyo γ
 rw[e] at h1 h2 h3
 rw[if_pos h1]
 obtain⟨e2,e3⟩:=hJ.res r rfl
 rw[hLi] at e3
 refine wp_store_bl ty xo yo ho r.g 0 r.cs h2 h3 r.t r.z e3 (by omega) hsz h1c fun w' hb hg=>?_
 rw[spl_all _ _ (by simpa using hz)] at hb
 exact hK undef w' (hv _ _) (hJ.res_ hal (by simpa using hb) hg undef) trivial
theorem OwesV.load_out{r:Res}(os:Oper)(hos:ops[r.s]?=some os)(hdep:dep os i=true)(k n:Nat)(vs:Array Value)(ty:TypeId)(x:Operand)(d:TypeDesc)(hc:calm vs_ (some r) i=true)(hw:∀γ,Region.wanted o (yielded ops (fr ops a (exo ops a i o (spx sp) γ)).tmps)=true)(hv:∀w,spT (spx sp) i (.agg vs) w)
  (ho:o.op=.load ty x) (hx:∀γ,(fr ops a (exo ops a i o (spx sp) γ)).eval x=.pointer (some ⟨r.g,k,none⟩)) (hle:k+n≤r.z.size) (hvs:r.z.extract k (k+n)=vs)
  (hu:P.underlying ty=some d) (hd:d.isRow=true) (hi:(P.info? ty).map (·.size)=some n):OwesV P ops a sp vs_ (some r) w0 i o:=by
 intro Q K L γ w hLi hdl hcl hun hJ hde hK
 have e:=exo_eq hLi hcl hun hde
 have h1:=hw γ
 have h2:=hx γ
 rw[e] at h1 h2
 rw[if_pos h1]
 have hLs:L r.s=false:=by
  cases hb:L r.s with
  |false=>rfl
  |true=>rw[hcl _ _ hos hb _ hdep] at hLi;cases hLi
 obtain⟨q1,q2⟩:=hJ.res r rfl
 rw[hLs] at q2
 exact wp_val (run_load_op ty x ho r.g k n h2 r.t r.z q2 d hle vs hvs hu hd hi) (hK _ w (hv w) (hJ.same hc (Below.refl _ _) _) trivial)
theorem OwesV.res_mid{r:Res}(hi:r.s=i)(hal:alone vs (some r) ops.size=true)(hv:∀v w,spT (spx sp) i v w)(hw:∀γ,Region.wanted o (yielded ops (fr ops a (exo ops a i o (spx sp) γ)).tmps)=true)
  (ty:TypeId) (xo yo:Operand) (ho:o.op=.store ty xo yo) (k:Nat) (us:Array Value) (hxo:∀γ,(fr ops a (exo ops a i o (spx sp) γ)).eval xo=.pointer (some ⟨r.g,k,none⟩)) (hyo:∀γ,(fr ops a (exo ops a i o (spx sp) γ)).eval yo=.agg us)
  (hle:k+us.size≤r.z.size) (hcs:spl r.z k us.toList=r.cs) (hsz:(P.info? ty).map (·.size)=some us.size) (h1c:∀v∈us.toList,v.oneCell'=true):OwesV P ops a sp vs (some r) w0 i o:=by
 subst hi
 intro Q K L γ w hLi hdl hcl hun hJ hd hK
 have e:=exo_eq hLi hcl hun hd
 have h1:=hw γ
 have h2:=hxo γ
 have h3:=hyo γ
 rw[e] at h1 h2 h3
 rw[if_pos h1]
 obtain⟨e2,e3⟩:=hJ.res r rfl
 rw[hLi] at e3
 refine wp_store_bl ty xo yo ho r.g k us h2 h3 r.t r.z e3 hle hsz h1c fun w' hb hg=>?_
 rw[hcs] at hb
 exact hK undef w' (hv _ _) (hJ.res_ hal hb hg undef) trivial
theorem OwesV.pass(hc:calm vs out i=true)(hw:∀γ,Region.wanted o (yielded ops (fr ops a (exo ops a i o (spx sp) γ)).tmps)=false)(hv:∀w,spT (spx sp) i undef w):OwesV P ops a sp vs out w0 i o:=by
 intro Q K L γ w hLi hdl hcl hun hJ hd hK
 have e:=exo_eq hLi hcl hun hd
 have h1:=hw γ
 rw[e] at h1
 rw[if_neg (by rw[h1];decide)]
 exact hK undef w (hv w) (hJ.same hc (Below.refl _ _) undef) trivial
end
end Go.Proofs.YtoibhnpmemnlfaaGreatDoor.Gn
namespace Go.Proofs.YtoibhnpmemnlfaaGreatDoor.Gn
open Go.RowKit Go.Deep
section
variable {P:Program}
theorem run_load_var{w:World}(ty:TypeId)(g:Nat)(t:TypeId)(cs:Array Value)(hb:Bl w g t cs){d:TypeDesc}(hu:P.underlying ty=some d)(hd:d.isRow=true)(hi:(P.info? ty).map (·.size)=some cs.size) :
  (loadVar ty ⟨g,0,none⟩).run P w=.ok (.agg cs) w:=by
 have:=run_loadVar_mid (P:=P) w g 0 ty cs.toList d (fun j v hj=>by
  rw[Nat.zero_add,hb.cell];simpa using hj) hu hd (by simpa using hi)
 simpa using this
theorem results_cell{fn:Func}{tm:Array Value}{w:World}(s:Nat)(ty:TypeId)(g:Nat)(t:TypeId)(cs:Array Value)(h:fn.results = #[.cell s ty])(hp:tm.getD s undef=.pointer (some ⟨g,0,none⟩))(hb:Bl w g t cs){d:TypeDesc}(hu:P.underlying ty=some d)(hd:d.isRow=true)(hi:(P.info? ty).map (·.size)=some cs.size) :
  (results fn tm).run P w=.ok (.agg cs) w:=by
 have:=run_load_var (P:=P) ty g t cs hb hu hd hi
 rw[Array.getD_eq_getD_getElem?] at hp
 simp[results,h,hp,asAddr,this]
theorem results_tmp{fn:Func}{tm:Array Value}{w:World}(s:Nat)(v:Value)(h:fn.results = #[.tmp s])(hp:tm.getD s undef=v):(results fn tm).run P w=.ok v w:=by
 subst hp
 simp[results,h]
theorem results_cell_tmp{fn:Func}{tm:Array Value}{w:World}(s:Nat)(ty:TypeId)(s2:Nat)(v:Value)(g:Nat)(t:TypeId)(cs:Array Value)(h:fn.results = #[.cell s ty,.tmp s2])(hp:tm.getD s undef=.pointer (some ⟨g,0,none⟩))(hp2:tm.getD s2 undef=v)(hb:Bl w g t cs){d:TypeDesc}(hu:P.underlying ty=some d)(hd:d.isRow=true)(hi:(P.info? ty).map (·.size)=some cs.size) :
  (results fn tm).run P w=.ok (.tuple #[.agg cs,v]) w:=by
 subst hp2
 have:=run_load_var (P:=P) ty g t cs hb hu hd hi
 rw[Array.getD_eq_getD_getElem?] at hp
 simp[results,h,hp,asAddr,this]
end
section
variable {P:Program} {c:Code} {Q:Exit→Act→World→Prop} {a:Act}
theorem at_box1(w:World)(T:TypeId)(x:Array Value)(h:∀W,Bl W w.heap.size T x→Below w.heap.size w W→W.heap.size=w.heap.size+1→Code.wp P c Q a W):Code.wp P c Q a (w.alloc (.cells x T)) :=
 h _ (Bl.new_ w T x) ((Below.refl _ _).alloc (Nat.le_refl _) _) (by simp)
theorem at_box2(w:World)(T U:TypeId)(x y:Array Value)(h:∀W,Bl W w.heap.size T x→Bl W (w.heap.size+1) U y→Below w.heap.size w W→W.heap.size=w.heap.size+2→Code.wp P c Q a W):Code.wp P c Q a ((w.alloc (.cells x T)).alloc (.cells y U)) :=
 h _ ((Bl.new_ w T x).alloc _) (Bl.new' _ _ (by simp)) (((Below.refl _ _).alloc (Nat.le_refl _) _).alloc (by simp) _) (by simp)
theorem at_box3(w:World)(T U V:TypeId)(x y z:Array Value)(h:∀W,Bl W w.heap.size T x→Bl W (w.heap.size+1) U y→Bl W (w.heap.size+1+1) V z→Below w.heap.size w W→W.heap.size=w.heap.size+3→Code.wp P c Q a W):Code.wp P c Q a (((w.alloc (.cells x T)).alloc (.cells y U)).alloc (.cells z V)) :=
 h _ (((Bl.new_ w T x).alloc _).alloc _) ((Bl.new' _ _ (by simp)).alloc _) (Bl.new' _ _ (by simp)) ((((Below.refl _ _).alloc (Nat.le_refl _) _).alloc (by simp) _).alloc (by simp;omega) _) (by simp)
theorem at_box5(w:World)(T U V S R:TypeId)(x y z s r:Array Value)(h:∀W,Bl W w.heap.size T x→Bl W (w.heap.size+1) U y→Bl W (w.heap.size+1+1) V z→Bl W (w.heap.size+1+1+1) S s→Bl W (w.heap.size+1+1+1+1) R r→Below w.heap.size w W→W.heap.size=w.heap.size+5→Code.wp P c Q a W):Code.wp P c Q a (((((w.alloc (.cells x T)).alloc (.cells y U)).alloc (.cells z V)).alloc (.cells s S)).alloc (.cells r R)) :=
 h _ (((((Bl.new_ w T x).alloc _).alloc _).alloc _).alloc _) ((((Bl.new' _ _ (by simp)).alloc _).alloc _).alloc _) (((Bl.new' _ _ (by simp)).alloc _).alloc _) ((Bl.new' _ _ (by simp)).alloc _) (Bl.new' _ _ (by simp)) ((((((Below.refl _ _).alloc (Nat.le_refl _) _).alloc (by simp) _).alloc (by simp;omega) _).alloc (by simp;omega) _).alloc (by simp;omega) _) (by simp)
end
theorem below_only{w W w':World}{g:Nat}(h:Below w.heap.size w W)(hg:W.grownBy w' (some g))(hgw:w.heap.size≤g):Below w.heap.size w w':=h.grown hg h.size (fun k e=>by cases e;exact hgw)
theorem below_none{w W w':World}(h:Below w.heap.size w W)(hg:W.grownBy w' none):Below w.heap.size w w':=h.grown hg h.size (fun k e=>by cases e)
end Go.Proofs.YtoibhnpmemnlfaaGreatDoor.Gn
namespace Go.Proofs.YtoibhnpmemnlfaaGreatDoor.Gn
open Go.RowKit Go.Deep
section
variable {P:Program} {ops:Array Oper}
theorem run_range_op{op:Oper}{a:Act}{w:World}(ty:TypeId)(x:Operand)(ho:op.op=.load ty x)(g:Nat)(hx:a.eval x=.pointer (some ⟨g,0,none⟩))(l:List Value)(hr:w.rangeAt g 0 l){d:TypeDesc}(hu:P.underlying ty=some d)(hd:d.isRow=true)(hi:(P.info? ty).map (·.size)=some l.length) :
  (execOp a.eval op).run P w=.ok (.value (.agg l.toArray)) w:=by
 unfold execOp
 simp only[ho,hx,Instr.loadAt,Instr.sureAddr,Sem.run_bind,Sem.run_pure,Result.andThen_ok,run_loadVar_mid w g 0 ty l d hr hu hd hi]
theorem range_only{w w':World}{g:Nat}{l:List Value}(h:w.rangeAt g 0 l){row:Option Nat}(hg:w.grownBy w' row)(hr:row≠some g):w'.rangeAt g 0 l:=fun j v hj=>by
 have:=h j v hj
 exact(only_cell hg (cell_lt this) hr).trans this
theorem spx_is{sp:List (Option Value)}{i:Nat}{v:Value}(h:sp[i]?=some (some v))(w:World):spT (spx sp) i v w:=by
 unfold spT spx
 rw[List.getD_eq_getElem?_getD,List.getElem?_map,h]
 rfl
theorem spx_none{sp:List (Option Value)}{i:Nat}(h:sp[i]?=some none)(v:Value)(w:World):spT (spx sp) i v w:=by
 unfold spT spx
 rw[List.getD_eq_getElem?_getD,List.getElem?_map,h]
 trivial
structure OV (P:Program) (ops:Array Oper) (a:Act) (sp:List (Option Value)) (vs:List Var) (out:Option Res) (w0:World) (i:Nat) (o:Oper):Prop where
 out:OwesV P ops a sp vs out w0 i o
theorem each_mono{p q:Nat→Oper→Prop}(h:∀i o,p i o→q i o):∀(l:List Oper) (k:Nat),Each l k p→Each l k q:=by
 intro l
 induction l with
 |nil=>intro k _;trivial
 |cons o l ih=>intro k hp;exact⟨h _ _ hp.1,ih _ hp.2⟩
theorem wp_region_o{Q:Exit→Act→World→Prop}{id:Nat}{b:Bool}{a:Act}{w:World}(sp:List (Option Value))(vs:List Var)(out:Option Res)
  (hm:P.follows .mixedOrders=true) (ha:apart_ (ops.toList.map (·.dst))=true) (hl:lates ops.toList 0=true) (hn:Nat.ble sp.length ops.size=true) (hal:alone vs out ops.size=true)
  (hres:∀r∈out,r.g < w.heap.size∧Bl w r.g r.t r.z∧r.s < ops.size)
  (each:Each ops.toList 0 (OV P ops a sp vs out w))
  (fin:∀γ w',w.grownBy w' (out.map Res.g)→(∀x∈vs,∃g,γ x.k=.pointer (some ⟨g,0,none⟩)∧w.heap.size≤g∧Bl w' g x.t x.cs)→(∀x∈vs,∀y∈vs,x.k≠y.k→γ x.k≠γ y.k)→(∀r∈out,Bl w' r.g r.t r.cs)→Q .normal (fr ops a (exa (spx sp) γ)) w') :
  (Code.region id ops b).wp P Q a w :=
 wp_region_v sp vs out hm ha hl (Nat.le_of_ble_eq_true hn) hal hres (each_mono (fun _ _ h=>h.out) _ _ each) fin
section
variable {a:Act} {sp:List (Option Value)} {vs_:List Var} {out:Option Res} {w0:World} {i:Nat} {o:Oper}
theorem OV.val(v:Value)(hc:calm vs_ out i=true)(hw:∀γ,Region.wanted o (yielded ops (fr ops a (exo ops a i o (spx sp) γ)).tmps)=true)(hv:sp[i]?=some (some v))
  (h:∀γ w,(execOp (fr ops a (exo ops a i o (spx sp) γ)).eval o).run P w=.ok (.value v) w):OV P ops a sp vs_ out w0 i o:=⟨OwesV.val v hc hw (spx_is hv) h⟩
theorem OV.pass(hc:calm vs_ out i=true)(hw:∀γ,Region.wanted o (yielded ops (fr ops a (exo ops a i o (spx sp) γ)).tmps)=false)(hv:sp[i]?=some (some undef)):OV P ops a sp vs_ out w0 i o:=⟨OwesV.pass hc hw (spx_is hv)⟩
theorem OV.load(g k n:Nat)(t:TypeId)(cs:Array Value)(hb:Bl w0 g t cs)(hg:out.map Res.g≠some g)(vs:Array Value)(ty:TypeId)(x:Operand)(d:TypeDesc)(hc:calm vs_ out i=true)(hw:∀γ,Region.wanted o (yielded ops (fr ops a (exo ops a i o (spx sp) γ)).tmps)=true)(hv:sp[i]?=some (some (.agg vs)))
  (ho:o.op=.load ty x) (hx:∀γ,(fr ops a (exo ops a i o (spx sp) γ)).eval x=.pointer (some ⟨g,k,none⟩)) (hle:Nat.ble (k+n) cs.size=true) (hvs:cs.extract k (k+n)=vs)
  (hu:P.underlying ty=some d) (hd:d.isRow=true) (hi:(P.info? ty).map (·.size)=some n):OV P ops a sp vs_ out w0 i o :=
 ⟨OwesV.load g k n t cs hb hg vs ty x d hc hw (spx_is hv) ho hx (Nat.le_of_ble_eq_true hle) hvs hu hd hi⟩
theorem OV.cell(ad:Addr)(v:Value)(hcell:w0.cell? ad=some v)(hg:out.map Res.g≠some ad.block)(ty:TypeId)(x:Operand)(d:TypeDesc)(hc:calm vs_ out i=true)(hw:∀γ,Region.wanted o (yielded ops (fr ops a (exo ops a i o (spx sp) γ)).tmps)=true)(hv:sp[i]?=some (some v))
  (ho:o.op=.load ty x) (hx:∀γ,(fr ops a (exo ops a i o (spx sp) γ)).eval x=.pointer (some ad)) (hu:P.underlying ty=some d) (hd:d.isRow=false):OV P ops a sp vs_ out w0 i o :=
 ⟨OwesV.cell ad v hcell hg ty x d hc hw (spx_is hv) ho hx hu hd⟩
theorem OV.call(f:FuncId)(args:Array Value)(v:Value)(hc:calm vs_ out i=true)(hw:∀γ,Region.wanted o (yielded ops (fr ops a (exo ops a i o (spx sp) γ)).tmps)=true)(hv:sp[i]?=some (some v))
  (h:∀γ w,(execOp (fr ops a (exo ops a i o (spx sp) γ)).eval o).run P w=.ok (.enter f args) w)
  (hC:∀w,w0.grownBy w (out.map Res.g)→Calls P f args w fun e w'=>e=.returned v∧Below w.heap.size w w'):OV P ops a sp vs_ out w0 i o:=⟨OwesV.call f args v hc hw (spx_is hv) h hC⟩
theorem OV.new_(x:Var)(hx:x∈vs_)(hi:x.k=i)(hal:alone vs_ out ops.size=true)(hk:(vs_.map (·.k)).Nodup)(hv:sp[i]?=some none)(hw:∀γ,Region.wanted o (yielded ops (fr ops a (exo ops a i o (spx sp) γ)).tmps)=true)
  (h:∀γ w,(execOp (fr ops a (exo ops a i o (spx sp) γ)).eval o).run P w=.ok (.value (.pointer (some ⟨w.heap.size,0,none⟩))) (w.alloc (.cells x.z x.t))):OV P ops a sp vs_ out w0 i o:=⟨OwesV.new_ x hx hi hal hk (spx_none hv) hw h⟩
theorem OV.put_(x:Var)(hx:x∈vs_)(hi:x.s=i)(hal:alone vs_ out ops.size=true)(hk:(vs_.map (·.k)).Nodup)(hv:sp[i]?=some none)(hw:∀γ,Region.wanted o (yielded ops (fr ops a (exo ops a i o (spx sp) γ)).tmps)=true)
  (hdep:dep o x.k=true) (ty:TypeId) (xo yo:Operand) (ho:o.op=.store ty xo yo) (hxo:∀γ,(fr ops a (exo ops a i o (spx sp) γ)).eval xo=γ x.k) (hyo:∀γ,(fr ops a (exo ops a i o (spx sp) γ)).eval yo=.agg x.cs)
  (hz:x.z.size=x.cs.size) (hsz:(P.info? ty).map (·.size)=some x.cs.size) (h1c:∀v∈x.cs.toList,v.oneCell'=true):OV P ops a sp vs_ out w0 i o:=⟨OwesV.put_ x hx hi hal hk (spx_none hv) hw hdep ty xo yo ho hxo hyo hz hsz h1c⟩
theorem OV.res_{r:Res}(hi:r.s=i)(hal:alone vs_ (some r) ops.size=true)(hv:sp[i]?=some none)(hw:∀γ,Region.wanted o (yielded ops (fr ops a (exo ops a i o (spx sp) γ)).tmps)=true)
  (ty:TypeId) (xo yo:Operand) (ho:o.op=.store ty xo yo) (hxo:∀γ,(fr ops a (exo ops a i o (spx sp) γ)).eval xo=.pointer (some ⟨r.g,0,none⟩)) (hyo:∀γ,(fr ops a (exo ops a i o (spx sp) γ)).eval yo=.agg r.cs)
  (hz:r.z.size=r.cs.size) (hsz:(P.info? ty).map (·.size)=some r.cs.size) (h1c:∀v∈r.cs.toList,v.oneCell'=true):OV P ops a sp vs_ (some r) w0 i o:=⟨OwesV.res_ hi hal (spx_none hv) hw ty xo yo ho hxo hyo hz hsz h1c⟩
theorem OV.load_out{r:Res}(hdep:(ops[r.s]?).any (fun os=>dep os i)=true)(k n:Nat)(vs:Array Value)(ty:TypeId)(x:Operand)(d:TypeDesc)(hc:calm vs_ (some r) i=true)(hw:∀γ,Region.wanted o (yielded ops (fr ops a (exo ops a i o (spx sp) γ)).tmps)=true)(hv:sp[i]?=some (some (.agg vs)))
  (ho:o.op=.load ty x) (hx:∀γ,(fr ops a (exo ops a i o (spx sp) γ)).eval x=.pointer (some ⟨r.g,k,none⟩)) (hle:Nat.ble (k+n) r.z.size=true) (hvs:r.z.extract k (k+n)=vs)
  (hu:P.underlying ty=some d) (hd:d.isRow=true) (hi:(P.info? ty).map (·.size)=some n):OV P ops a sp vs_ (some r) w0 i o:=by
 cases hos:ops[r.s]? with
 |none=>rw[hos] at hdep;cases hdep
 |some os =>
  rw[hos] at hdep
  exact⟨OwesV.load_out os hos (by simpa using hdep) k n vs ty x d hc hw (spx_is hv) ho hx (Nat.le_of_ble_eq_true hle) hvs hu hd hi⟩
theorem OV.res_mid{r:Res}(hi:r.s=i)(hal:alone vs_ (some r) ops.size=true)(hv:sp[i]?=some none)(hw:∀γ,Region.wanted o (yielded ops (fr ops a (exo ops a i o (spx sp) γ)).tmps)=true)
  (ty:TypeId) (xo yo:Operand) (ho:o.op=.store ty xo yo) (k:Nat) (us:Array Value) (hxo:∀γ,(fr ops a (exo ops a i o (spx sp) γ)).eval xo=.pointer (some ⟨r.g,k,none⟩)) (hyo:∀γ,(fr ops a (exo ops a i o (spx sp) γ)).eval yo=.agg us)
  (hle:Nat.ble (k+us.size) r.z.size=true) (hcs:spl r.z k us.toList=r.cs) (hsz:(P.info? ty).map (·.size)=some us.size) (h1c:∀v∈us.toList,v.oneCell'=true):OV P ops a sp vs_ (some r) w0 i o:=⟨OwesV.res_mid hi hal (spx_none hv) hw ty xo yo ho k us hxo hyo (Nat.le_of_ble_eq_true hle) hcs hsz h1c⟩
theorem OV.range(g:Nat)(l:List Value)(hr:w0.rangeAt g 0 l)(hg:out.map Res.g≠some g)(ty:TypeId)(x:Operand)(hc:calm vs_ out i=true)(hw:∀γ,Region.wanted o (yielded ops (fr ops a (exo ops a i o (spx sp) γ)).tmps)=true)(hv:sp[i]?=some (some (.agg l.toArray)))
  (ho:o.op=.load ty x) (hx:∀γ,(fr ops a (exo ops a i o (spx sp) γ)).eval x=.pointer (some ⟨g,0,none⟩)) {d:TypeDesc} (hu:P.underlying ty=some d) (hd:d.isRow=true) (hi:(P.info? ty).map (·.size)=some l.length):OV P ops a sp vs_ out w0 i o :=
 ⟨OwesV.read _ hc hw (spx_is hv) fun γ w hgr=>run_range_op ty x ho g (hx γ) l (range_only hr hgr hg) hu hd hi⟩
end
end
end Go.Proofs.YtoibhnpmemnlfaaGreatDoor.Gn
