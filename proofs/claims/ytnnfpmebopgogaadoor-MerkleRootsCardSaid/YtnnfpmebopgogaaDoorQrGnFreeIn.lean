/- Joined texts. -/
import Derived.RangeFuncOwn
import Derived.RangeFuncCalls
import Derived.OrdersIn
import Derived.ControlIn
import Derived.Test.YtnnfpmebopgogaaDoorQrGnFree
set_option linter.unusedVariables false
namespace Go.Proofs.YtnnfpmebopgogaaDoor.Gn
open Go.RowKit Go.Deep
section
variable {P:Program} {ops:Array Oper} {Q:Exit→Act→World→Prop} {md:Region.Mode}
theorem rowsIn_wide{n l:Nat}{row:String}{args:Array Value}{w:World}{R:Value→World→Prop}(h:Rows P row args w R):RowsIn (Fence.wide.inRound l) n P row args w R:=fun c cs _ =>
 let⟨v,w',r,s⟩:=h c cs;⟨v,w',r,stepsIn_wide.2 s⟩
theorem wpIn_of{n l:Nat}{o:Oper}{a:Act}{w:World}{K K':Act→World→Prop}(hd:∀c,o.op≠.defer c)(hK:∀a w,K a w→K' a w)(h:o.wp P a w K Q):o.wpIn (Fence.wide.inRound l) n P a w K' Q:=by
 refine⟨fun _ _=>trivial,?_⟩
 rw[Oper.semAt_eq _ _ _ hd]
 unfold Oper.wp at h
 generalize(execOp a.eval o).run P w=r at h ⊢
 cases r with
 |ok x w' =>
  cases x with
  |value v=>exact hK _ _ h
  |skip=>exact hK _ _ h
  |defer d=>exact hK _ _ h
  |enter f args =>
   refine⟨fun h=>(by cases h),CallsIn.inRound l (callsIn_wide.2 (Calls.mono h (fun e w'' he=>?_)))⟩
   cases e
   ·exact hK _ _ he
   ·exact he
   ·exact he
  |row r args=>exact⟨fun h=>(by cases h),rowsIn_wide (Rows.mono h (fun _ _ he=>hK _ _ he))⟩
  |_=>exact h.elim
 |halt x w'=>cases x <;> simp only[Oper.upon,Oper.uponIn] at h ⊢ <;> exact h
theorem wpAnyIn_of{n l:Nat}(hQ:¬LetsOut Q)(hd:∀o∈ops.toList,∀c,o.op≠.defer c):∀(k:Nat) (L:Array Bool) (a:Act) (w:World),wpAny P md ops Q k L a w→wpAnyIn (Fence.wide.inRound l) n P md ops Q k L a w:=by
 intro k
 induction k with
 |zero=>intro L a w h;exact h
 |succ k ih =>
  intro L a w h
  refine⟨h.1,fun i hi=>?_⟩
  have:=h.2 i hi
  unfold wpOp at this
  unfold wpOpIn
  cases ho:ops[i]? with
  |none=>rw[ho] at this;exact ih _ _ _ this
  |some o =>
   rw[ho] at this
   dsimp only at this ⊢
   have hdo:=hd o (Array.mem_toList_iff.2 (Array.mem_of_getElem? ho))
   split
   ·rename_i hw
    rw[if_pos hw] at this
    exact wpIn_of hdo (fun a w h=>ih _ a w h) (this.resolve_right fun h=>hQ h.2)
   ·rename_i hw
    rw[if_neg hw] at this
    exact⟨fun _ _=>trivial,ih _ _ _ this⟩
theorem wpIn_region_free {l0 n0 : Nat} {id : Nat} {a : Act} {w : World} (T : Nat → Value → World → Prop) (J : (Nat → Bool) → (Nat → Value) → World → Prop) (Chg : World → World → Prop)
    (hm : P.follows .mixedOrders = true) (ha : apart_ (ops.toList.map (·.dst)) = true) (hl : lates ops.toList 0 = true)
    (stab : ∀ j v w w', T j v w → Chg w w' → T j v w')
    (h0 : ∀ γ, J (fun _ => false) γ w.drew ∧ J (fun _ => false) γ w)
    (each : Each ops.toList 0 (Owes P ops a T J Chg))
    (hQ : ¬ LetsOut Q) (hdf : ∀ o ∈ ops.toList, ∀ c, o.op ≠ .defer c)
    (fin : ∀ L γ w', (∀ i, i < ops.size → L i = true) → (∀ i, i < ops.size → T i (γ i) w') → J L γ w' → Q .normal (fr ops a γ) w') :
    (Code.region id ops true).wpIn (Fence.wide.inRound l0) n0 P Q a w := by
  have key : (∀ L a' w', (∃ γ, a' = fr ops a γ ∧ L.size = ops.size ∧ (∀ j o', ops[j]? = some o' → L.getD j false = true → ∀ d, dep o' d = true → L.getD d false = true) ∧ (∀ j d, L.getD j false = false → (ops.toList.map (·.dst))[j]? = some (some d) → γ j = a.tmps.getD d undef) ∧ (∀ j, L.getD j false = true → T j (γ j) w') ∧ J (fun j => L.getD j false) γ w') → ∀ i ∈ Region.ready .any ops L, wpOp P ops Q i (fun a' w' => ∃ γ, a' = fr ops a γ ∧ (L.setIfInBounds i true).size = ops.size ∧ (∀ j o', ops[j]? = some o' → (L.setIfInBounds i true).getD j false = true → ∀ d, dep o' d = true → (L.setIfInBounds i true).getD d false = true) ∧ (∀ j d, (L.setIfInBounds i true).getD j false = false → (ops.toList.map (·.dst))[j]? = some (some d) → γ j = a.tmps.getD d undef) ∧ (∀ j, (L.setIfInBounds i true).getD j false = true → T j (γ j) w') ∧ J (fun j => (L.setIfInBounds i true).getD j false) γ w') a' w') ∧
      (∀ L a' w', (∃ γ, a' = fr ops a γ ∧ L.size = ops.size ∧ (∀ j o', ops[j]? = some o' → L.getD j false = true → ∀ d, dep o' d = true → L.getD d false = true) ∧ (∀ j d, L.getD j false = false → (ops.toList.map (·.dst))[j]? = some (some d) → γ j = a.tmps.getD d undef) ∧ (∀ j, L.getD j false = true → T j (γ j) w') ∧ J (fun j => L.getD j false) γ w') → Region.ready .any ops L = [] → Q .normal a' w') := by
   refine ⟨?_, ?_⟩
   · rintro L a' w' ⟨γ, rfl, hsz, hcl, hun, hT, hJ⟩ i hi
     obtain ⟨h1, o, ho, hdep⟩ := mem_ready.1 hi
     have hil : i < L.size := by
       have := (Array.getElem?_eq_some_iff.1 ho).1
       omega
     have h1' : L.getD i false = false := by
       simp [hil] at h1 ⊢; exact h1
     have hd : ∀ j, dep o j = true → L.getD j false = true := fun j hj => by
       obtain ⟨e, he, hb⟩ := Array.any_eq_true'.1 hj
       simp only [Bool.and_eq_true, beq_iff_eq] at hb
       rw [← hb.2]
       exact hdep e he hb.1
     have hL : (fun j => (L.setIfInBounds i true).getD j false) = fun j => if j = i then true else L.getD j false := by
       funext j
       by_cases e : j = i
       · subst e; simp [hil]
       · rw [if_neg e, getD_set_ne false (Ne.symm e)]
     have hcl2 : ∀ j o', ops[j]? = some o' → (L.setIfInBounds i true).getD j false = true → ∀ d, dep o' d = true → (L.setIfInBounds i true).getD d false = true := by
       intro j o' hj hlj d hdj
       have up : L.getD d false = true → (L.setIfInBounds i true).getD d false = true := fun h => getD_set_true h
       by_cases e : j = i
       · subst e
         rw [ho] at hj
         obtain rfl := Option.some.inj hj
         exact up (hd d hdj)
       · rw [getD_set_ne false (Ne.symm e)] at hlj
         exact up (hcl j o' hj hlj d hdj)
     have hun2 : ∀ v, ∀ j d, (L.setIfInBounds i true).getD j false = false → (ops.toList.map (·.dst))[j]? = some (some d) → upd γ i v j = a.tmps.getD d undef := by
       intro v j d hj hdj
       have hji : j ≠ i := by
         rintro rfl
         simp [hil] at hj
       rw [getD_set_ne false (Ne.symm hji)] at hj
       rw [show upd γ i v j = γ j by simp [upd, hji]]
       exact hun j d hj hdj
     refine wpOp_step ho fun K hK => ?_
     have := each_at _ _ _ _ _ each (show ops.toList[i]? = some o by rw [Array.getElem?_toList]; exact ho)
     rw [Nat.zero_add] at this
     have q : ∀ v w'', T i v w'' → J (fun j => if j = i then true else L.getD j false) (upd γ i v) w'' → Chg w' w'' → K ((fr ops a γ).put o.dst v) w'' := by
       intro v w'' h2 h3 h4
       refine hK _ _ ⟨upd γ i v, fr_put ho ha v, by simpa using hsz, (fun j o' hj hlj d hdj => hcl2 j o' hj hlj d hdj), hun2 v, fun j hj => ?_, by rw [hL]; exact h3⟩
       by_cases e : j = i
       · subst e; rw [show upd γ j v j = v by simp [upd]]; exact h2
       · rw [getD_set_ne false (Ne.symm e)] at hj
         rw [show upd γ i v j = γ j by simp [upd, e]]
         exact stab _ _ _ _ (hT j hj) h4
     exact this Q K (fun j => L.getD j false) γ w' h1' hd (fun j o' h1 h2 d h3 => hcl j o' h1 h2 d h3) (fun j d h1 h2 => hun j d h1 h2) hJ (fun j hj => hT j (hd j hj)) q
   · rintro L a' w' ⟨γ, rfl, hsz, hcl, hun, hT, hJ⟩ hr
     have all : ∀ i, i < ops.size → L.getD i false = true := by
       intro i
       induction i using Nat.strongRecOn with
       | ind i ih =>
         intro hi
         cases hb : L.getD i false with
         | true => rfl
         | false =>
           exfalso
           have ho : ops[i]? = some ops[i] := Array.getElem?_eq_getElem hi
           have hlt := lates_at _ _ _ _ hl (show ops.toList[i]? = some ops[i] by rw [Array.getElem?_toList]; exact ho)
           rw [Nat.zero_add] at hlt
           have : i ∈ Region.ready .any ops L := mem_ready.2 ⟨by simp [show i < L.size by omega] at hb ⊢; exact hb, _, ho, fun e he hbd => by
             have := Array.all_eq_true_iff_forall_mem.1 hlt e he
             simp only [hbd, Bool.not_true, Bool.false_or, decide_eq_true_eq] at this
             exact ih _ this (by omega)⟩
           rw [hr] at this
           cases this
     exact fin _ γ w' all (fun i hi => hT i (all i hi)) hJ
  obtain ⟨k1, k2⟩ := key
  have rep : (∀ j, (Array.replicate ops.size false).getD j false = false) := fun j => by
    by_cases hj2 : j < ops.size
    · simp [hj2]
    · simp [hj2]
  have first : ∀ w', J (fun _ => false) (fun i => match (ops.toList.map (·.dst))[i]? with | some (some d) => a.tmps.getD d undef | _ => undef) w' → ∃ γ, a = fr ops a γ ∧ (Array.replicate ops.size false).size = ops.size ∧ (∀ j o', ops[j]? = some o' → (Array.replicate ops.size false).getD j false = true → ∀ d, dep o' d = true → (Array.replicate ops.size false).getD d false = true) ∧ (∀ j d, (Array.replicate ops.size false).getD j false = false → (ops.toList.map (·.dst))[j]? = some (some d) → γ j = a.tmps.getD d undef) ∧ (∀ j, (Array.replicate ops.size false).getD j false = true → T j (γ j) w') ∧ J (fun j => (Array.replicate ops.size false).getD j false) γ w' := by
    intro w' hJ
    refine ⟨_, (fr_self a).symm, by simp, (fun j o' _ hj => by rw [rep j] at hj; cases hj), (fun j d _ hj => by rw [hj]), fun j hj => ?_, ?_⟩
    · rw [rep j] at hj; cases hj
    · rw [show (fun j => (Array.replicate ops.size false).getD j false) = fun _ => false from funext rep]
      exact hJ
  refine wpIn_region_any hm (wpAnyIn_of hQ hdf _ _ _ _ (wpAny_inv (I := fun L a' w' => ∃ γ, a' = fr ops a γ ∧ L.size = ops.size ∧ (∀ j o', ops[j]? = some o' → L.getD j false = true → ∀ d, dep o' d = true → L.getD d false = true) ∧ (∀ j d, L.getD j false = false → (ops.toList.map (·.dst))[j]? = some (some d) → γ j = a.tmps.getD d undef) ∧ (∀ j, L.getD j false = true → T j (γ j) w') ∧ J (fun j => L.getD j false) γ w') k1 k2 _ _ _ _ ?_ (first _ (h0 _).1)))
  unfold unl
  exact Nat.le_trans List.countP_le_length (by simp)
end
end Go.Proofs.YtnnfpmebopgogaaDoor.Gn
