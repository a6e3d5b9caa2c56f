/- Joined texts. -/
import Derived.Test.YtnnfpmebopgogaaDoorQnMpTop
import Derived.Test.YtnnfpmebopgogaaDoorQnMpRTop
set_option linter.unusedVariables false
namespace Go.Proofs.YtnnfpmebopgogaaDoor.Mk
open Go.RowKit Go.Proofs.YtnnfpmebopgogaaDoor.Gn Go.Proofs.YtnnfpmebopgogaaDoor.Fd Go.Deep
def pathL(ps:List (List Nat))(k:Nat):List (List Nat) :=
 if h:2≤ps.length then(if k < half ps.length then pathL (ps.take (half ps.length)) k ++ [topL (ps.drop (half ps.length))] else pathL (ps.drop (half ps.length)) (k - half ps.length) ++ [topL (ps.take (half ps.length))]) else[]
termination_by ps.length
decreasing_by
 ·have:=half_spec h;rw[List.length_take];omega
 ·have:=half_spec h;rw[List.length_drop];omega
theorem pathL_one{ps:List (List Nat)}(h:ps.length < 2)(k:Nat):pathL ps k=[]:=by rw[pathL,dif_neg (by omega)]
theorem pathL_first{ps:List (List Nat)}{k:Nat}(h:2≤ps.length)(hk:k < half ps.length):pathL ps k=pathL (ps.take (half ps.length)) k ++ [topL (ps.drop (half ps.length))]:=by rw[pathL,dif_pos h,if_pos hk]
theorem pathL_second{ps:List (List Nat)}{k:Nat}(h:2≤ps.length)(hk:¬k < half ps.length):pathL ps k=pathL (ps.drop (half ps.length)) (k - half ps.length) ++ [topL (ps.take (half ps.length))]:=by rw[pathL,dif_pos h,if_neg hk]
end Go.Proofs.YtnnfpmebopgogaaDoor.Mk
namespace Go.Proofs.YtnnfpmebopgogaaDoor.Mk
open Go.Proofs.YtnnfpmebopgogaaDoor.Fd
def Cl(xs:List (List Nat)):Prop:=∃a∈xs,∃b∈xs,a≠b∧Sh.dg false a=Sh.dg false b
theorem Cl.mono{xs ys:List (List Nat)}(h:Cl xs)(hs:∀a∈xs,a∈ys):Cl ys:=by
 obtain⟨a,ha,b,hb,h1,h2⟩:=h
 exact⟨a,hs a ha,b,hs b hb,h1,h2⟩
theorem cut_last{α:Type}{l:List α}(h:l≠[]):∃r x,l=r ++ [x]:=⟨l.dropLast,l.getLast h,(List.dropLast_concat_getLast h).symm⟩
theorem only_path:∀(N:Nat) (ps:List (List Nat)) (p:Nat) (x:List Nat) (pr:List (List Nat)),ps.length≤N→p < ps.length→(∀y∈ps,y.length=32)→x.length=32→(∀y∈pr,y.length=32)→pr.length=(way ps.length p).length →
  tops (way ps.length p) x pr=topL ps→(x=ps.getD p []∧pr=pathL ps p)∨Cl (texts (way ps.length p) x pr ++ txtL ps):=by
 intro N
 induction N with
 |zero=>intro ps p x pr h1 h2;omega
 |succ N ih =>
  intro ps p x pr hN hp h32 hx hpr hl ht
  by_cases h2:2≤ps.length
  ·have hs:=half_spec h2
   have e1:(ps.take (half ps.length)).length=half ps.length:=by rw[List.length_take];omega
   have e2:(ps.drop (half ps.length)).length=ps.length - half ps.length:=by rw[List.length_drop]
   have t1:∀y∈ps.take (half ps.length),y.length=32:=fun y hy=>h32 y (List.mem_of_mem_take hy)
   have t2:∀y∈ps.drop (half ps.length),y.length=32:=fun y hy=>h32 y (List.mem_of_mem_drop hy)
   have l1:=topL_len (ps:=ps.take (half ps.length)) (by omega) t1
   have l2:=topL_len (ps:=ps.drop (half ps.length)) (by omega) t2
   by_cases hc:half ps.length≤p
   ·rw[way_second h2 hc] at hl ht ⊢
    obtain⟨r,y,rfl⟩:=cut_last (l:=pr) (by intro e;rw[e] at hl;simp at hl)
    have hr:r.length=(way (ps.length - half ps.length) (p - half ps.length)).length:=by simpa using hl
    have hy:y.length=32:=hpr y (by simp)
    have hr32:∀z∈r,z.length=32:=fun z hz=>hpr z (List.mem_append_left _ hz)
    rw[tops_step,topL_step h2] at ht
    rw[texts_step,txtL_step h2,pathL_second h2 (by omega)]
    have lt:=tops_len (ws:=way (ps.length - half ps.length) (p - half ps.length)) (x:=x) (ps:=r) hx
    by_cases he:node true (tops (way (ps.length - half ps.length) (p - half ps.length)) x r) y=1 :: (topL (ps.take (half ps.length)) ++ topL (ps.drop (half ps.length)))
    ·have h3:y ++ tops (way (ps.length - half ps.length) (p - half ps.length)) x r=topL (ps.take (half ps.length)) ++ topL (ps.drop (half ps.length)):=by simpa[node] using he
     obtain⟨h4,h5⟩:=List.append_inj h3 (by rw[hy,l1])
     have h6:=ih (ps.drop (half ps.length)) (p - half ps.length) x r (by omega) (by omega) t2 hx hr32 (by rw[e2];exact hr) (by rw[e2];exact h5)
     rcases h6 with⟨h6,h7⟩|h6
     ·refine Or.inl ⟨?_,by rw[h7,h4]⟩
      rw[h6,List.getD_eq_getElem?_getD,List.getD_eq_getElem?_getD,List.getElem?_drop,show half ps.length+(p - half ps.length)=p by omega]
     ·refine Or.inr (h6.mono fun a ha=>?_)
      rw[e2] at ha
      simp only[List.mem_append] at ha ⊢
      rcases ha with h|h
      ·exact Or.inl (Or.inl h)
      ·exact Or.inr (Or.inl (Or.inr h))
    ·exact Or.inr ⟨_,by simp,_,List.mem_append_right _ (List.mem_append_right _ (List.mem_singleton.2 rfl)),he,ht⟩
   ·rw[way_first h2 hc] at hl ht ⊢
    obtain⟨r,y,rfl⟩:=cut_last (l:=pr) (by intro e;rw[e] at hl;simp at hl)
    have hr:r.length=(way (half ps.length) p).length:=by simpa using hl
    have hy:y.length=32:=hpr y (by simp)
    have hr32:∀z∈r,z.length=32:=fun z hz=>hpr z (List.mem_append_left _ hz)
    rw[tops_step,topL_step h2] at ht
    rw[texts_step,txtL_step h2,pathL_first h2 (by omega)]
    have lt:=tops_len (ws:=way (half ps.length) p) (x:=x) (ps:=r) hx
    by_cases he:node false (tops (way (half ps.length) p) x r) y=1 :: (topL (ps.take (half ps.length)) ++ topL (ps.drop (half ps.length)))
    ·have h3:tops (way (half ps.length) p) x r ++ y=topL (ps.take (half ps.length)) ++ topL (ps.drop (half ps.length)):=by simpa[node] using he
     obtain⟨h4,h5⟩:=List.append_inj h3 (by rw[lt,l1])
     have h6:=ih (ps.take (half ps.length)) p x r (by omega) (by omega) t1 hx hr32 (by rw[e1];exact hr) (by rw[e1];exact h4)
     rcases h6 with⟨h6,h7⟩|h6
     ·refine Or.inl ⟨?_,by rw[h7,h5]⟩
      rw[h6,List.getD_eq_getElem?_getD,List.getD_eq_getElem?_getD,List.getElem?_take_of_lt (by omega)]
     ·refine Or.inr (h6.mono fun a ha=>?_)
      rw[e1] at ha
      simp only[List.mem_append] at ha ⊢
      rcases ha with h|h
      ·exact Or.inl (Or.inl h)
      ·exact Or.inr (Or.inl (Or.inl h))
    ·exact Or.inr ⟨_,by simp,_,List.mem_append_right _ (List.mem_append_right _ (List.mem_singleton.2 rfl)),he,ht⟩
  ·have e1:ps.length=1:=by omega
   have e0:p=0:=by omega
   subst e0
   obtain⟨z,rfl⟩:=List.length_eq_one_iff.1 e1
   rw[way_one (by simp)] at hl ht
   have:pr=[]:=List.length_eq_zero_iff.1 hl
   subst this
   rw[topL_one] at ht
   rw[pathL_one (by simp)]
   exact Or.inl ⟨ht,rfl⟩
theorem eight_inj{n m:Nat}(hn:n≤9223372036854775807)(hm:m≤9223372036854775807)(h:eight n=eight m):n=m:=by
 have h1:by_ n 8=by_ m 8:=List.reverse_inj.1 h
 have h2:=congrArg le h1
 rw[le_by,le_by] at h2
 have h3:(256:Nat) ^ 8=18446744073709551616:=by decide
 rw[h3] at h2
 omega
theorem only_root{ps:List (List Nat)}{n p:Nat}{x:List Nat}{pr:List (List Nat)}(hm:ps.length≤4096)(h32:∀y∈ps,y.length=32)(h1:1≤n)(hn:n≤4096)(hp:p < n)(hx:x.length=32)(hpr:∀y∈pr,y.length=32)
  (h:checkE n p (rootOf ps.length (topL ps)) x pr=0) :
  pr.length=(way n p).length∧((n=ps.length∧x=ps.getD p []∧pr=pathL ps p)∨Cl ((txtL ps ++ [2 :: (eight ps.length ++ topL ps)]) ++ (texts (way n p) x pr ++ [2 :: (eight n ++ tops (way n p) x pr)]))):=by
 unfold checkE at h
 by_cases hl:pr.length=(way n p).length
 ·rw[if_neg (by omega)] at h
  refine⟨hl,?_⟩
  by_cases he:rootOf ps.length (topL ps)=rootOf n (tops (way n p) x pr)
  ·by_cases ht:(2 :: (eight ps.length ++ topL ps):List Nat)=2 :: (eight n ++ tops (way n p) x pr)
   ·have h3:eight ps.length ++ topL ps=eight n ++ tops (way n p) x pr:=by simpa using ht
    obtain⟨h4,h5⟩:=List.append_inj h3 (by rw[eight_len,eight_len])
    have h6:=eight_inj (by omega) (by omega) h4
    subst h6
    rcases only_path ps.length ps p x pr (Nat.le_refl _) hp h32 hx hpr hl h5.symm with⟨h7,h8⟩|h7
    ·exact Or.inl ⟨rfl,h7,h8⟩
    ·refine Or.inr (h7.mono fun a ha=>?_)
     simp only[List.mem_append] at ha ⊢
     rcases ha with h|h
     ·exact Or.inr (Or.inl h)
     ·exact Or.inl (Or.inl h)
   ·exact Or.inr ⟨_,List.mem_append_left _ (List.mem_append_right _ (List.mem_singleton.2 rfl)),_,List.mem_append_right _ (List.mem_append_right _ (List.mem_singleton.2 rfl)),ht,he⟩
  ·rw[if_neg he] at h;cases h
 ·rw[if_pos hl] at h;cases h
end Go.Proofs.YtnnfpmebopgogaaDoor.Mk
