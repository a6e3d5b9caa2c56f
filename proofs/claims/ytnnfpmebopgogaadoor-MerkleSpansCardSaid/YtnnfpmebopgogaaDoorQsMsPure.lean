/- Joined texts. -/
import Derived.Test.YtnnfpmebopgogaaDoorQsMrOuter
import Derived.Test.YtnnfpmebopgogaaDoorQsMoTexts
set_option linter.unusedVariables false
namespace Go.Proofs.YtnnfpmebopgogaaDoor.Mk
open Go.Proofs.YtnnfpmebopgogaaDoor.Fd
theorem sub_len{ps:List (List Nat)}{x y:Nat}(h:y≤ps.length):(sub ps x y).length=y - x:=by unfold sub;rw[List.length_take,List.length_drop];omega
theorem sub_mem{ps:List (List Nat)}{x y:Nat}:∀z∈sub ps x y,z∈ps:=fun z hz=>List.mem_of_mem_drop (List.mem_of_mem_take hz)
theorem sub_all{ps:List (List Nat)}:sub ps 0 ps.length=ps:=by unfold sub;rw[List.drop_zero,List.take_of_length_le (by omega)]
theorem sub_one{ps:List (List Nat)}{a:Nat}(h:a < ps.length):sub ps a (a+1)=[ps.getD a []]:=by
 unfold sub
 rw[show a+1 - a=1 by omega,List.drop_eq_getElem_cons h,List.take_succ_cons,List.take_zero,List.getD_eq_getElem?_getD,List.getElem?_eq_getElem h]
 rfl
theorem sub_sub{ps:List (List Nat)}{f t x n:Nat}(h1:f≤x)(h2:x+n≤t):sub (sub ps f t) (x - f) (x+n - f)=sub ps x (x+n):=by
 unfold sub
 rw[List.drop_take,List.take_take,List.drop_drop]
 congr 1
 ·omega
 ·congr 1
  omega
theorem drop_take_app{α:Type}(l:List α)(j n k:Nat):(l.drop j).take (n+k)=(l.drop j).take n ++ (l.drop (j+n)).take k:=by
 rw[List.take_add,List.drop_drop]
theorem take_one{l:List (List Nat)}{j:Nat}(h:j < l.length):(l.drop j).take 1=[l.getD j []]:=by
 rw[List.drop_eq_getElem_cons h,List.take_succ_cons,List.take_zero,List.getD_eq_getElem?_getD,List.getElem?_eq_getElem h]
 rfl
theorem outs_length(ps:List (List Nat))(f t a n:Nat):(outs ps f t a n).length=(bes f t a n).length:=by rw[outs,List.length_map]
theorem own_part{ps pr:List (List Nat)}{f t:Nat}(hft:f < t)(ht:t≤ps.length):∀(N n:Nat),n≤N→1≤n→∀(x j:Nat),x+n≤ps.length→(pr.drop j).take (bes f t x n).length=outs ps f t x n→upv (sub ps f t) pr f t x n j=topL (sub ps x (x+n)):=by
 have hl:(sub ps f t).length=t - f:=sub_len ht
 intro N
 induction N with
 |zero=>intro n h1 h2;omega
 |succ N ih =>
  intro n hN h1 x j hx he
  by_cases hap:x+n≤f∨t≤x
  ·rw[upv_apart hap]
   rw[outs_apart hap,bes_apart hap] at he
   have hj:j < pr.length:=by
    rcases Nat.lt_or_ge j pr.length with h|h
    ·exact h
    ·rw[List.drop_eq_nil_of_le h] at he;simp at he
   rw[show[(x,x+n)].length=1 from rfl,take_one hj] at he
   exact(List.cons.inj he).1
  ·by_cases h2:2≤n
   ·have hs:=half_spec h2
    rw[bes_step hap h2,List.length_append,drop_take_app,outs_step hap h2] at he
    have hlen:((pr.drop j).take (bes f t x (half n)).length).length=(outs ps f t x (half n)).length:=by
     have h3:=congrArg List.length he
     rw[List.length_append,List.length_append,outs_length,outs_length] at h3
     have h4:((pr.drop j).take (bes f t x (half n)).length).length≤(bes f t x (half n)).length:=by rw[List.length_take];omega
     have h5:((pr.drop (j+(bes f t x (half n)).length)).take (bes f t (x+half n) (n - half n)).length).length≤(bes f t (x+half n) (n - half n)).length:=by rw[List.length_take];omega
     rw[outs_length]
     omega
    obtain⟨e1,e2⟩:=List.append_inj he hlen
    have i1:=ih (half n) (by omega) (by omega) x j (by omega) e1
    have i2:=ih (n - half n) (by omega) (by omega) (x+half n) (j+(bes f t x (half n)).length) (by omega) e2
    have hsl:(sub ps x (x+n)).length=n:=by rw[sub_len hx];omega
    rw[upv_step hap h2 hl,i1,i2,topL_step (ps:=sub ps x (x+n)) (by rw[hsl];exact h2),hsl,sub_take (by omega),sub_drop (by omega)]
   ·obtain rfl:n=1:=by omega
    rw[upv_in hap (by omega),sub_sub (by omega) (by omega)]
theorem own_range{ps:List (List Nat)}{f t:Nat}(hft:f < t)(ht:t≤ps.length):checkRE ps.length f (rootOf ps.length (topL ps)) (sub ps f t) (outs ps f t 0 ps.length)=0:=by
 unfold checkRE
 have hl:(sub ps f t).length=t - f:=sub_len ht
 have e:=own_part (pr:=outs ps f t 0 ps.length) hft ht ps.length ps.length (Nat.le_refl _) (by omega) 0 0 (by omega) (by rw[List.drop_zero,←outs_length,List.take_length])
 rw[Nat.zero_add,sub_all] at e
 rw[hl,show f+(t - f)=t by omega,if_neg (by rw[outs_length];simp),e,if_pos rfl]
theorem only_part{ps lv pr:List (List Nat)}{f t:Nat}(hl:lv.length=t - f)(h32:∀y∈ps,y.length=32)(hlv:∀y∈lv,y.length=32)(hpr:∀y∈pr,y.length=32):∀(N n:Nat),n≤N→1≤n→∀(a j:Nat),a+n≤ps.length→j+(bes f t a n).length≤pr.length→upv lv pr f t a n j=topL (sub ps a (a+n)) →
  ((∀i,a≤i→i < a+n→f≤i→i < t→lv.getD (i - f) []=ps.getD i [])∧(pr.drop j).take (bes f t a n).length=outs ps f t a n)∨Cl (clt lv pr f t a n j ++ txtL (sub ps a (a+n))):=by
 intro N
 induction N with
 |zero=>intro n h1 h2;omega
 |succ N ih =>
  intro n hN h1 a j ha hj he
  by_cases hap:a+n≤f∨t≤a
  ·rw[upv_apart hap] at he
   rw[bes_apart hap,List.length_singleton] at hj
   refine Or.inl ⟨fun i h1 h2 h3 h4=>by omega,?_⟩
   rw[bes_apart hap,outs_apart hap,List.length_singleton,take_one (by omega),he]
  ·by_cases h2:2≤n
   ·have hs:=half_spec h2
    have hsl:(sub ps a (a+n)).length=n:=by rw[sub_len ha];omega
    have hb:=bes_step hap h2
    rw[hb,List.length_append] at hj
    have lx:=upv_len hl hlv hpr (a:=a) (n:=half n) (j:=j) (by omega) (by omega)
    have ly:=upv_len hl hlv hpr (a:=a+half n) (n:=n - half n) (j:=j+(bes f t a (half n)).length) (by omega) (by omega)
    have l1:=topL_len (ps:=sub ps a (a+half n)) (by rw[sub_len (by omega)];omega) (fun y hy=>h32 y (sub_mem y hy))
    rw[upv_step hap h2 hl,topL_step (ps:=sub ps a (a+n)) (by rw[hsl];exact h2),hsl,sub_take (by omega),sub_drop (by omega)] at he
    have ht:=txtL_step (ps:=sub ps a (a+n)) (by rw[hsl];exact h2)
    rw[hsl,sub_take (by omega),sub_drop (by omega)] at ht
    rw[clt_step hap h2,ht]
    by_cases hq:(1 :: (upv lv pr f t a (half n) j ++ upv lv pr f t (a+half n) (n - half n) (j+(bes f t a (half n)).length)):List Nat)=1 :: (topL (sub ps a (a+half n)) ++ topL (sub ps (a+half n) (a+half n+(n - half n))))
    ·obtain⟨q1,q2⟩:=List.append_inj (List.cons.inj hq).2 (by rw[lx,l1])
     have i1:=ih (half n) (by omega) (by omega) a j (by omega) (by omega) q1
     have i2:=ih (n - half n) (by omega) (by omega) (a+half n) (j+(bes f t a (half n)).length) (by omega) (by omega) q2
     rcases i1 with⟨v1,r1⟩|i1
     ·rcases i2 with⟨v2,r2⟩|i2
      ·refine Or.inl ⟨fun i g1 g2 g3 g4=>?_,?_⟩
       ·by_cases hc:i < a+half n
        ·exact v1 i g1 hc g3 g4
        ·exact v2 i (by omega) (by omega) g3 g4
       ·rw[hb,List.length_append,drop_take_app,outs_step hap h2,r1,r2]
      ·refine Or.inr (i2.mono fun z hz=>?_)
       simp only[List.mem_append] at hz ⊢
       rcases hz with h|h
       ·exact Or.inl (Or.inl (Or.inr h))
       ·exact Or.inr (Or.inl (Or.inr h))
     ·refine Or.inr (i1.mono fun z hz=>?_)
      simp only[List.mem_append] at hz ⊢
      rcases hz with h|h
      ·exact Or.inl (Or.inl (Or.inl h))
      ·exact Or.inr (Or.inl (Or.inl h))
    ·exact Or.inr ⟨_,List.mem_append_left _ (List.mem_append_right _ (List.mem_singleton.2 rfl)),_,List.mem_append_right _ (List.mem_append_right _ (List.mem_singleton.2 rfl)),hq,he⟩
   ·obtain rfl:n=1:=by omega
    rw[upv_one hap rfl hl,sub_one (by omega),topL_one] at he
    refine Or.inl ⟨fun i g1 g2 g3 g4=>?_,?_⟩
    ·obtain rfl:i=a:=by omega
     exact he
    ·rw[bes_one hap rfl,outs_in hap (by omega)]
     rfl
theorem only_range{ps lv pr:List (List Nat)}{n f:Nat}(hm:ps.length≤4096)(h1:1≤ps.length)(h32:∀y∈ps,y.length=32)(hn:n≤4096)(hlv1:1≤lv.length)(hfn:f+lv.length≤n)(hlv:∀y∈lv,y.length=32)(hpr:∀y∈pr,y.length=32)
  (h:checkRE n f (rootOf ps.length (topL ps)) lv pr=0) :
  pr.length=(bes f (f+lv.length) 0 n).length∧((n=ps.length∧lv=sub ps f (f+lv.length)∧pr=outs ps f (f+lv.length) 0 n) ∨
   Cl ((clt lv pr f (f+lv.length) 0 n 0 ++ [2 :: (eight n ++ upv lv pr f (f+lv.length) 0 n 0)]) ++ (txtL ps ++ [2 :: (eight ps.length ++ topL ps)]))):=by
 unfold checkRE at h
 by_cases hl:pr.length=(bes f (f+lv.length) 0 n).length
 ·rw[if_neg (by omega)] at h
  refine⟨hl,?_⟩
  by_cases he:rootOf ps.length (topL ps)=rootOf n (upv lv pr f (f+lv.length) 0 n 0)
  ·by_cases ht:(2 :: (eight ps.length ++ topL ps):List Nat)=2 :: (eight n ++ upv lv pr f (f+lv.length) 0 n 0)
   ·have h3:eight ps.length ++ topL ps=eight n ++ upv lv pr f (f+lv.length) 0 n 0:=by simpa using ht
    obtain⟨h4,h5⟩:=List.append_inj h3 (by rw[eight_len,eight_len])
    have h6:=eight_inj (by omega) (by omega) h4
    subst h6
    have e:=only_part (ps:=ps) (lv:=lv) (pr:=pr) (f:=f) (t:=f+lv.length) (by omega) h32 hlv hpr ps.length ps.length (Nat.le_refl _) h1 0 0 (by omega) (by omega) (by rw[Nat.zero_add,sub_all];exact h5.symm)
    rw[Nat.zero_add ps.length,sub_all] at e
    rcases e with⟨v,r⟩|e
    ·refine Or.inl ⟨rfl,?_,?_⟩
     ·apply List.ext_getElem
      ·rw[sub_len (by omega)];omega
      ·intro i g1 g2
       have g3:=v (f+i) (by omega) (by omega) (by omega) (by omega)
       rw[show f+i - f=i by omega,List.getD_eq_getElem?_getD,List.getD_eq_getElem?_getD,List.getElem?_eq_getElem g1,List.getElem?_eq_getElem (by omega)] at g3
       have g4:lv[i]=ps[f+i]'(by omega):=g3
       rw[g4]
       simp only[sub,List.getElem_take,List.getElem_drop]
     ·rw[List.drop_zero,←hl,List.take_length] at r
      exact r
    ·refine Or.inr (e.mono fun z hz=>?_)
     simp only[List.mem_append] at hz ⊢
     rcases hz with h|h
     ·exact Or.inl (Or.inl h)
     ·exact Or.inr (Or.inl h)
   ·exact Or.inr ⟨_,List.mem_append_right _ (List.mem_append_right _ (List.mem_singleton.2 rfl)),_,List.mem_append_left _ (List.mem_append_right _ (List.mem_singleton.2 rfl)),ht,he⟩
  ·rw[if_neg he] at h;cases h
 ·rw[if_pos hl] at h;cases h
end Go.Proofs.YtnnfpmebopgogaaDoor.Mk
