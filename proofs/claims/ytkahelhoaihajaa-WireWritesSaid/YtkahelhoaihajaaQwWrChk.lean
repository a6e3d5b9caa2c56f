/- Joined texts. -/
import Derived.Test.YtkahelhoaihajaaQwWrAll
set_option linter.unusedVariables false
namespace Go.Proofs.Ytkahelhoaihajaa.Wr
open Go.RowKit Go.Proofs.Ytkahelhoaihajaa.Gn Go.Proofs.Ytkahelhoaihajaa.Fd Go.Deep
def tlen:Tv→Int
 |.mk _ _ r _ _ _=>(r.2.1:Int)
def chk(b c d:Int):List Int→List Tv→Int→Int
 |p :: ps,t :: ts,k=>if b < p then 23 else if c≤k then 24 else if d < tlen t then 2 else chk b c d ps ts (k+1)
 |_,_,_=>0
mutual
theorem chk_go{b c d:Int}(d0:0≤d):∀(v:Tv) (deep k:Int) (ps:List Int) (ts:List Tv),right v=true→k≤c→chk b c d (dps deep v ++ ps) (pre v ++ ts) k=(if(wgo b c d v deep k).1=0 then chk b c d ps ts (wgo b c d v deep k).2 else(wgo b c d v deep k).1)∧((wgo b c d v deep k).1=0→(wgo b c d v deep k).2≤c)
 |.mk K n r A cc ks,deep,k,ps,ts,hr,hk=>by
  rw[right] at hr
  rw[dps,pre,List.cons_append,List.cons_append,chk,tlen,wgo]
  by_cases h1:b < deep
  ·rw[if_pos h1,if_pos h1];exact⟨rfl,fun h=>by cases h⟩
  rw[if_neg h1,if_neg h1]
  by_cases h2:c≤k
  ·have e:k=c:=by omega
   rw[if_pos h2,if_pos e];exact⟨rfl,fun h=>by cases h⟩
  rw[if_neg h2,if_neg (show ¬k=c by omega)]
  by_cases k1:K=1
  ·rw[if_pos k1,Bool.and_eq_true,decide_eq_true_eq,decide_eq_true_eq] at hr
   have e:ks=[]:=List.length_eq_zero_iff.1 hr.2
   subst e
   rw[if_neg (show ¬d < ((r.2.1:Nat):Int) by omega),if_neg (show ¬K=2 by omega),if_neg (show ¬K=3 by omega),dpss,pres]
   exact⟨rfl,fun _=>by show k+1≤c;omega⟩
  rw[if_neg k1] at hr
  by_cases k2:K=2
  ·rw[if_pos k2,Bool.and_eq_true,decide_eq_true_eq,decide_eq_true_eq] at hr
   have e:ks=[]:=List.length_eq_zero_iff.1 hr.2
   subst e
   rw[if_pos k2,dpss,pres]
   by_cases h3:d < ((r.2.1:Nat):Int)
   ·rw[if_pos h3,if_pos h3];exact⟨rfl,fun h=>by cases h⟩
   ·rw[if_neg h3,if_neg h3];exact⟨rfl,fun _=>by show k+1≤c;omega⟩
  rw[if_neg k2] at hr ⊢
  by_cases k3:K=3
  ·rw[if_pos k3,Bool.and_eq_true,Bool.and_eq_true,decide_eq_true_eq,decide_eq_true_eq] at hr
   rw[if_pos k3,if_neg (show ¬d < ((r.2.1:Nat):Int) by omega)]
   exact chks_go d0 ks (deep+1) (k+1) ps ts hr.2 (by omega)
  ·rw[if_neg k3] at hr;cases hr
theorem chks_go{b c d:Int}(d0:0≤d):∀(vs:List Tv) (deep k:Int) (ps:List Int) (ts:List Tv),rights vs=true→k≤c→chk b c d (dpss deep vs ++ ps) (pres vs ++ ts) k=(if(wgos b c d vs deep k).1=0 then chk b c d ps ts (wgos b c d vs deep k).2 else(wgos b c d vs deep k).1)∧((wgos b c d vs deep k).1=0→(wgos b c d vs deep k).2≤c)
 | [],deep,k,ps,ts,_,hk=>by rw[dpss,pres,wgos];exact⟨rfl,fun _=>hk⟩
 |t :: us,deep,k,ps,ts,hr,hk=>by
  rw[rights,Bool.and_eq_true] at hr
  obtain⟨h1,h2⟩:=chk_go (b:=b) (c:=c) d0 t deep k (dpss deep us ++ ps) (pres us ++ ts) hr.1 hk
  rw[dpss,pres,List.append_assoc,List.append_assoc,h1,wgos]
  by_cases h3:(wgo b c d t deep k).1=0
  ·rw[if_pos h3,if_pos h3]
   exact chks_go d0 us deep _ ps ts hr.2 (h2 h3)
  ·rw[if_neg h3,if_neg h3,if_neg h3];exact⟨rfl,fun h=>(h3 h).elim⟩
end
theorem chk_whole{b c d:Int}(c0:0≤c)(d0:0≤d){v:Tv}(hr:right v=true):chk b c d (dps 1 v) (pre v) 0=(wgo b c d v 1 0).1:=by
 have h:=(chk_go (b:=b) d0 v 1 0 [] [] hr c0).1
 rw[List.append_nil,List.append_nil] at h
 rw[h]
 by_cases h1:(wgo b c d v 1 0).1=0
 ·rw[if_pos h1,chk,h1];intros;simp_all
 ·rw[if_neg h1]
theorem chk_drop{b c d:Int}{ps:List Int}{ts:List Tv}{i:Nat}{p:Int}{t:Tv}(hp:ps[i]?=some p)(ht:ts[i]?=some t)(k:Int):chk b c d (ps.drop i) (ts.drop i) k=if b < p then 23 else if c≤k then 24 else if d < tlen t then 2 else chk b c d (ps.drop (i+1)) (ts.drop (i+1)) (k+1):=by
 have e1:ps.drop i=p :: ps.drop (i+1):=by
  obtain⟨h,e⟩:=List.getElem?_eq_some_iff.1 hp
  rw[List.drop_eq_getElem_cons h,e]
 have e2:ts.drop i=t :: ts.drop (i+1):=by
  obtain⟨h,e⟩:=List.getElem?_eq_some_iff.1 ht
  rw[List.drop_eq_getElem_cons h,e]
 rw[e1,e2,chk]
theorem chk_end{b c d:Int}{ps:List Int}{ts:List Tv}{i:Nat}(h:ts.length≤i)(k:Int):chk b c d (ps.drop i) (ts.drop i) k=0:=by
 rw[show ts.drop i=[] from List.drop_eq_nil_of_le h]
 cases ps.drop i <;> rfl
end Go.Proofs.Ytkahelhoaihajaa.Wr
