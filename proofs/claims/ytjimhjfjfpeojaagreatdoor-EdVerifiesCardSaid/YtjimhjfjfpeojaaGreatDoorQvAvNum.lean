/- Joined texts. -/
import Derived.Test.YtjimhjfjfpeojaaGreatDoorQvAvN
import Derived.Test.YtjimhjfjfpeojaaGreatDoorQvRaF
set_option maxRecDepth 100000
set_option maxHeartbeats 8000000
set_option linter.unusedVariables false
namespace Go.Proofs.YtjimhjfjfpeojaaGreatDoor.Av
open Go.RowKit Go.Proofs.YtjimhjfjfpeojaaGreatDoor.Gn Go.Proofs.YtjimhjfjfpeojaaGreatDoor.Fd Go.Deep
def num(n:Nat):DV:=row false (nl (dg n))
theorem Zk7(n:Nat):nl (dg n)=[]∨∃v∈nl (dg n),noK [.u64] v=false:=by
 by_cases h:n=0
 ·left;rw[h,Z0r];rfl
 ·right
  have hne:∃x∈dg n,x≠0:=by
   by_cases hx:∃x∈dg n,x≠0
   ·exact hx
   ·exfalso
    have hz:∀l:List Nat,(∀x∈l,x=0)→vl l=0:=by
     intro l
     induction l with
     |nil=>intro _;rfl
     |cons a l ih =>
      intro h
      have:=ih fun x hx=>h x (List.mem_cons_of_mem _ hx)
      have ha:=h a List.mem_cons_self
      subst ha
      show 0+65536*vl l=0
      rw[this]
    have:=hz (dg n) fun x hx'=>by
     by_cases h0:x=0
     ·exact h0
     ·exact absurd ⟨x,hx',h0⟩ hx
    rw[Z0l] at this
    exact h this
  obtain⟨x,hx,h0⟩:=hne
  refine⟨.int .u64 (x:Int),List.mem_map.2 ⟨x,hx,rfl⟩,?_⟩
  have:((x:Int) == 0)=false:=by simpa using h0
  simp[noK,this]
theorem Z5o{O:Nat→Prop}{w:World}{x y:DV}{vs:List Value}(hl:vs.length=2)(h:DV.reps O w [x,y] 0 (fun i v=>vs[i]?=some v)):∃u v,vs=[u,v]∧x.rep O w u∧y.rep O w v:=by
 obtain⟨⟨u,h1,h2⟩,⟨v,h3,h4⟩,-⟩:=h
 match vs,hl with
 | [a,b],_=>simp at h1 h3;subst h1 h3;exact⟨_,_,rfl,h2,h4⟩
theorem Z6g{O:Nat→Prop}{w:World}{x:DV}{vs:List Value}(hl:vs.length=1)(h:DV.reps O w [x] 0 (fun i v=>vs[i]?=some v)):∃u,vs=[u]∧x.rep O w u:=by
 obtain⟨⟨u,h1,h2⟩,-⟩:=h
 match vs,hl with
 | [a],_=>simp at h1;subst h1;exact⟨_,rfl,h2⟩
theorem Z83{O:Nat→Prop}{w w':World}{e:Ending}{n:Nat}(hO:∀b,O b→b < w.heap.size)(hk:∀b cs t fz,O b→w.heap[b]?=some (.cells cs t fz)→∀v∈cs.toList,noK [.u64] v=true)(h:RetN n w e w'):∃v,e=.returned v∧(num n).rep O w' v∧Below w.heap.size w w':=by
 obtain⟨A,k,c,h1,h2,h3,h4⟩:=h
 exact⟨_,h1,Zjv h2 (fun h=>by cases h) (Z8m hO hk h4) (Zk7 _),h4⟩
theorem Zf1{P:Program}{f:FuncId}{a b r:Nat}{w:World}(he:En P f)(h:∀A B n m c d,n=(nl (dg a)).length→m=(nl (dg b)).length→Sl w A n (nl (dg a))→Sl w B m (nl (dg b))→Calls P f #[.slice A n c,.slice B m d] w (RetN r w)):FnAt P [.u64] w f [num a,num b] (num r) :=
 ⟨he,fun O vs hO hk hl hr=>by
  obtain⟨u,v,rfl,h1,h2⟩:=Z5o hl hr
  obtain⟨A,n,c,rfl,s1,-⟩:=Z43 h1
  obtain⟨B,m,d,rfl,s2,-⟩:=Z43 h2
  exact(h A B n m c d s1.1.symm s2.1.symm s1 s2).mono fun e w' hr=>Z83 hO hk hr⟩
theorem Zpk{P:Program}{f:FuncId}{a r:Nat}{w:World}(he:En P f)(h:∀A n c,n=(nl (dg a)).length→Sl w A n (nl (dg a))→Calls P f #[.slice A n c] w (RetN r w)):FnAt P [.u64] w f [num a] (num r) :=
 ⟨he,fun O vs hO hk hl hr=>by
  obtain⟨u,rfl,h1⟩:=Z6g hl hr
  obtain⟨A,n,c,rfl,s1,-⟩:=Z43 h1
  exact(h A n c s1.1.symm s1).mono fun e w' hr=>Z83 hO hk hr⟩
theorem dg16{m:Nat}(h:m < pp):(nl (dg m)).length≤16:=by simpa[nl] using Fd.len16 h
theorem Z33{a b:Nat}(ha:a < pp)(hb:b < pp)(w:World):FnAt Tryz.prog [.u64] w 53 [num a,num b] (num (a*b%pp)) :=
 Zf1 (fun _ _=>by kernel_rfl) fun A B n m c d hn hm s1 s2=>Z2d A B n m c d a b w (hn▸dg16 ha) (hm▸dg16 hb) s1 s2
theorem Z5e{a b:Nat}(ha:a < pp)(hb:b < pp)(w:World):FnAt Tryz.prog [.u64] w 64 [num a,num b] (num ((a+b)%pp)) :=
 Zf1 (fun _ _=>by kernel_rfl) fun A B n m c d hn hm s1 s2=>Zi1 A B n m c d a b w (hn▸Nat.le_trans (dg16 ha) (by decide)) (hm▸Nat.le_trans (dg16 hb) (by decide)) s1 s2
theorem Z4l{a b:Nat}(ha:a < pp)(hb:b < pp)(w:World):FnAt Tryz.prog [.u64] w 63 [num a,num b] (num ((a+(pp - b))%pp)) :=
 Zf1 (fun _ _=>by kernel_rfl) fun A B n m c d hn hm s1 s2=>Z81 A B n m c d a b w (hn▸Nat.le_trans (dg16 ha) (by decide)) (hm▸dg16 hb) hb s1 s2
theorem Zsd{a:Nat}(ha:a < pp)(w:World):FnAt Tryz.prog [.u64] w 100 [num a] (num (a ^ (pp - 2)%pp)) :=
 Zpk (fun _ _=>by kernel_rfl) fun A n c hn s1=>Zby A n c a w (hn▸dg16 ha) s1
end Go.Proofs.YtjimhjfjfpeojaaGreatDoor.Av
