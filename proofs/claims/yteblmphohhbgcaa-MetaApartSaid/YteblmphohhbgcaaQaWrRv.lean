/- Joined texts. -/
import Derived.Test.YteblmphohhbgcaaQaWrReader
import Derived.Test.YteblmphohhbgcaaQaWrBytes
set_option linter.unusedVariables false
namespace Go.Proofs.Yteblmphohhbgcaa.Wr
open Go.RowKit Go.Proofs.Yteblmphohhbgcaa.Gn Go.Proofs.Yteblmphohhbgcaa.Fd Go.Deep
inductive Nd where
 |mk (kind:Int) (num:Nat) (bytes:List Nat) (kids:List Nd)
mutual
def nd:Tv→Nd
 |.mk k n r _ _ ks=>.mk k n r.2.2.2 (nds ks)
def nds:List Tv→List Nd
 | []=>[]
 |t :: ts=>nd t :: nds ts
end
theorem nds_map(ks:List Tv):nds ks=ks.map nd:=by
 induction ks with
 |nil=>rfl
 |cons t ts ih=>rw[nds,ih];rfl
inductive Rr (α:Type) where
 |bad (p e:Nat)
 |good (v:α) (p:Nat) (k:Int)
mutual
def rdv (b c d : Int) (l : List Nat) : Nat → Int → Nat → Int → Rr Nd
  | 0, _, _, _ => .bad 0 20
  | f + 1, deep, p, k =>
    if p = l.length then .bad p 20 else if b < deep then .bad p 23 else if k = c then .bad p 24 else
    if l.getD p 0 = 1 then
      (if (rcl (l.drop (p + 1))).2.2 = 0 then .good (.mk 1 (rcl (l.drop (p + 1))).1 [] []) (p + 1 + (rcl (l.drop (p + 1))).2.1) (k + 1) else .bad (p + 1 + (rcl (l.drop (p + 1))).2.1) (rcl (l.drop (p + 1))).2.2)
    else if l.getD p 0 = 2 then
      (if (rcl (l.drop (p + 1))).2.2 = 0 then
        (if d < ((rcl (l.drop (p + 1))).1 : Int) then .bad (p + 1) 2 else
         if l.length < p + 1 + (rcl (l.drop (p + 1))).2.1 + (rcl (l.drop (p + 1))).1 then .bad (p + 1 + (rcl (l.drop (p + 1))).2.1) 20 else
         .good (.mk 2 0 ((l.drop (p + 1 + (rcl (l.drop (p + 1))).2.1)).take (rcl (l.drop (p + 1))).1) []) (p + 1 + (rcl (l.drop (p + 1))).2.1 + (rcl (l.drop (p + 1))).1) (k + 1))
       else .bad (p + 1 + (rcl (l.drop (p + 1))).2.1) (rcl (l.drop (p + 1))).2.2)
    else if l.getD p 0 = 3 then
      (if (rcl (l.drop (p + 1))).2.2 = 0 then
        (match rds b c d l f (rcl (l.drop (p + 1))).1 (deep + 1) (p + 1 + (rcl (l.drop (p + 1))).2.1) (k + 1) [] with
         | .bad q e => .bad q e
         | .good vs q k' => .good (.mk 3 0 [] vs) q k')
       else .bad (p + 1 + (rcl (l.drop (p + 1))).2.1) (rcl (l.drop (p + 1))).2.2)
    else .bad p 21
def rds(b c d:Int)(l:List Nat):Nat→Nat→Int→Nat→Int→List Nd→Rr (List Nd)
 |0,_,_,_,_,_=>.bad 0 20
 |f+1,n,deep,p,k,acc =>
  if n=0 then .good acc p k else
  match rdv b c d l f deep p k with
  |.bad q e=>.bad q e
  |.good v q k'=>rds b c d l f (n - 1) deep q k' (acc ++ [v])
end
theorem szC_pos(l:List Nat)(h:noC l=false):1≤szC l:=by
 cases l with
 |nil=>simp[szC]
 |cons x t=>simp only[szC];split <;> omega
theorem rcl_pos{l:List Nat}(h:(rcl l).2.2=0):1≤(rcl l).2.1:=by
 unfold rcl at h ⊢
 split
 ·rename_i h1;rw[if_pos h1] at h;cases h
 ·rename_i h1
  rw[if_neg h1] at h
  split
  ·rename_i h2;rw[if_pos h2] at h;cases h
  ·split
   ·exact Nat.le_refl _
   ·exact szC_pos l (by simpa using h1)
mutual
theorem rdv_good(b c d:Int)(l:List Nat):∀(f:Nat) (deep:Int) (p:Nat) (k:Int) {v:Nd} {p':Nat} {k':Int},p≤l.length→rdv b c d l f deep p k=.good v p' k'→p+2≤p'∧p'≤l.length∧k+1≤k'∧k' - k≤(p':Int) - p
 |0,deep,p,k,v,p',k',_,h=>by rw[rdv] at h;cases h
 |f+1,deep,p,k,v,p',k',hp,h=>by
  have hm:(rcl (l.drop (p+1))).2.1≤(l.drop (p+1)).length:=rcl_le (r:=l.drop (p+1)) (rfl:rcl _=((rcl (l.drop (p+1))).1,(rcl (l.drop (p+1))).2.1,(rcl (l.drop (p+1))).2.2))
  rw[List.length_drop] at hm
  rw[rdv] at h
  split at h
  ·cases h
  split at h
  ·cases h
  split at h
  ·cases h
  split at h
  ·split at h
   ·rename_i h0;have:=rcl_pos h0;cases h;omega
   ·cases h
  split at h
  ·split at h
   ·rename_i h0
    have:=rcl_pos h0
    split at h
    ·cases h
    split at h
    ·cases h
    ·cases h;omega
   ·cases h
  split at h
  ·split at h
   ·rename_i h0
    have:=rcl_pos h0
    split at h
    ·cases h
    ·rename_i vs q k2 h2
     have h3:=rds_good b c d l f _ _ _ _ _ (by omega) h2
     cases h;omega
   ·cases h
  ·cases h
theorem rds_good(b c d:Int)(l:List Nat):∀(f n:Nat) (deep:Int) (p:Nat) (k:Int) (acc:List Nd) {v:List Nd} {p':Nat} {k':Int},p≤l.length→rds b c d l f n deep p k acc=.good v p' k'→p≤p'∧p'≤l.length∧k≤k'∧k' - k≤(p':Int) - p
 |0,n,deep,p,k,acc,v,p',k',_,h=>by rw[rds] at h;cases h
 |f+1,n,deep,p,k,acc,v,p',k',hp,h=>by
  rw[rds] at h
  split at h
  ·cases h;omega
  ·split at h
   ·cases h
   ·rename_i v2 q k2 h2
    have h3:=rdv_good b c d l f _ _ _ hp h2
    have h4:=rds_good b c d l f _ _ _ _ _ (by omega) h
    omega
end
mutual
theorem rdv_bad(b c d:Int)(l:List Nat):∀(f:Nat) (deep:Int) (p:Nat) (k:Int) {q en:Nat},rdv b c d l f deep p k=.bad q en→en≠0
 |0,deep,p,k,q,en,h=>by rw[rdv] at h;cases h;decide
 |f+1,deep,p,k,q,en,h=>by
  rw[rdv] at h
  split at h
  ·cases h;decide
  split at h
  ·cases h;decide
  split at h
  ·cases h;decide
  split at h
  ·split at h
   ·cases h
   ·rename_i h0;cases h;exact h0
  split at h
  ·split at h
   ·split at h
    ·cases h;decide
    split at h
    ·cases h;decide
    ·cases h
   ·rename_i h0;cases h;exact h0
  split at h
  ·split at h
   ·split at h
    ·rename_i q2 e2 h2
     have h3:=rds_bad b c d l f _ _ _ _ _ h2
     cases h;exact h3
    ·cases h
   ·rename_i h0;cases h;exact h0
  ·cases h;decide
theorem rds_bad(b c d:Int)(l:List Nat):∀(f n:Nat) (deep:Int) (p:Nat) (k:Int) (acc:List Nd) {q en:Nat},rds b c d l f n deep p k acc=.bad q en→en≠0
 |0,n,deep,p,k,acc,q,en,h=>by rw[rds] at h;cases h;decide
 |f+1,n,deep,p,k,acc,q,en,h=>by
  rw[rds] at h
  split at h
  ·cases h
  ·split at h
   ·rename_i q2 e2 h2
    have h3:=rdv_bad b c d l f _ _ _ h2
    cases h;exact h3
   ·exact rds_bad b c d l f _ _ _ _ _ h
end
mutual
def lies(Pb:Nat→Prop):Tv→Prop
 |.mk _ _ r A _ ks=>(∀ad,r.1=some ad→0 < r.2.2.2.length→Pb ad.block)∧(∀ad,A=some ad→0 < ks.length→Pb ad.block)∧liess Pb ks
def liess(Pb:Nat→Prop):List Tv→Prop
 | []=>True
 |t :: ts=>lies Pb t∧liess Pb ts
end
theorem liess_mem{Pb:Nat→Prop}:∀ {ks:List Tv},liess Pb ks↔∀t∈ks,lies Pb t
 | []=>by simp[liess]
 |t :: ts=>by simp[liess,liess_mem (ks:=ts)]
theorem Sl.kept{w w':World}{A:Option Addr}{n:Nat}{xs:List Value}(h:Sl w A n xs)(hk:∀ad,A=some ad→0 < n→ad.block < w.heap.size→w'.heap[ad.block]?=w.heap[ad.block]?):Sl w' A n xs :=
 ⟨h.1,fun k v hv=>by
  obtain⟨ad,e,hc⟩:=h.2 k v hv
  have hn:0 < n:=by have:=(List.getElem?_eq_some_iff.1 hv).1;have:=h.1;omega
  have hlt:=cell_lt hc
  rw[add_block] at hlt
  refine⟨ad,e,?_⟩
  rw[←hc]
  exact World.cell?_of_block (a:=ad.add k) (by rw[add_block];exact hk ad e hn hlt)⟩
mutual
theorem Ok.kept'{w w':World}{Pb:Nat→Prop}(hk:∀k,Pb k→k < w.heap.size→w'.heap[k]?=w.heap[k]?):∀(v:Tv),Ok w v→lies Pb v→Ok w' v
 |.mk K n r A c ks=>fun h hl=>by
  rw[lies] at hl
  cases h with
  |mk hn hr hs hm hc h0 hks =>
  exact .mk hn ⟨hr.len,Sl.kept hr.row (fun ad e hp hlt=>hk _ (hl.1 ad e hp) hlt),hr.lt,hr.cap,hr.nil⟩ (Sl.kept hs (fun ad e hp hlt=>hk _ (hl.2.1 ad e (by omega)) hlt)) hm hc h0 (Oks.kept' hk ks hks hl.2.2)
theorem Oks.kept'{w w':World}{Pb:Nat→Prop}(hk:∀k,Pb k→k < w.heap.size→w'.heap[k]?=w.heap[k]?):∀(ks:List Tv),(∀t∈ks,Ok w t)→liess Pb ks→∀t∈ks,Ok w' t
 | []=>fun _ _ t ht=>(List.not_mem_nil ht).elim
 |x :: xs=>fun h hl t ht=>by
  rw[liess] at hl
  have h1:=Ok.kept' hk x (h x List.mem_cons_self) hl.1
  have h2:=Oks.kept' hk xs (fun t ht=>h t (List.mem_cons_of_mem _ ht)) hl.2
  rcases List.mem_cons.1 ht with rfl|ht
  ·exact h1
  ·exact h2 t ht
end
theorem Ok.kept{w w':World}{v:Tv}(h:Ok w v){Pb:Nat→Prop}(hl:lies Pb v)(hk:∀k,Pb k→k < w.heap.size→w'.heap[k]?=w.heap[k]?):Ok w' v:=Ok.kept' hk v h hl
mutual
theorem lies.mono{Pb Qb:Nat→Prop}(hPQ:∀k,Pb k→Qb k):∀ {v:Tv},lies Pb v→lies Qb v
 |.mk K n r A c ks,hl=>by
  rw[lies] at hl ⊢
  exact⟨fun ad e h=>hPQ _ (hl.1 ad e h),fun ad e h=>hPQ _ (hl.2.1 ad e h),liess.mono hPQ hl.2.2⟩
theorem liess.mono{Pb Qb:Nat→Prop}(hPQ:∀k,Pb k→Qb k):∀ {ks:List Tv},liess Pb ks→liess Qb ks
 | [],_=>by rw[liess];trivial
 |x :: xs,hl=>by
  rw[liess] at hl ⊢
  exact⟨lies.mono hPQ hl.1,liess.mono hPQ hl.2⟩
end
mutual
theorem lies.lt{w:World}{Pb:Nat→Prop}:∀ {v:Tv},Ok w v→lies Pb v→lies (fun k=>Pb k∧k < w.heap.size) v
 |.mk K n r A c ks,.mk hn hr hs hm hc h0 hks,hl=>by
  rw[lies] at hl ⊢
  refine⟨fun ad e h=>⟨hl.1 ad e h,?_⟩,fun ad e h=>⟨hl.2.1 ad e h,?_⟩,liess.lt hks hl.2.2⟩
  ·obtain⟨ad',e',hc⟩:=hr.row.at_ h
   rw[e] at e';cases e'
   have:=cell_lt (v:=(bl r.2.2.2)[0]'(by simpa[bl] using h)) (by rw[hc];exact List.getElem?_eq_getElem _)
   rwa [add_block] at this
  ·have h4:0 < 4*ks.length:=by omega
   obtain⟨ad',e',hc⟩:=hs.at_ h4
   rw[e] at e';cases e'
   have:=cell_lt (v:=(flat ks)[0]'(by rw[flat_len];exact h4)) (by rw[hc];exact List.getElem?_eq_getElem _)
   rwa [add_block] at this
theorem liess.lt{w:World}{Pb:Nat→Prop}:∀ {ks:List Tv},(∀t∈ks,Ok w t)→liess Pb ks→liess (fun k=>Pb k∧k < w.heap.size) ks
 | [],_,_=>by rw[liess];trivial
 |x :: xs,h,hl=>by
  rw[liess] at hl ⊢
  exact⟨lies.lt (h _ List.mem_cons_self) hl.1,liess.lt (ks:=xs) (fun t ht=>h t (List.mem_cons_of_mem _ ht)) hl.2⟩
end
theorem Rt.below{w u:World}{g:Nat}{a b c d k:Int}{r:Rw}{p:Nat}(h:Rt w g a b c d k r p)(hb:Below w.heap.size w u):Rt u g a b c d k r p:=⟨h.row.below' hb,h.pc.below hb,h.le,h.apart⟩
end Go.Proofs.Yteblmphohhbgcaa.Wr
