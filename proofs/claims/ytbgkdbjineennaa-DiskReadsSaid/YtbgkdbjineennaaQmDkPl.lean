/- Joined texts. -/
import Derived.Test.YtbgkdbjineennaaQmDkP
set_option linter.unusedVariables false
namespace Go.Proofs.Ytbgkdbjineennaa.Dk
theorem keep_flush(m:M):m.start.flush=(0,m.start.tick.settle):=M.flush_none rfl rfl
theorem sett_mix(f:Nat→Bool)(h:List (Nat × List Nat)):∀(i:Nat) (ss:List (List Nat)) (s:Nat),s < ss.length→(sett f i h ss).getD s []=ss.getD s []∨∃x∈h,x.1=s∧(sett f i h ss).getD s []=x.2:=by
 induction h with
 |nil=>intro i ss s hs;exact .inl rfl
 |cons h t ih =>
  intro i ss s hs
  rw[sett]
  rcases ih (i+1) (if f i=true then ss.set h.1 h.2 else ss) s (by split <;> simpa using hs) with e|⟨x,hx,h1,h2⟩
  ·rw[e]
   split
   ·by_cases hq:h.1=s
    ·exact .inr ⟨h,List.mem_cons_self .., hq,by subst hq;simp[List.getD,hs]⟩
    ·exact .inl (by simp[List.getD,List.getElem?_set_ne hq])
   ·exact .inl rfl
  ·exact .inr ⟨x,List.mem_cons_of_mem _ hx,h1,h2⟩
theorem at_hold(m:M)(p:Nat)(b:List Nat)(q:Nat):(m.hold p b).at_ q=if p=q then b else m.at_ q:=by
 unfold M.at_ M.hold
 rw[List.reverse_append]
 by_cases h:p=q
 ·simp[h]
 ·simp[h]
theorem at_tick(m:M)(q:Nat):m.tick.at_ q=m.at_ q:=rfl
theorem sett_all(h:List (Nat × List Nat)):∀(i:Nat) (ss:List (List Nat)) (q:Nat),q < ss.length→(sett (fun _=>true) i h ss).getD q []=((h.reverse.find? fun x=>x.1 == q).map (·.2)).getD (ss.getD q []):=by
 induction h with
 |nil=>intro i ss q hq;rfl
 |cons h t ih =>
  intro i ss q hq
  rw[sett,if_pos rfl,ih _ _ q (by simpa using hq),List.reverse_cons,List.find?_append]
  cases e:t.reverse.find? fun x=>x.1 == q with
  |some x=>rfl
  |none =>
   by_cases hp:h.1=q
   ·subst hp;simp[List.getD,hq]
   ·simp[List.getD,hp,List.getElem?_set_ne hp]
theorem at_settle(m:M)(q:Nat)(hq:q < m.ss.length):m.settle.at_ q=m.at_ q:=by
 unfold M.settle
 rw[M.at_]
 exact sett_all _ _ _ _ hq
theorem rows_congr{m n:M}(k:Nat):∀(p:Nat),(∀q,p≤q→q < p+k→n.at_ q=m.at_ q)→n.rows p k=m.rows p k:=by
 induction k with
 |zero=>intro p h;rfl
 |succ k ih =>
  intro p h
  rw[M.rows,M.rows,h p (Nat.le_refl _) (by omega),ih (p+1) (fun q h1 h2=>h q (by omega) (by omega))]
theorem rows_settle(m:M)(p k:Nat)(h:p+k≤m.ss.length):m.tick.settle.rows p k=m.rows p k :=
 rows_congr k p fun q h1 h2=>(at_settle m.tick q (by show q < m.ss.length;omega)).trans rfl
theorem reach_in{m:M}(hu:m.up=true){p:Nat}(hp:p < m.ss.length):m.reach (p:Int)=0:=by
 unfold M.reach
 rw[if_pos hu,if_neg (by omega)]
theorem saves_none(f:Nat):∀(m:M) (p:Nat) (b:List Nat),b.length < f→m.up=true→m.cut=none→64*p+b.length≤64*m.ss.length →
  ∃n,M.saves f m p b=(0,n)∧n.up=true∧n.cut=none∧n.ss=m.ss∧(∀q,q < p→n.at_ q=m.at_ q)∧(n.rows p ((b.length+63) / 64)).take b.length=b∧n.hd.length=m.hd.length+(b.length+63) / 64:=by
 induction f with
 |zero=>intro m p b h;omega
 |succ f ih =>
  intro m p b h hu hc hs
  rw[M.saves]
  by_cases hb:b=[]
  ·subst hb
   exact⟨m,if_pos rfl,hu,hc,rfl,fun _ _=>rfl,rfl,rfl⟩
  ·have hl:0 < b.length:=List.length_pos_iff.2 hb
   have hw:=M.write_none hc (reach_in hu (p:=p) (by omega)) (pad_length b)
   rw[if_neg hb,hw,if_pos rfl]
   obtain⟨n,h1,h2,h3,h4,h5,h6,h7⟩:=ih ((m.hold (p:Int).toNat (pad b)).tick) (p+1) (b.drop 64) (by rw[List.length_drop];omega) hu hc (by rw[List.length_drop];show _≤64*m.ss.length;omega)
   refine⟨n,h1,h2,h3,h4,?_,?_,?_⟩
   ·intro q hq
    rw[h5 q (by omega),at_tick,at_hold,if_neg (by simp;omega)]
   ·have hk:(b.length+63) / 64=((b.drop 64).length+63) / 64+1:=by rw[List.length_drop];omega
    have hp:n.at_ p=pad b:=by rw[h5 p (by omega),at_tick,at_hold,if_pos (by simp)]
    rw[hk,M.rows,hp,List.take_append,pad_length]
    by_cases hb2:b.length≤64
    ·have e:b.length - 64=0:=by omega
     rw[e,List.take_zero,List.append_nil]
     unfold pad
     rw[List.take_of_length_le hb2,List.take_append,Nat.sub_self,List.take_zero,List.append_nil,List.take_length]
    ·have e1:pad b=b.take 64:=by unfold pad;rw[show 64 - b.length=0 by omega];simp
     rw[e1,List.take_of_length_le (by rw[List.length_take];omega)]
     rw[List.length_drop] at h6
     rw[List.length_drop,h6,List.take_append_drop]
   ·rw[h7,List.length_drop]
    simp only[M.tick,M.hold,List.length_append,List.length_singleton]
    omega
theorem span_in{m:M}{a n:Int}(h0:0≤a)(h1:a≤m.ss.length)(h2:n≤((m.ss.length:Int) - a)*64):m.span a n=0:=by
 unfold M.span
 rw[if_neg (by omega),if_neg (by omega)]
theorem span_no{m:M}{a n:Int}(h0:0≤a)(h1:a≤m.ss.length)(h2:((m.ss.length:Int) - a)*64 < n):m.span a n=61:=by
 unfold M.span
 rw[if_neg (by omega),if_pos h2]
theorem save_none(m:M)(a:Nat)(b:List Nat)(hu:m.up=true)(hc:m.cut=none)(ha:a≤m.ss.length) :
  ((m.save a b).1=61∧64*(m.ss.length - a) < b.length∧(m.save a b).2=m) ∨
   ((m.save a b).1=0∧(m.save a b).2.up=true∧(m.save a b).2.cut=none∧(m.save a b).2.ss=m.ss∧64*a+b.length≤64*m.ss.length∧((m.save a b).2.rows a ((b.length+63) / 64)).take b.length=b):=by
 unfold M.save
 rw[if_pos hu]
 by_cases h:((m.ss.length:Int) - a)*64 < b.length
 ·rw[span_no (by omega) (by omega) h,if_neg (by decide)]
  exact .inl ⟨rfl,by omega,rfl⟩
 ·rw[span_in (by omega) (by omega) (by omega),if_pos rfl]
  obtain⟨n,h1,h2,h3,h4,h5,h6,h7⟩:=saves_none (b.length+1) m a b (by omega) hu hc (by omega)
  rw[Int.toNat_natCast,h1]
  exact .inr ⟨rfl,h2,h3,h4,by omega,h6⟩
theorem load_in{n:M}(hu:n.up=true)(a k:Nat)(h:64*a+k≤64*n.ss.length):n.load a k=(0,(n.rows a ((k+63) / 64)).take k):=by
 unfold M.load
 rw[if_pos hu,if_neg (by omega),span_in (by omega) (by omega) (by omega),if_pos rfl,Int.toNat_natCast,Int.toNat_natCast]
theorem read_flush(m:M)(a:Nat)(b:List Nat)(hu:m.up=true)(hc:m.cut=none)(ha:a≤m.ss.length)(h0:(m.save a b).1=0):(m.save a b).2.flush.1=0∧(m.save a b).2.flush.2.load a b.length=(0,b):=by
 rcases save_none m a b hu hc ha with⟨h,-⟩|⟨-, h2,h3,h4,h5,h6⟩
 ·rw[h0] at h;cases h
 ·rw[M.flush_none h3 h2]
  refine⟨rfl,?_⟩
  have hl:(m.save (a:Int) b).2.tick.settle.ss.length=m.ss.length:=by
   show(sett _ _ _ (m.save (a:Int) b).2.ss).length=_
   rw[sett_length,h4]
  rw[load_in (n:=(m.save (a:Int) b).2.tick.settle) h2 a _ (by rw[hl];exact h5),rows_settle _ _ _ (by rw[h4];omega),h6]
theorem stroke_err(m:M):m.stroke.1=0∨m.stroke.1=60:=by
 unfold M.stroke
 split <;> simp
end Go.Proofs.Ytbgkdbjineennaa.Dk
