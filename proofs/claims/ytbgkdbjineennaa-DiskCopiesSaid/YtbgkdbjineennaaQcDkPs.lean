/- Joined texts. -/
import Derived.Test.YtbgkdbjineennaaQcDkGf
set_option linter.unusedVariables false
namespace Go.Proofs.Ytbgkdbjineennaa.Dk
open Go.RowKit Go.Proofs.Ytbgkdbjineennaa.Gn Go.Proofs.Ytbgkdbjineennaa.Fd Go.Deep
theorem flat_len(ss:List (List Nat))(h:∀s∈ss,s.length=64):ss.flatten.length=64*ss.length:=by
 induction ss with
 |nil=>rfl
 |cons a t ih=>rw[List.flatten_cons,List.length_append,ih fun s hs=>h s (List.mem_cons_of_mem _ hs),h a (List.mem_cons_self ..),List.length_cons];omega
theorem flat_set(x:List Nat):∀(ss:List (List Nat)) (p:Nat),(∀s∈ss,s.length=64)→p < ss.length→(ss.set p x).flatten=ss.flatten.take (64*p) ++ (x ++ ss.flatten.drop (64*p+64)):=by
 intro ss
 induction ss with
 |nil=>intro p h hp;simp at hp
 |cons a t ih =>
  intro p h hp
  have ha:=h a (List.mem_cons_self ..)
  have ht:∀s∈t,s.length=64:=fun s hs=>h s (List.mem_cons_of_mem _ hs)
  cases p with
  |zero =>
   rw[List.set_cons_zero,List.flatten_cons,List.flatten_cons,Nat.mul_zero,List.take_zero,List.nil_append,Nat.zero_add,←ha,List.drop_left]
  |succ p =>
   rw[List.set_cons_succ,List.flatten_cons,List.flatten_cons,ih p ht (by simpa using hp),List.take_append,List.drop_append,ha,List.drop_of_length_le (l:=a) (by omega),List.nil_append,List.append_assoc,show 64*(p+1) - 64=64*p by omega,show 64*(p+1)+64 - 64=64*p+64 by omega,List.take_of_length_le (l:=a) (by omega)]
theorem flat_at:∀(ss:List (List Nat)) (p:Nat),(∀s∈ss,s.length=64)→p < ss.length→(ss.flatten.drop (64*p)).take 64=ss.getD p []:=by
 intro ss
 induction ss with
 |nil=>intro p h hp;simp at hp
 |cons a t ih =>
  intro p h hp
  have ha:=h a (List.mem_cons_self ..)
  have ht:∀s∈t,s.length=64:=fun s hs=>h s (List.mem_cons_of_mem _ hs)
  cases p with
  |zero=>rw[List.flatten_cons,Nat.mul_zero,List.drop_zero,←ha,List.take_left];rfl
  |succ p =>
   rw[List.flatten_cons,List.drop_append,ha,List.drop_of_length_le (l:=a) (by omega),List.nil_append,show 64*(p+1) - 64=64*p by omega,ih p ht (by simpa using hp)]
   simp[List.getD]
theorem spl_tail{ss:List (List Nat)}(tl:List Value)(h:∀s∈ss,s.length=64){p:Nat}(hp:p < ss.length){x:List Nat}(hx:x.length=64):spl (bl ss.flatten ++ tl).toArray (64*p) (bl x)=(bl (ss.set p x).flatten ++ tl).toArray:=by
 have hl:=flat_len ss h
 have hb:(bl x).length=64:=by rw[bl_length,hx]
 have hf:(bl ss.flatten).length=64*ss.length:=by rw[bl_length,hl]
 rw[spl_eq _ _ _ (by rw[hb,List.size_toArray,List.length_append,hf];omega),hb,flat_set x ss p h hp]
 simp only[bl_append,←bl_take,←bl_drop]
 rw[List.take_append_of_le_length (by omega),List.drop_append_of_le_length (by omega)]
 simp only[List.append_assoc]
def RT(w:World)(gb:Nat)(bs:List Nat)(tl:List Value):Prop:=Bl w gb 5 (bl bs ++ tl).toArray
theorem RT.sl{w:World}{gb:Nat}{bs:List Nat}{tl:List Value}(h:RT w gb bs tl):Sl w (some ⟨gb,0,none⟩) bs.length (bl bs):=Sl.of_bl h 0 _ _ (by rw[bl_length]) fun k v hk=>by
 have hkl:=(List.getElem?_eq_some_iff.1 hk).1
 rw[Nat.zero_add,List.getElem?_toArray,List.getElem?_append_left hkl];exact hk
def hrow:List (Nat × List Nat)→List Value
 | []=>[]
 |h :: t=>(wv h.1 h.2).toList ++ hrow t
theorem hrow_app(a b:List (Nat × List Nat)):hrow (a ++ b)=hrow a ++ hrow b:=by
 induction a with
 |nil=>rfl
 |cons h t ih=>rw[List.cons_append,hrow,hrow,ih,List.append_assoc]
theorem hrow_at:∀(l:List (Nat × List Nat)) (i:Nat) (q:Nat × List Nat) (j:Nat),(∀x∈l,x.2.length=64)→l[i]?=some q→j < 65→(hrow l)[i*65+j]?=(wv q.1 q.2)[j]?:=by
 intro l
 induction l with
 |nil=>intro i q j h hq;simp at hq
 |cons a t ih =>
  intro i q j h hq hj
  have ha:=wv_size a.1 (h a (List.mem_cons_self ..))
  rw[hrow]
  cases i with
  |zero =>
   obtain rfl:a=q:=by simpa using hq
   rw[Nat.zero_mul,Nat.zero_add,List.getElem?_append_left (by rw[Array.length_toList,ha];exact hj),Array.getElem?_toList]
  |succ i =>
   rw[List.getElem?_append_right (by rw[Array.length_toList,ha];omega),Array.length_toList,ha,show(i+1)*65+j - 65=i*65+j by omega]
   exact ih i q j (fun x hx=>h x (List.mem_cons_of_mem _ hx)) (by simpa using hq) hj
theorem sett_step(f:Nat→Bool)(hd:List (Nat × List Nat))(i:Nat)(q:Nat × List Nat)(h:hd[i]?=some q)(ss:List (List Nat)):sett f i (hd.drop i) ss=sett f (i+1) (hd.drop (i+1)) (if f i=true then ss.set q.1 q.2 else ss):=by
 have hi:i < hd.length:=(List.getElem?_eq_some_iff.1 h).1
 have hq:hd[i]=q:=(List.getElem?_eq_some_iff.1 h).2
 rw[List.drop_eq_getElem_cons hi,hq,sett]
end Go.Proofs.Ytbgkdbjineennaa.Dk
