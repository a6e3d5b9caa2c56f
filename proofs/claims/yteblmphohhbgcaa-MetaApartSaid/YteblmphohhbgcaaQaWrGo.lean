/- Joined texts. -/
import Derived.Maps.AppendAt
import Derived.Laws.OwnMore
import Derived.Test.YteblmphohhbgcaaQaWrWcount
import Derived.Test.YteblmphohhbgcaaQaWrBytes
set_option linter.unusedVariables false
namespace Go.Proofs.Yteblmphohhbgcaa.Wr
open Go.RowKit Go.Proofs.Yteblmphohhbgcaa.Gn Go.Proofs.Yteblmphohhbgcaa.Fd Go.Deep
mutual
def wgo(b c d:Int):Tv→Int→Int→Int × Int
 |.mk K n r _ _ ks,deep,k =>
  if b < deep then(23,k) else if k=c then(24,k) else
  if K=2 then(if d < (r.2.1:Int) then(2,k+1) else(0,k+1)) else
  if K=3 then wgos b c d ks (deep+1) (k+1) else(0,k+1)
def wgos(b c d:Int):List Tv→Int→Int→Int × Int
 | [],_,k=>(0,k)
 |t :: ts,deep,k=>if(wgo b c d t deep k).1=0 then wgos b c d ts deep (wgo b c d t deep k).2 else wgo b c d t deep k
end
mutual
def sz:Tv→Nat
 |.mk _ _ r _ _ ks=>1+r.2.1+szs ks
def szs:List Tv→Nat
 | []=>0
 |t :: ts=>sz t+szs ts
end
theorem szs_append(a b:List Tv):szs (a ++ b)=szs a+szs b:=by
 induction a with
 |nil=>simp[szs]
 |cons t a ih=>rw[List.cons_append,szs,szs,ih];omega
theorem szs_take(ks:List Tv)(k:Nat):szs (ks.take k)+szs (ks.drop k)=szs ks:=by
 have h:=szs_append (ks.take k) (ks.drop k)
 rw[List.take_append_drop] at h;exact h.symm
theorem sz_pos(t:Tv):1≤sz t:=by cases t;rw[sz];omega
theorem szs_len:∀(ks:List Tv),ks.length≤szs ks
 | []=>Nat.le_refl _
 |t :: ts=>by have:=szs_len ts;have:=sz_pos t;rw[szs,List.length_cons];omega
mutual
theorem wb_sz{w:World}:∀ {v:Tv},Ok w v→sz v≤1000000→(wb v).length≤10*sz v
 |.mk k n r A c ks,.mk hn hr hs hm hc h0 hk,hz=>by
  have h1:=cb_len (n:=n) hn
  rw[sz] at hz
  have h2:=cb_len (n:=r.2.1) (by omega)
  have h3:=cb_len (n:=ks.length) (by omega)
  have h4:=wbs_sz (ks:=ks) hk (by omega)
  have h5:=szs_len ks
  have hl:r.2.1=r.2.2.2.length:=hr.len
  rw[wb,sz]
  split
  ·rw[List.length_cons];omega
  ·split <;> simp only[List.length_cons,List.length_append] <;> omega
theorem wbs_sz{w:World}:∀ {ks:List Tv},(∀t∈ks,Ok w t)→szs ks≤1000000→(wbs ks).length≤10*szs ks
 | [],_,_=>by simp[wbs]
 |t :: ts,h,hz=>by
  rw[szs] at hz
  have h1:=wb_sz (v:=t) (h t List.mem_cons_self) (by omega)
  have h2:=wbs_sz (ks:=ts) (fun x hx=>h x (List.mem_cons_of_mem _ hx)) (by omega)
  rw[wbs,szs,List.length_append];omega
end
theorem Fr.refl(w:World)(Q:Nat)(T:Value):Fr w w Q T T:=⟨Nat.le_refl _,fun _ _ _ _=>rfl,fun _ h=>.inl h⟩
theorem Fr.trans{w a b:World}{Q:Nat}{T U V:Value}(h:Fr w a Q T U)(k:Fr a b Q U V):Fr w b Q T V :=
 ⟨Nat.le_trans h.size k.size,fun j hj hq hT=>(k.keep j (Nat.lt_of_lt_of_le hj h.size) hq (fun e=>by
  rcases h.own j e with e1|e1
  ·exact hT e1
  ·omega)).trans (h.keep j hj hq hT),fun j hj=>by
  rcases k.own j hj with e1|e1
  ·exact h.own j e1
  ·have:=h.size;exact .inr (by omega)⟩
theorem Fr.below{w a:World}{Q:Nat}{T U:Value}{b:World}(h:Fr w a Q T U)(k:Below w.heap.size a b)(hs:a.heap.size≤b.heap.size):Fr w b Q T U :=
 ⟨Nat.le_trans h.size hs,fun j hj hq hT=>(k.block j hj).trans (h.keep j hj hq hT),h.own⟩
theorem Fr.of{w a:World}(Q:Nat)(T:Value)(k:Below w.heap.size w a):Fr w a Q T T:=⟨k.size,fun j hj _ _=>k.block j hj,fun _ h=>.inl h⟩
theorem Fr.bl{w a:World}{Q:Nat}{T U:Value}(h:Fr w a Q T U){q:Nat}{t:TypeId}{cs:Array Value}(hb:Bl w q t cs)(hq:q≠Q)(hT:T.ownBlock≠some q):Bl a q t cs:=(h.keep q hb.lt hq hT).trans hb
theorem Wt.below{w a:World}{g:Nat}{x b c d k:Int}{l:List Nat}{T:Value}(h:Wt w g x b c d k l T)(hb:Below w.heap.size w a):Wt a g x b c d k l T :=
 ⟨h.row.below' hb,own_below h.own hb⟩
theorem own_lt{w:World}{base:Nat}{e:TypeId}{v:Value}{n:Nat}{xs:List Value}(h:w.ownsRow base e 1 v n xs){q:Nat}(hq:w.heap.size≤q):v.ownBlock≠some q:=by
 obtain⟨A,cap,rfl,-, -, -, -, ha⟩:=Sl.own h
 intro e
 cases A with
 |none=>cases e
 |some a=>have h1:=(ha a rfl).2;simp[Value.ownBlock] at e;omega
section
variable {P:Program} {Q:Exit→Act→World→Prop} {a:Act} {w:World}
theorem region_cut{c:Code}{α β:Type}(A:α→β→Act)(I:α→β→World→Prop)(h:c.wp P (Exit.then (fun a w=>∃m n,a=A m n∧I m n w) (fun _ _ _=>False)) a w)(k:∀m n w,I m n w→Q .normal (A m n) w):c.wp P Q a w :=
 Go.wp_mono h fun e a w q=>by
  cases e with
  |normal=>obtain⟨m,n,rfl,hi⟩:=q;exact k m n w hi
  |_=>exact q.elim
theorem wp_append_at(w:World){o:Oper}{a:Act}{K:Act→World→Prop}{Q:Exit→Act→World→Prop}(s x:Operand)(t:TypeId)
  (ho:o.op=.call { callee:=.builtin .append,args:=#[s,x],argTypes:=#[t,t] })
  (base:Nat) (e:TypeId) (i:TypeInfo) (z:Value) (size bytes:Nat) (ht:P.underlying t=some (.slice e)) (hi:P.info? e=some i) (hz:i.zero=some z)
  (hsize:i.size=size) (hby:i.bytes=bytes) (hzs:z.cells.size=size) (hsz:0 < size)
  (v:Value) (n:Nat) (xs:List Value) (hs:a.eval s=v) (hown:w.ownsRow base e size v n xs)
  (A:Option Addr) (m c:Nat) (news:List Value) (hx:a.eval x=.slice A m c) (hnil:A=none→c=0) (hsl:Sl w A (m*size) news) (h1:∀u∈news,u.oneCell'=true)
  (h63:n+m≤maxLen) (hbytes:(n+m)*bytes≤140737488355328) (hbase:base≤w.heap.size)
  (h:∀v' w',w'.ownsRow base e size v' (n+m) (xs ++ news)→w.grownBy w' v.ownBlock→(∀k,v'.ownBlock=some k→v.ownBlock=some k∨w.heap.size≤k)→K (a.put o.dst v') w'):Oper.wp P o a w K Q:=by
 cases A with
 |none =>
  obtain rfl:=hnil rfl
  have hm:m*size=0:=by
   rcases Nat.eq_zero_or_pos (m*size) with h0|h0
   ·exact h0
   ·obtain⟨ad,he,_⟩:=hsl.at_ h0
    cases he
  have hn:news=[]:=List.length_eq_zero_iff.1 (by rw[hsl.1,hm])
  have hm0:m=0:=by
   rcases Nat.eq_zero_or_pos m with h0|h0
   ·exact h0
   ·have:=Nat.mul_pos h0 hsz;omega
  subst hm0
  subst hn
  have hrun:=run_append_owned_none (P:=P) (w:=w) base t o.type e i size ht hi v n xs hown
  unfold Oper.wp
  simp only[execOp,ho]
  simp[resolve,invoke,builtin,hs,hx,hrun,Result.andThen]
  exact h v w (by simpa using hown) (World.grownBy.refl w _) (fun k hk=>.inl hk)
 |some ad =>
  obtain⟨v',w',hr,h2,h3,-, h5⟩:=run_append_own_at (P:=P) w base t o.type e i z size bytes ht hi hz hsize hby hzs hsz v n xs hown ad m c news hsl.1 (fun j u hu=>by obtain⟨ad',he,hc⟩:=hsl.2 j u hu;cases he;exact hc) h1 h63 hbytes hbase
  unfold Oper.wp execOp
  simp only[ho,resolve,invoke,builtin,Sem.run_bind,Sem.run_pure,Result.andThen_ok,List.map_toArray,List.map_cons,List.map_nil,hs,hx,hr]
  refine h v' w' h2 h3 fun k hk=>?_
  rcases h5 with h5|h5
  ·exact .inl (by rw[←h5];exact hk)
  ·rw[h5] at hk;injection hk with hk;exact .inr (Nat.le_of_eq hk)
theorem step_append_at(w:World){ops:Array Oper}{o:Oper}{a:Act}{K:Act→World→Prop}{Q:Exit→Act→World→Prop}{E:Prop}(hgd:o.guard=none)(s x:Operand)(t:TypeId)
  (ho:o.op=.call { callee:=.builtin .append,args:=#[s,x],argTypes:=#[t,t] })
  (base:Nat) (e:TypeId) (i:TypeInfo) (z:Value) (size bytes:Nat) (ht:P.underlying t=some (.slice e)) (hi:P.info? e=some i) (hz:i.zero=some z)
  (hsize:i.size=size) (hby:i.bytes=bytes) (hzs:z.cells.size=size) (hsz:0 < size)
  (v:Value) (n:Nat) (xs:List Value) (hs:a.eval s=v) (hown:w.ownsRow base e size v n xs)
  (A:Option Addr) (m c:Nat) (news:List Value) (hx:a.eval x=.slice A m c) (hnil:A=none→c=0) (hsl:Sl w A (m*size) news) (h1:∀u∈news,u.oneCell'=true)
  (h63:n+m≤maxLen) (hbytes:(n+m)*bytes≤140737488355328) (hbase:base≤w.heap.size)
  (h:∀v' w',w'.ownsRow base e size v' (n+m) (xs ++ news)→w.grownBy w' v.ownBlock→(∀k,v'.ownBlock=some k→v.ownBlock=some k∨w.heap.size≤k)→K (a.put o.dst v') w') :
  if Region.wanted o (yielded ops a.tmps)=true then Oper.wp P o a w K Q else E:=by
 have hw:Region.wanted o (yielded ops a.tmps)=true:=by simp[Region.wanted,hgd]
 rw[if_pos hw]
 exact wp_append_at w s x t ho base e i z size bytes ht hi hz hsize hby hzs hsz v n xs hs hown A m c news hx hnil hsl h1 h63 hbytes hbase h
theorem wpList_append_at(w:World){ops:Array Oper}{rest:List Oper}{o:Oper}{a:Act}{Q:Exit→Act→World→Prop}(hgd:o.guard=none)(s x:Operand)(t:TypeId)
  (ho:o.op=.call { callee:=.builtin .append,args:=#[s,x],argTypes:=#[t,t] })
  (base:Nat) (e:TypeId) (i:TypeInfo) (z:Value) (size bytes:Nat) (ht:P.underlying t=some (.slice e)) (hi:P.info? e=some i) (hz:i.zero=some z)
  (hsize:i.size=size) (hby:i.bytes=bytes) (hzs:z.cells.size=size) (hsz:0 < size)
  (v:Value) (n:Nat) (xs:List Value) (hs:a.eval s=v) (hown:w.ownsRow base e size v n xs)
  (A:Option Addr) (m c:Nat) (news:List Value) (hx:a.eval x=.slice A m c) (hnil:A=none→c=0) (hsl:Sl w A (m*size) news) (h1:∀u∈news,u.oneCell'=true)
  (h63:n+m≤maxLen) (hbytes:(n+m)*bytes≤140737488355328) (hbase:base≤w.heap.size)
  (h:∀v' w',w'.ownsRow base e size v' (n+m) (xs ++ news)→w.grownBy w' v.ownBlock→(∀k,v'.ownBlock=some k→v.ownBlock=some k∨w.heap.size≤k)→wpList P ops Q rest (a.put o.dst v') w'):wpList P ops Q (o :: rest) a w :=
 wpList_plain hgd fun _ hK=>wp_append_at w s x t ho base e i z size bytes ht hi hz hsize hby hzs hsz v n xs hs hown A m c news hx hnil hsl h1 h63 hbytes hbase fun v' w' h2 h3 h4=>hK _ _ (h v' w' h2 h3 h4)
end
end Go.Proofs.Yteblmphohhbgcaa.Wr
