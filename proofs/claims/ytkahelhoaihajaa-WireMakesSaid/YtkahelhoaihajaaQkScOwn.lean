/- Joined texts. -/
import Derived.Deep.Draws
import Derived.Laws.AppendOwnNone
import Derived.Test.YtkahelhoaihajaaQkScTotal
set_option linter.unusedVariables false
namespace Go.Proofs.Ytkahelhoaihajaa.Sc
open Go.RowKit
theorem Sl.own{w:World}{base:Nat}{e:TypeId}{v:Value}{n:Nat}{xs:List Value}(h:w.ownsRow base e 1 v n xs) :
  ∃A cap,v=.slice A n cap∧Sl w A n xs∧(A=none→cap=0)∧n≤maxLen:=by
 obtain⟨hl,h2⟩:=h
 rcases h2 with⟨rfl,rfl⟩|⟨g,cap,cur,rfl,hb,hh,hn,hm,hc,hx⟩
 ·exact⟨none,0,rfl,⟨by simpa using hl,fun k v hv=>by have:=List.length_pos_of_mem (List.mem_of_getElem? hv);omega⟩,fun _=>rfl,Nat.zero_le _⟩
 ·refine⟨some ⟨g,0,none⟩,cap,rfl,⟨by omega,fun k v hv=>⟨_,rfl,?_⟩⟩,fun h=>by simp at h,by omega⟩
  rw[add_at,cell_of_row _ _ _ _ _ _ hh]
  subst hx
  have hk:k < n:=by have:=(List.getElem?_eq_some_iff.1 hv).1;omega
  rw[List.getElem?_take_of_lt (by omega)] at hv
  rw[←hv];simp
theorem own_new(w:World)(e:TypeId)(xs:List Value)(hm:xs.length≤maxLen):(w.alloc (.cells xs.toArray e)).ownsRow w.heap.size e 1 (.slice (some ⟨w.heap.size,0,none⟩) xs.length xs.length) xs.length xs:=by
 refine⟨by omega,.inr ⟨w.heap.size,xs.length,xs.toArray,rfl,Nat.le_refl _,heap_alloc_new w _,Nat.le_refl _,hm,by simp,?_⟩⟩
 simp
theorem own_nil(w:World)(base:Nat)(e:TypeId):w.ownsRow base e 1 (.slice none 0 0) 0 []:=⟨rfl,.inl ⟨rfl,rfl⟩⟩
theorem own_base{w:World}{base base':Nat}{e:TypeId}{v:Value}{n:Nat}{xs:List Value}(h:w.ownsRow base e 1 v n xs)(hb:base'≤base):w.ownsRow base' e 1 v n xs:=by
 obtain⟨hl,h2⟩:=h
 refine⟨hl,?_⟩
 rcases h2 with h2|⟨g,cap,cur,hv,hg,r⟩
 ·exact .inl h2
 ·exact .inr ⟨g,cap,cur,hv,by omega,r⟩
section
variable {P:Program} {w:World}
theorem wpList_append_sl{ops:Array Oper}{rest:List Oper}{o:Oper}{a:Act}{Q:Exit→Act→World→Prop}(hgd:o.guard=none)(s x:Operand)(t:TypeId)
  (ho:o.op=.call { callee:=.builtin .append,args:=#[s,x],argTypes:=#[t,t] })
  (base:Nat) (e:TypeId) (i:TypeInfo) (z:Value) (bytes:Nat) (ht:P.underlying t=some (.slice e)) (hi:P.info? e=some i) (hz:i.zero=some z)
  (hsize:i.size=1) (hby:i.bytes=bytes) (hzs:z.cells.size=1)
  (v:Value) (n:Nat) (xs:List Value) (hs:a.eval s=v) (hown:w.ownsRow base e 1 v n xs)
  (A:Option Addr) (m c:Nat) (news:List Value) (hx:a.eval x=.slice A m c) (hnil:A=none→c=0) (hsl:Sl w A m news) (h1:∀u∈news,u.oneCell'=true)
  (h63:n+m≤maxLen) (hbytes:(n+m)*bytes≤140737488355328) (hbase:base≤w.heap.size)
  (h:∀v' w',w'.ownsRow base e 1 v' (n+m) (xs ++ news)→w.grownBy w' v.ownBlock→wpList P ops Q rest (a.put o.dst v') w'):wpList P ops Q (o :: rest) a w:=by
 cases A with
 |none =>
  obtain rfl:=hnil rfl
  have hm:m=0:=by
   rcases Nat.eq_zero_or_pos m with h0|h0
   ·exact h0
   ·obtain⟨ad,he,_⟩:=hsl.at_ h0
    cases he
  subst hm
  have hn:news=[]:=List.length_eq_zero_iff.1 hsl.1
  subst hn
  refine wpList_append_own_none hgd s x t ho base e i 1 ht hi v n xs hs hown hx ?_
  have:=h v w (by simpa using hown) (World.grownBy.refl w _)
  simpa using this
 |some ad =>
  refine wpList_append_own w hgd s x t ho base e i z 1 bytes ht hi hz hsize hby hzs (by decide) v n xs hs hown ad m c news hx (by rw[hsl.1];omega) (fun j u hu=>?_) h1 h63 hbytes hbase (fun v' w' h2 h3 _=>h v' w' h2 h3)
  obtain⟨ad',he,hc⟩:=hsl.2 j u hu
  cases he
  exact hc
end
end Go.Proofs.Ytkahelhoaihajaa.Sc
