/- Joined texts. -/
import Derived.Maps.AppendAt
import Derived.Laws.OwnMore
import Derived.Deep.RegionHeld3
import Derived.Deep.QuietTactic
import Derived.BigQuiet
import Derived.Test.YtbgkdbjineennaaQcDkSm
import Derived.Test.YtbgkdbjineennaaQcDkK
set_option linter.unusedVariables false
namespace Go.Proofs.Ytbgkdbjineennaa.Dk
open Go.IntWalk Go.RowKit Go.Proofs.Ytbgkdbjineennaa.Gn Go.Proofs.Ytbgkdbjineennaa.Fd Go.Deep
section
variable {P:Program}
theorem wp_append_at(w:World){o:Oper}{a:Act}{K:Act→World→Prop}{Q:Exit→Act→World→Prop}(s x:Operand)(t:TypeId)
  (ho:o.op=.call { callee:=.builtin .append,args:=#[s,x],argTypes:=#[t,t] })
  (base:Nat) (e:TypeId) (i:TypeInfo) (z:Value) (size bytes:Nat) (ht:P.underlying t=some (.slice e)) (hi:P.info? e=some i) (hz:i.zero=some z)
  (hsize:i.size=size) (hby:i.bytes=bytes) (hzs:z.cells.size=size) (hsz:0 < size)
  (v:Value) (n:Nat) (xs:List Value) (hs:a.eval s=v) (hown:w.ownsRow base e size v n xs)
  (A:Option Addr) (m c:Nat) (news:List Value) (hx:a.eval x=.slice A m c) (hnil:A=none→c=0) (hsl:Sl w A (m*size) news) (h1:∀u∈news,u.oneCell'=true)
  (h63:n+m≤maxLen) (hbytes:(n+m)*bytes≤140737488355328) (hbase:base≤w.heap.size)
  (h:∀v' w',w'.ownsRow base e size v' (n+m) (xs ++ news)→w.grownBy w' v.ownBlock→(∀k,v'.ownBlock=some k→v.ownBlock=some k∨w.heap.size≤k)→K (a.put o.dst v') w'):Oper.wp P o a w K Q:=by
 cases A with
 |none =>
  obtain rfl:=hnil rfl
  have hm:m*size=0:=by
   rcases Nat.eq_zero_or_pos (m*size) with h0|h0
   ·exact h0
   ·obtain⟨ad,he,_⟩:=hsl.at_ h0
    cases he
  have hn:news=[]:=List.length_eq_zero_iff.1 (by rw[hsl.1,hm])
  have hm0:m=0:=by
   rcases Nat.eq_zero_or_pos m with h0|h0
   ·exact h0
   ·have:=Nat.mul_pos h0 hsz;omega
  subst hm0
  subst hn
  have hrun:=run_append_owned_none (P:=P) (w:=w) base t o.type e i size ht hi v n xs hown
  unfold Oper.wp
  simp only[execOp,ho]
  simp[resolve,invoke,builtin,hs,hx,hrun,Result.andThen]
  exact h v w (by simpa using hown) (World.grownBy.refl w _) (fun k hk=>.inl hk)
 |some ad =>
  obtain⟨v',w',hr,h2,h3,-, h5⟩:=run_append_own_at (P:=P) w base t o.type e i z size bytes ht hi hz hsize hby hzs hsz v n xs hown ad m c news hsl.1 (fun j u hu=>by obtain⟨ad',he,hc⟩:=hsl.2 j u hu;cases he;exact hc) h1 h63 hbytes hbase
  unfold Oper.wp execOp
  simp only[ho,resolve,invoke,builtin,Sem.run_bind,Sem.run_pure,Result.andThen_ok,List.map_toArray,List.map_cons,List.map_nil,hs,hx,hr]
  refine h v' w' h2 h3 fun k hk=>?_
  rcases h5 with h5|h5
  ·exact .inl (by rw[←h5];exact hk)
  ·rw[h5] at hk;injection hk with hk;exact .inr (Nat.le_of_eq hk)
theorem step_append_at(w:World){ops:Array Oper}{o:Oper}{a:Act}{K:Act→World→Prop}{Q:Exit→Act→World→Prop}{E:Prop}(hgd:o.guard=none)(s x:Operand)(t:TypeId)
  (ho:o.op=.call { callee:=.builtin .append,args:=#[s,x],argTypes:=#[t,t] })
  (base:Nat) (e:TypeId) (i:TypeInfo) (z:Value) (size bytes:Nat) (ht:P.underlying t=some (.slice e)) (hi:P.info? e=some i) (hz:i.zero=some z)
  (hsize:i.size=size) (hby:i.bytes=bytes) (hzs:z.cells.size=size) (hsz:0 < size)
  (v:Value) (n:Nat) (xs:List Value) (hs:a.eval s=v) (hown:w.ownsRow base e size v n xs)
  (A:Option Addr) (m c:Nat) (news:List Value) (hx:a.eval x=.slice A m c) (hnil:A=none→c=0) (hsl:Sl w A (m*size) news) (h1:∀u∈news,u.oneCell'=true)
  (h63:n+m≤maxLen) (hbytes:(n+m)*bytes≤140737488355328) (hbase:base≤w.heap.size)
  (h:∀v' w',w'.ownsRow base e size v' (n+m) (xs ++ news)→w.grownBy w' v.ownBlock→(∀k,v'.ownBlock=some k→v.ownBlock=some k∨w.heap.size≤k)→K (a.put o.dst v') w') :
  if Region.wanted o (yielded ops a.tmps)=true then Oper.wp P o a w K Q else E:=by
 have hw:Region.wanted o (yielded ops a.tmps)=true:=by simp[Region.wanted,hgd]
 rw[if_pos hw]
 exact wp_append_at w s x t ho base e i z size bytes ht hi hz hsize hby hzs hsz v n xs hs hown A m c news hx hnil hsl h1 h63 hbytes hbase h
end
theorem take_l{P:Program}{ops:Array Oper}{Q:Exit→Act→World→Prop}{md:Region.Mode}{S:World→Prop}(i:Nat){oi:Oper}{v:Value}{fuel:Nat}{listed:Array Bool}{a:Act}{w:World}(hi:ops.toList[i]?=some oi)
  (hs:Region.noSelect ops=true) (hf:Region.free md ops listed i=true) (hr:(Region.ready md ops listed).contains i=true)
  (hQ:∀c a w,Q (.panic c) (a.put oi.dst v) w→Q (.panic c) a w) (hy:YieldsIf P ops S oi v a) (hS:S w)
  (h:wpAnyH P md ops Q S fuel (listed.setIfInBounds i true) (a.put oi.dst v) w):wpAnyH P md ops Q S (fuel+1) listed a w :=
 wpAnyH_take (by rw[←Array.getElem?_toList];exact hi) hs hf hr hQ hy hS h
theorem cons_l{P:Program}{ops:Array Oper}{Q:Exit→Act→World→Prop}{md:Region.Mode}{S:World→Prop}{fuel:Nat}{listed:Array Bool}{a:Act}{w:World}{i:Nat}{o:Oper}{rs:List Nat}(ho:ops.toList[i]?=some o)
  (h:∀K':Act→World→Prop,Shut (∀a w,S w→(S w→wpAnyH P md ops Q S fuel (listed.setIfInBounds i true) a w)→K' a w)→if Region.wanted o (yielded ops a.tmps)=true then Oper.wp P o a w K' Q else K' (a.put o.dst undef) w)
  (hs:AllReadyH P md ops Q S fuel listed a w rs):AllReadyH P md ops Q S fuel listed a w (i :: rs) :=
 AllReadyH.cons (by rw[←Array.getElem?_toList];exact ho) h hs
def Kd(w:World)(k:Nat)(t:TypeId):Prop:=∃cs,Bl w k t cs
theorem Kd.unlike{w:World}{a b:Nat}{s t:TypeId}(h:Kd w a s)(k:Kd w b t)(hst:s≠t):a≠b:=two_blocks h.choose_spec k.choose_spec hst
theorem Kd.lt{w:World}{a:Nat}{s:TypeId}(h:Kd w a s):a < w.heap.size:=h.choose_spec.lt
theorem Kd.same{w w':World}{a:Nat}{s:TypeId}(h:Kd w' a s)(e:w'.heap[a]?=w.heap[a]?):Kd w a s:=by
 obtain⟨cs,hc⟩:=h;exact⟨cs,e.symm.trans hc⟩
def Dt(w:World)(k:Nat):Prop:=Kd w k 76∨Kd w k 22∨Kd w k 79
theorem Dt.same{w w':World}{a:Nat}(h:Dt w' a)(e:w'.heap[a]?=w.heap[a]?):Dt w a:=h.imp (·.same e) fun h=>h.imp (·.same e) (·.same e)
theorem Dt.unlike{w:World}{a b:Nat}{t:TypeId}(h:Dt w a)(k:Kd w b t)(h1:76≠t)(h2:22≠t)(h3:79≠t):a≠b:=by
 rcases h with h|h|h
 ·exact h.unlike k h1
 ·exact h.unlike k h2
 ·exact h.unlike k h3
structure Fx (T:List Nat) (lo:Nat) (w w':World):Prop where
 os:w'.os=w.os
 tape:w'.tape=w.tape
 output:w'.output=w.output
 size:w.heap.size≤w'.heap.size
 block:∀k,k < w.heap.size→k∉T→¬(lo≤k∧Dt w k)→w'.heap[k]?=w.heap[k]?
theorem Fx.refl(T:List Nat)(lo:Nat)(w:World):Fx T lo w w:=⟨rfl,rfl,rfl,Nat.le_refl _,fun _ _ _ _=>rfl⟩
theorem Fx.trans{T:List Nat}{lo:Nat}{a b c:World}(h:Fx T lo a b)(k:Fx T lo b c):Fx T lo a c :=
 ⟨k.os.trans h.os,k.tape.trans h.tape,k.output.trans h.output,Nat.le_trans h.size k.size,fun i hi hn hd=>by
  have e:=h.block i hi hn hd
  exact(k.block i (Nat.lt_of_lt_of_le hi h.size) hn fun hx=>hd ⟨hx.1,hx.2.same e⟩).trans e⟩
theorem Fx.mono{T U:List Nat}{lo lo':Nat}{w w':World}(h:Fx T lo w w')(hs:∀k∈T,k∈U)(hl:lo'≤lo):Fx U lo' w w' :=
 ⟨h.os,h.tape,h.output,h.size,fun k hk hn hd=>h.block k hk (fun e=>hn (hs k e)) fun hx=>hd ⟨Nat.le_trans hl hx.1,hx.2⟩⟩
theorem Fx.of_gx{T:List Nat}{lo:Nat}{w w':World}(h:Gx T w w'):Fx T lo w w':=⟨h.os,h.tape,h.output,h.size,fun k hk hn _=>h.block k hk hn⟩
theorem Fx.of_below{T:List Nat}{lo:Nat}{w w':World}(h:Below w.heap.size w w'):Fx T lo w w':=.of_gx (.of_below h)
theorem Fx.of_kind{T S:List Nat}{lo:Nat}{w w':World}(h:Gx S w w')(hS:∀k∈S,k∈T∨(lo≤k∧(k < w.heap.size→Dt w k))):Fx T lo w w' :=
 ⟨h.os,h.tape,h.output,h.size,fun k hk hn hd=>h.block k hk fun e=>(hS k e).elim hn fun hx=>hd ⟨hx.1,hx.2 hk⟩⟩
theorem Fx.below{T:List Nat}{lo n:Nat}{w w':World}(h:Fx T lo w w')(hn:n≤w.heap.size)(hT:∀k∈T,n≤k)(hl:n≤lo):Below n w w' :=
 ⟨h.os,h.tape,h.output,h.size,fun k hk=>h.block k (by omega) (fun e=>by have:=hT k e;omega) fun hx=>by omega⟩
def Sec(w:World)(lo:Nat)(V:Value):Prop:=∃q cap l,V=.slice (some ⟨q,0,none⟩) 64 cap∧64≤cap∧lo≤q∧Kd w q 5∧Sl w (some ⟨q,0,none⟩) 64 (bl l)
theorem Sec.kept{w w':World}{lo:Nat}{V:Value}(h:Sec w lo V){T:List Nat}(hG:Gx T w w')(hT:∀b∈T,¬(lo≤b∧Kd w b 5)):Sec w' lo V:=by
 obtain⟨q,cap,l,rfl,h1,h2,h3,h4⟩:=h
 have hq:q∉T:=fun e=>hT q e ⟨h2,h3⟩
 obtain⟨cs,hc⟩:=h3
 exact⟨q,cap,l,rfl,h1,h2,⟨cs,hG.bl hq hc⟩,sl_gx hG (fun ad e=>by cases e;exact hq) h4⟩
def hcells:List (Nat × Value)→List Value
 | []=>[]
 |h :: t=>.int .i64 (h.1:Int) :: h.2 :: hcells t
theorem hcells_app(a b:List (Nat × Value)):hcells (a ++ b)=hcells a ++ hcells b:=by
 induction a with
 |nil=>rfl
 |cons x a ih=>simp[hcells,ih]
theorem hcells_at:∀(l:List (Nat × Value)) (i:Nat) (q:Nat × Value),l[i]?=some q→(hcells l)[2*i]?=some (.int .i64 (q.1:Int))∧(hcells l)[2*i+1]?=some q.2
 | [],i,q,h=>by simp at h
 |x :: l,0,q,h=>by simp at h;subst h;exact⟨rfl,rfl⟩
 |x :: l,i+1,q,h=>by
  have:=hcells_at l i q (by simpa using h)
  rw[show 2*(i+1)=2*i+1+1 by omega,hcells,List.getElem?_cons_succ,List.getElem?_cons_succ,show 2*i+1+1+1=(2*i+1)+1+1 by omega,List.getElem?_cons_succ,List.getElem?_cons_succ]
  exact this
structure Rq (w:World) (a0 lo r n:Nat) (S V:Value) (dn:Bool) (st lf:Int) (A:Option Addr) (k c:Nat) (xs:List Value) (hs:List (Nat × Value)) (cb:List Bool):Prop where
 blk:Bl w r 76 #[S,V,.bool dn,.int .i64 st,.int .i64 lf,.slice A k c]
 row:w.ownsRow lo 22 1 S n xs
 secs:∀x∈xs,Sec w lo x
 wait:w.ownsRow lo 79 2 V hs.length (hcells hs)
 hsec:∀h∈hs,h.1 < n∧Sec w lo h.2
 st0:0≤st
 st9:st < 1000000000
 hl9:hs.length < 1000000
 lf0 : -1≤lf
 lf9:lf < 9223372036854775808
 cho:Sl w A k (cb.map Value.bool)
 k9:k≤4096
 cA:∀ad,A=some ad→0 < k→ad.block < a0
 rlo:lo≤r
 al:a0≤lo
 n9:n≤100
section
variable {w:World} {a0 lo r n:Nat} {S V:Value} {dn:Bool} {st lf:Int} {A:Option Addr} {k c:Nat} {xs:List Value} {hs:List (Nat × Value)} {cb:List Bool}
theorem own_kd{w:World}{base size n:Nat}{e:TypeId}{v:Value}{xs:List Value}(ho:w.ownsRow base e size v n xs){b:Nat}(hb:v.ownBlock=some b):base≤b∧Kd w b e:=by
 obtain⟨hl,⟨rfl,h0⟩|⟨g,cap,cur,rfl,hb',hh,h1,h2,h3,h4⟩⟩:=ho
 ·cases hb
 ·cases hb
  exact⟨hb',cur,hh⟩
theorem Rq.kept(h:Rq w a0 lo r n S V dn st lf A k c xs hs cb){T:List Nat}{w':World}(hG:Gx T w w')(hT:∀b∈T,a0≤b∧¬(lo≤b∧(Dt w b∨Kd w b 5))):Rq w' a0 lo r n S V dn st lf A k c xs hs cb:=by
 have hs':∀b∈T,¬(lo≤b∧Kd w b 5):=fun b hb e=>(hT b hb).2 ⟨e.1,.inr e.2⟩
 refine⟨hG.bl (fun e=>(hT r e).2 ⟨h.rlo,.inl (.inl ⟨_,h.blk⟩)⟩) h.blk,own_gx hG (fun b hb e=>(hT b e).2 ⟨(own_kd h.row hb).1,.inl (.inr (.inl (own_kd h.row hb).2))⟩) h.row,fun x hx=>(h.secs x hx).kept hG hs',
  own_gx hG (fun b hb e=>(hT b e).2 ⟨(own_kd h.wait hb).1,.inl (.inr (.inr (own_kd h.wait hb).2))⟩) h.wait,fun x hx=>⟨(h.hsec x hx).1,(h.hsec x hx).2.kept hG hs'⟩,h.st0,h.st9,h.hl9,h.lf0,h.lf9,sl_gx0 hG (fun ad e hk hm=>by have:=h.cA ad e hk;have:=(hT _ hm).1;omega) h.cho,h.k9,h.cA,h.rlo,h.al,h.n9⟩
theorem Rq.below(h:Rq w a0 lo r n S V dn st lf A k c xs hs cb){w':World}(hb:Below w.heap.size w w'):Rq w' a0 lo r n S V dn st lf A k c xs hs cb:=h.kept (T:=[]) (Gx.of_below hb) (fun b hb=>by cases hb)
theorem Rq.lt(h:Rq w a0 lo r n S V dn st lf A k c xs hs cb):r < w.heap.size:=h.blk.lt
theorem Rq.beside(h:Rq w a0 lo r n S V dn st lf A k c xs hs cb){w':World}(hG:Gx [r] w w'):w'.ownsRow lo 22 1 S n xs∧(∀x∈xs,Sec w' lo x)∧w'.ownsRow lo 79 2 V hs.length (hcells hs)∧(∀h∈hs,h.1 < n∧Sec w' lo h.2)∧∀ {A':Option Addr} {k':Nat} {l:List Value},(∀ad,A'=some ad→0 < k'→ad.block < a0)→Sl w A' k' l→Sl w' A' k' l:=by
 have hr:Kd w r 76:=⟨_,h.blk⟩
 have hT:∀b∈[r],¬(lo≤b∧Kd w b 5):=fun b hb e=>by
  rw[List.mem_singleton.1 hb] at e
  exact(hr.unlike e.2 (by decide)) rfl
 refine⟨own_gx hG (fun b hb e=>?_) h.row,fun x hx=>(h.secs x hx).kept hG hT,own_gx hG (fun b hb e=>?_) h.wait,fun x hx=>⟨(h.hsec x hx).1,(h.hsec x hx).2.kept hG hT⟩,fun hA hs=>sl_gx0 hG (fun ad e hk hm=>?_) hs⟩
 ·rw[List.mem_singleton.1 e] at hb;exact hr.unlike (own_kd h.row hb).2 (by decide) rfl
 ·rw[List.mem_singleton.1 e] at hb;exact hr.unlike (own_kd h.wait hb).2 (by decide) rfl
 ·have:=hA ad e hk;rw[List.mem_singleton.1 hm] at this;have:=h.rlo;have:=h.al;omega
def Rd(w:World)(a0 lo r n K:Nat):Prop:=∃S V dn st lf A k c xs hs cb,Rq w a0 lo r n S V dn st lf A k c xs hs cb∧hs.length≤K∧st≤(K:Int)
theorem Rd.kept{K:Nat}(h:Rd w a0 lo r n K){T:List Nat}{w':World}(hG:Gx T w w')(hT:∀b∈T,a0≤b∧¬(lo≤b∧(Dt w b∨Kd w b 5))):Rd w' a0 lo r n K:=by
 obtain⟨S,V,dn,st,lf,A,k,c,xs,hs,cb,h,h1,h2⟩:=h
 exact⟨S,V,dn,st,lf,A,k,c,xs,hs,cb,h.kept hG hT,h1,h2⟩
theorem Rd.below{K:Nat}(h:Rd w a0 lo r n K){w':World}(hb:Below w.heap.size w w'):Rd w' a0 lo r n K:=h.kept (T:=[]) (Gx.of_below hb) (fun b hb=>by cases hb)
theorem Rd.more{K L:Nat}(h:Rd w a0 lo r n K)(hl:K≤L):Rd w a0 lo r n L:=by
 obtain⟨S,V,dn,st,lf,A,k,c,xs,hs,cb,h,h1,h2⟩:=h
 exact⟨S,V,dn,st,lf,A,k,c,xs,hs,cb,h,by omega,by omega⟩
def RopQ(w:World)(a0 lo r n K:Nat)(e:Ending)(w':World):Prop:=∃v:Int,e=.returned (.int .i64 v)∧Rd w' a0 lo r n K∧Fx [] lo w w'
theorem Fx.turn{w w':World}{lo r:Nat}{cs:Array Value}(h:Gx [r] w w')(hb:Bl w r 76 cs)(hr:lo≤r):Fx [] lo w w' :=
 .of_kind h fun k hk=>.inr ⟨by rw[List.mem_singleton.1 hk];exact hr,fun _=>by rw[List.mem_singleton.1 hk];exact .inl ⟨_,hb⟩⟩
end
end Go.Proofs.Ytbgkdbjineennaa.Dk
