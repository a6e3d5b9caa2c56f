/- Joined texts. -/
import Derived.WalkKit
import Derived.WalkSpells
import Derived.WalkLawsBesides
import Derived.Lib.Hide
import Derived.Below
import Derived.ProofKit
import Derived.OpenShut
import Derived.Deep.Draws
import Derived.Deep.Slices
import Derived.Deep.RegionLaw
import Derived.Deep.AppendLies
import Derived.RegionTactic
import Derived.Laws.AppendOwnNone
import Derived.Laws.BytesArg
import Derived.Laws.BitsAllLaws
import Derived.Deep.MidRow
import Derived.Laws.CopyOwn
import Derived.Laws.StructEq
set_option linter.unusedVariables false
namespace Go.Proofs.Yteblmphohhbgcaa.Gn
open Go.RowKit Go.ChangeShapes Go.WideShapes Go.ChangeAt Go.Deep
theorem ret_bool{a b:Bool}(h:a=b):Ending.returned (.bool a)=.returned (.bool b):=by rw[h]
theorem cell_lt{w:World}{p:Addr}{v:Value}(h:w.cell? p=some v):p.block < w.heap.size:=by
 unfold World.cell? at h
 rcases Nat.lt_or_ge p.block w.heap.size with h1|h1
 ·exact h1
 ·rw[Array.getElem?_eq_none h1] at h
  split at h <;> simp_all
theorem add_at(g k:Nat):(⟨g,0,none⟩:Addr).add k=⟨g,k,none⟩:=by unfold Addr.add;split <;> simp_all
theorem add_add(a:Addr)(j k:Nat):(a.add j).add k=a.add (j+k):=by
 unfold Addr.add
 by_cases h0:j=0
 ·subst h0;simp
 ·by_cases h1:k=0
  ·subst h1;simp
  ·simp[h0,h1,Nat.add_assoc]
theorem add_block(a:Addr)(j:Nat):(a.add j).block=a.block:=by unfold Addr.add;split <;> rfl
def Bl(w:World)(g:Nat)(t:TypeId)(cs:Array Value):Prop:=w.heap[g]?=some (.cells cs t (0,0))
section
variable {w w':World} {g:Nat} {t:TypeId} {cs:Array Value}
theorem Bl.lt(h:Bl w g t cs):g < w.heap.size:=by
 rcases Nat.lt_or_ge g w.heap.size with h1|h1
 ·exact h1
 ·unfold Bl at h;rw[Array.getElem?_eq_none h1] at h;cases h
theorem Bl.cell(h:Bl w g t cs)(i:Nat):w.cell? ⟨g,i,none⟩=cs[i]?:=cell_of_row w g i cs t (0,0) h
theorem Bl.cell_(h:Bl w g t cs){i:Nat}{v:Value}(hv:cs[i]?=some v):w.cell? ⟨g,i,none⟩=some v:=(h.cell i).trans hv
theorem Bl.frozen(h:Bl w g t cs)(i:Nat):w.frozen? ⟨g,i,none⟩=false:=by
 unfold Bl at h;simp[World.frozen?,h]
theorem Bl.new_(w:World)(t:TypeId)(cs:Array Value):Bl (w.alloc (.cells cs t)) w.heap.size t cs:=heap_alloc_new w _
theorem Bl.new'{w:World}{g:Nat}(t:TypeId)(cs:Array Value)(hg:w.heap.size=g):Bl (w.alloc (.cells cs t)) g t cs:=by subst hg;exact heap_alloc_new w _
theorem Bl.drewN(h:Bl w g t cs)(n:Nat):Bl (w.drewN n) g t cs:=h
theorem Bl.alloc(h:Bl w g t cs)(o:Obj):Bl (w.alloc o) g t cs:=(Below.heap_alloc w o g h.lt).trans h
theorem Bl.set_(h:Bl w g t cs)(i:Nat)(u:Value):Bl (w.setCell ⟨g,i,none⟩ u) g t (cs.setIfInBounds i u):=by
 unfold Bl at h ⊢
 simp[World.setCell,Array.getElem?_modify,h]
theorem Bl.other(h:Bl w g t cs){p:Addr}(hp:g≠p.block)(u:Value):Bl (w.setCell p u) g t cs:=(Below.heap_setCell w p u g hp).trans h
theorem Bl.below{B:Nat}(h:Bl w g t cs)(hb:Below B w w')(hg:g < B):Bl w' g t cs:=(hb.block g hg).trans h
theorem Bl.below'(h:Bl w g t cs)(hb:Below w.heap.size w w'):Bl w' g t cs:=h.below hb h.lt
theorem Bl.grown{row:Option Nat}(h:Bl w g t cs)(hb:w.grownBy w' row)(hg:row≠some g):Bl w' g t cs:=(hb.block g h.lt (fun e=>hg e.symm)).trans h
end
section
variable {w w':World} {o:Obj} {t:TypeId} {cs:Array Value}
end
theorem only_below{w w':World}(h:Below w.heap.size w w')(row:Option Nat):w.grownBy w' row:=⟨h.os,h.tape,h.output,h.size,fun i hi _=>h.block i hi⟩
theorem only_trans{w a b:World}{row:Option Nat}(h:w.grownBy a row)(k:a.grownBy b row):w.grownBy b row :=
 ⟨k.os.trans h.os,k.tape.trans h.tape,k.output.trans h.output,Nat.le_trans h.size k.size,fun i hi hn=>(k.block i (Nat.lt_of_lt_of_le hi h.size) hn).trans (h.block i hi hn)⟩
theorem only_then{w a b:World}{row:Option Nat}(h:w.grownBy a row)(k:Below w.heap.size a b):w.grownBy b row :=
 ⟨k.os.trans h.os,k.tape.trans h.tape,k.output.trans h.output,Nat.le_trans h.size k.size,fun i hi hn=>(k.block i hi).trans (h.block i hi hn)⟩
theorem only_drewN{w a:World}{row:Option Nat}(h:w.grownBy a row)(n:Nat):w.grownBy (a.drewN n) row:=⟨h.os,h.tape,h.output,h.size,h.block⟩
theorem only_set{w a:World}{g:Nat}(h:w.grownBy a (some g)){p:Addr}(hp:p.block=g∨w.heap.size≤p.block)(u:Value):w.grownBy (a.setCell p u) (some g) :=
 ⟨h.os,h.tape,h.output,by simpa[World.setCell] using h.size,fun i hi hn=>(Below.heap_setCell a p u i (by
  intro e
  rcases hp with hp|hp
  ·exact hn (by rw[←hp,e])
  ·omega)).trans (h.block i hi hn)⟩
theorem only_cell{w w':World}{row:Option Nat}(h:w.grownBy w' row){p:Addr}(hp:p.block < w.heap.size)(hn:row≠some p.block):w'.cell? p=w.cell? p:=World.cell?_of_block (h.block p.block hp (fun e=>hn e.symm))
def Sl(w:World)(A:Option Addr)(n:Nat)(xs:List Value):Prop :=
 xs.length=n∧∀k v,xs[k]?=some v→∃ad,A=some ad∧w.cell? (ad.add k)=some v
theorem Sl.at_{w:World}{A:Option Addr}{n:Nat}{xs:List Value}(h:Sl w A n xs){k:Nat}(hk:k < n):∃ad,A=some ad∧w.cell? (ad.add k)=xs[k]?:=by
 obtain⟨hl,hc⟩:=h
 have hk':k < xs.length:=by omega
 obtain⟨ad,rfl,hcell⟩:=hc k xs[k] (List.getElem?_eq_getElem hk')
 exact⟨ad,rfl,by rw[hcell,List.getElem?_eq_getElem hk']⟩
theorem Sl.keep{w w':World}{A:Option Addr}{n:Nat}{xs:List Value}(h:Sl w A n xs)(hk:∀p:Addr,(∃v,w.cell? p=some v)→w'.cell? p=w.cell? p):Sl w' A n xs :=
 ⟨h.1,fun k v hv=>by obtain⟨ad,e,hc⟩:=h.2 k v hv;exact⟨ad,e,by rw[hk _ ⟨v,hc⟩];exact hc⟩⟩
theorem Sl.below{w w':World}{A:Option Addr}{n:Nat}{xs:List Value}(h:Sl w A n xs)(hb:Below w.heap.size w w'):Sl w' A n xs :=
 h.keep fun p ⟨v,hv⟩=>hb.cell (cell_lt hv)
theorem Sl.new_(w:World)(T:TypeId)(xs:List Value):Sl (w.alloc (.cells xs.toArray T)) (some ⟨w.heap.size,0,none⟩) xs.length xs:=by
 refine⟨rfl,fun k v hv=>⟨_,rfl,?_⟩⟩
 rw[add_at,(Bl.new_ w T xs.toArray).cell]
 simpa using hv
theorem Sl.nil_(w:World)(A:Option Addr):Sl w A 0 []:=⟨rfl,fun k v h=>by simp at h⟩
theorem Sl.of_bl{w:World}{g:Nat}{t:TypeId}{cs:Array Value}(h:Bl w g t cs)(off n:Nat)(xs:List Value)(hl:xs.length=n)(hx:∀k v,xs[k]?=some v→cs[off+k]?=some v):Sl w (some ⟨g,off,none⟩) n xs :=
 ⟨hl,fun k v hv=>⟨_,rfl,by
  have e:(⟨g,off,none⟩:Addr).add k=⟨g,off+k,none⟩:=by unfold Addr.add;split <;> simp_all
  rw[e,h.cell];exact hx k v hv⟩⟩
theorem Sl.take_{w:World}{A:Option Addr}{n:Nat}{xs:List Value}(h:Sl w A n xs)(k:Nat)(hk:k≤n):Sl w A k (xs.take k):=by
 refine⟨by rw[List.length_take,h.1];omega,fun j v hv=>h.2 j v ?_⟩
 rw[List.getElem?_take] at hv
 split at hv
 ·exact hv
 ·cases hv
theorem Sl.drop_{w:World}{A:Option Addr}{n c:Nat}{xs:List Value}(h:Sl w A n xs)(k:Nat)(hk:k≤n)(hc:n≤c):Sl w (if c=k then A else A.map (fun x=>x.add k)) (n - k) (xs.drop k):=by
 refine⟨by rw[List.length_drop,h.1],fun j v hv=>?_⟩
 have hjl:j < n - k:=by have:=(List.getElem?_eq_some_iff.1 hv).1;rwa [List.length_drop,h.1] at this
 rw[List.getElem?_drop] at hv
 obtain⟨ad,rfl,hcell⟩:=h.2 (k+j) v hv
 rw[if_neg (by omega)]
 exact⟨ad.add k,rfl,by rw[add_add];exact hcell⟩
theorem Sl.own{w:World}{base:Nat}{e:TypeId}{v:Value}{n:Nat}{xs:List Value}(h:w.ownsRow base e 1 v n xs) :
  ∃A cap,v=.slice A n cap∧Sl w A n xs∧(A=none→cap=0)∧n≤cap∧cap≤maxLen∧(∀a,A=some a→base≤a.block∧a.block < w.heap.size):=by
 obtain⟨hl,h2⟩:=h
 rcases h2 with⟨rfl,rfl⟩|⟨g,cap,cur,rfl,hb,hh,hn,hm,hc,hx⟩
 ·have h0:xs=[]:=List.length_eq_zero_iff.1 (by simpa using hl)
  subst h0
  exact⟨none,0,rfl,Sl.nil_ _ _,fun _=>rfl,Nat.le_refl _,Nat.zero_le _,fun a h=>by cases h⟩
 ·refine⟨some ⟨g,0,none⟩,cap,rfl,⟨by omega,fun k v hv=>⟨_,rfl,?_⟩⟩,fun h=>by simp at h,by omega,by omega,?_⟩
  ·rw[add_at,cell_of_row _ _ _ _ _ _ hh]
   subst hx
   have hk:k < n:=by have:=(List.getElem?_eq_some_iff.1 hv).1;omega
   rw[List.getElem?_take_of_lt (by omega)] at hv
   rw[←hv];simp
  ·rintro a h
   injection h with h
   subst h
   exact⟨hb,Bl.lt (t:=e) (cs:=cur) hh⟩
theorem own_new(w:World)(e:TypeId)(xs:List Value)(hm:xs.length≤maxLen):(w.alloc (.cells xs.toArray e)).ownsRow w.heap.size e 1 (.slice (some ⟨w.heap.size,0,none⟩) xs.length xs.length) xs.length xs:=by
 refine⟨by omega,.inr ⟨w.heap.size,xs.length,xs.toArray,rfl,Nat.le_refl _,heap_alloc_new w _,Nat.le_refl _,hm,by simp,?_⟩⟩
 simp
theorem own_base{w:World}{base base':Nat}{e:TypeId}{v:Value}{n:Nat}{xs:List Value}(h:w.ownsRow base e 1 v n xs)(hb:base'≤base):w.ownsRow base' e 1 v n xs:=by
 obtain⟨hl,h2⟩:=h
 refine⟨hl,?_⟩
 rcases h2 with h2|⟨g,cap,cur,hv,hg,r⟩
 ·exact .inl h2
 ·exact .inr ⟨g,cap,cur,hv,by omega,r⟩
theorem own_below{w w':World}{base:Nat}{e:TypeId}{v:Value}{n:Nat}{xs:List Value}(h:w.ownsRow base e 1 v n xs)(hb:Below w.heap.size w w'):w'.ownsRow base e 1 v n xs:=by
 obtain⟨hl,h2⟩:=h
 refine⟨hl,?_⟩
 rcases h2 with h2|⟨g,cap,cur,hv,hg,hh,r⟩
 ·exact .inl h2
 ·exact .inr ⟨g,cap,cur,hv,hg,(Bl.below' (t:=e) hh hb),r⟩
section
variable {P:Program} {w:World}
theorem wp_append_sl{o:Oper}{a:Act}{K:Act→World→Prop}{Q:Exit→Act→World→Prop}(s x:Operand)(t:TypeId)
  (ho:o.op=.call { callee:=.builtin .append,args:=#[s,x],argTypes:=#[t,t] })
  (base:Nat) (e:TypeId) (i:TypeInfo) (z:Value) (bytes:Nat) (ht:P.underlying t=some (.slice e)) (hi:P.info? e=some i) (hz:i.zero=some z)
  (hsize:i.size=1) (hby:i.bytes=bytes) (hzs:z.cells.size=1)
  (v:Value) (n:Nat) (xs:List Value) (hs:a.eval s=v) (hown:w.ownsRow base e 1 v n xs)
  (A:Option Addr) (m c:Nat) (news:List Value) (hx:a.eval x=.slice A m c) (hnil:A=none→c=0) (hsl:Sl w A m news) (h1:∀u∈news,u.oneCell'=true)
  (h63:n+m≤maxLen) (hbytes:(n+m)*bytes≤140737488355328) (hbase:base≤w.heap.size)
  (h:∀v' w',w'.ownsRow base e 1 v' (n+m) (xs ++ news)→w.grownBy w' v.ownBlock→K (a.put o.dst v') w'):Oper.wp P o a w K Q:=by
 cases A with
 |none =>
  obtain rfl:=hnil rfl
  have hm:m=0:=by
   rcases Nat.eq_zero_or_pos m with h0|h0
   ·exact h0
   ·obtain⟨ad,he,_⟩:=hsl.at_ h0
    cases he
  subst hm
  have hn:news=[]:=List.length_eq_zero_iff.1 hsl.1
  subst hn
  have hrun:=run_append_owned_none (P:=P) (w:=w) base t o.type e i 1 ht hi v n xs hown
  unfold Oper.wp
  simp only[execOp,ho]
  simp[resolve,invoke,builtin,hs,hx,hrun,Result.andThen]
  exact h v w (by simpa using hown) (World.grownBy.refl w _)
 |some ad =>
  refine wp_append_own w s x t ho base e i z 1 bytes ht hi hz hsize hby hzs (by decide) v n xs hs hown ad m c news hx (by rw[hsl.1];omega) (fun j u hu=>?_) h1 h63 hbytes hbase (fun v' w' h2 h3 _=>h v' w' h2 h3)
  obtain⟨ad',he,hc⟩:=hsl.2 j u hu
  cases he
  exact hc
theorem wpList_append_sl{ops:Array Oper}{rest:List Oper}{o:Oper}{a:Act}{Q:Exit→Act→World→Prop}(hgd:o.guard=none)(s x:Operand)(t:TypeId)
  (ho:o.op=.call { callee:=.builtin .append,args:=#[s,x],argTypes:=#[t,t] })
  (base:Nat) (e:TypeId) (i:TypeInfo) (z:Value) (bytes:Nat) (ht:P.underlying t=some (.slice e)) (hi:P.info? e=some i) (hz:i.zero=some z)
  (hsize:i.size=1) (hby:i.bytes=bytes) (hzs:z.cells.size=1)
  (v:Value) (n:Nat) (xs:List Value) (hs:a.eval s=v) (hown:w.ownsRow base e 1 v n xs)
  (A:Option Addr) (m c:Nat) (news:List Value) (hx:a.eval x=.slice A m c) (hnil:A=none→c=0) (hsl:Sl w A m news) (h1:∀u∈news,u.oneCell'=true)
  (h63:n+m≤maxLen) (hbytes:(n+m)*bytes≤140737488355328) (hbase:base≤w.heap.size)
  (h:∀v' w',w'.ownsRow base e 1 v' (n+m) (xs ++ news)→w.grownBy w' v.ownBlock→wpList P ops Q rest (a.put o.dst v') w'):wpList P ops Q (o :: rest) a w :=
 wpList_plain hgd fun _ hK=>wp_append_sl s x t ho base e i z bytes ht hi hz hsize hby hzs v n xs hs hown A m c news hx hnil hsl h1 h63 hbytes hbase fun v' w' h2 h3=>hK _ _ (h v' w' h2 h3)
end
section
variable {H:Type} {enc:TypeId × Value→H} {P:Program} {w:World} {base:Nat} {spare:Nat→Bool} {held:Bool}
theorem open_row {t e : TypeId} {a : Option Addr} {len cap : Nat} {d : DataW H} {ps : List MemPlace} (ht : P.underlying t = some (.slice e)) (hc : P.cellsOf e = 1) (h : DataW.Trod enc P w base spare held t (.slice a len cap) d ps) :
    ∃ vs : List Value, Sl w a len vs ∧ len ≤ maxLen ∧ len ≤ cap ∧ ∀ v ∈ vs, ∃ n y, DataW.trod enc P w base spare held n e [v] = some y := by
  obtain ⟨fuel, hf⟩ := h
  rcases open_slice1 ht hc hf with ⟨hcs, -⟩ | ⟨x, l, c, m, n, V, D, Pl, hcs, hb, hl, hm, hmm, -, hx⟩
  · simp [Value.cells] at hcs
    obtain ⟨rfl, rfl, rfl⟩ := hcs
    exact ⟨[], ⟨rfl, fun k v h => by simp at h⟩, Nat.zero_le _, Nat.le_refl _, fun v hv => by simp at hv⟩
  · simp [Value.cells] at hcs
    obtain ⟨rfl, rfl, rfl⟩ := hcs
    have hle : len ≤ m := by rw [hmm]; split <;> omega
    refine ⟨(List.range len).map V, ⟨by simp, fun k v h => ?_⟩, by omega, by omega, fun v hv => ?_⟩
    · have hk : k < len := by
        rcases Nat.lt_or_ge k len with h1 | h1
        · exact h1
        · rw [List.getElem?_eq_none (by simpa using h1)] at h; simp at h
      rw [List.getElem?_map, List.getElem?_range hk] at h
      simp at h; subst h
      exact ⟨x, rfl, (hx k (by omega)).1⟩
    · simp at hv
      obtain ⟨i, hi, rfl⟩ := hv
      exact ⟨n, _, (hx i (by omega)).2⟩
def bl(l:List Nat):List Value:=l.map fun(x:Nat)=>Value.int .u8 (x:Int)
def BL(w:World)(a:Option Addr)(len cap:Nat)(l:List Nat):Prop:=Sl w a len (bl l)∧len≤9223372036854775807∧(∀x∈l,x < 256)∧(a=none→cap=0)∧len≤cap
theorem bl_length(l:List Nat):(bl l).length=l.length:=by simp[bl]
theorem bl_get(l:List Nat)(k:Nat):(bl l)[k]?=l[k]?.map fun(x:Nat)=>Value.int .u8 (x:Int):=by simp[bl]
theorem bl_one(l:List Nat):∀u∈bl l,u.oneCell'=true:=by
 intro u hu;simp[bl] at hu;obtain⟨y,-, rfl⟩:=hu;rfl
theorem bl_take(l:List Nat)(k:Nat):(bl l).take k=bl (l.take k):=by simp[bl,List.map_take]
theorem bl_drop(l:List Nat)(k:Nat):(bl l).drop k=bl (l.drop k):=by simp[bl,List.map_drop]
theorem open_bl{t e:TypeId}{a:Option Addr}{len cap:Nat}{d:DataW H}{ps:List MemPlace}(ht:P.underlying t=some (.slice e))(he:P.underlying e=some (.int .u8))(hc:P.cellsOf e=1)
  (_:∀x∈ps,x.block < w.heap.size) (h:DataW.Trod enc P w base spare held t (.slice a len cap) d ps):∃l:List Nat,BL w a len cap l:=by
 obtain⟨vs,hs,hm,hlc,hv⟩:=open_row ht hc h
 have hnil:a=none→cap=0:=by
  rintro rfl
  obtain⟨fuel,hf⟩:=h
  rcases open_slice1 ht hc hf with⟨hcs,-⟩|⟨x,l,c,m,n,V,D,Pl,hcs,-⟩
  ·simp[Value.cells] at hcs;exact hcs.2
  ·simp[Value.cells] at hcs
 have:∀us:List Value,(∀v∈us,v∈vs)→∃l:List Nat,us=bl l∧∀x∈l,x < 256:=by
  intro us
  induction us with
  |nil=>intro _;exact⟨[],rfl,by simp⟩
  |cons u us ih =>
   intro hu
   obtain⟨l,rfl,hl⟩:=ih fun v hv=>hu v (List.mem_cons_of_mem _ hv)
   obtain⟨n,y,hy⟩:=hv u (hu u List.mem_cons_self)
   obtain⟨b,hb,-, hw⟩:=DataW.trod_int he hy
   have hw':0≤b∧b≤255:=by simpa[Lit.wf,IntKind.min,IntKind.max,IntKind.signed,IntKind.bits] using hw
   refine⟨b.toNat :: l,?_,fun x hx=>?_⟩
   ·have:u=.int .u8 b:=by simpa using hb
    rw[this];simp[bl];omega
   ·rcases List.mem_cons.1 hx with rfl|hx
    ·omega
    ·exact hl x hx
 obtain⟨l,rfl,hl⟩:=this vs fun _ h=>h
 exact⟨l,hs,by unfold maxLen at hm;omega,hl,hnil,hlc⟩
end
def txt(l:List Nat):ByteArray:=⟨(l.map fun x=>UInt8.ofNat x).toArray⟩
theorem txt_inj{l k:List Nat}(hl:∀x∈l,x < 256)(hk:∀x∈k,x < 256)(h:txt l=txt k):l=k:=by
 have h1:(l.map fun x=>UInt8.ofNat x)=(k.map fun x=>UInt8.ofNat x):=by
  have:=congrArg (fun b=>b.data.toList) h
  simpa[txt] using this
 have h2:=congrArg (List.map UInt8.toNat) h1
 rw[List.map_map,List.map_map] at h2
 have e:∀m:List Nat,(∀x∈m,x < 256)→m.map (UInt8.toNat ∘ fun x=>UInt8.ofNat x)=m:=by
  intro m hm
  induction m with
  |nil=>rfl
  |cons a m ih =>
   rw[List.map_cons,ih fun x hx=>hm x (List.mem_cons_of_mem _ hx)]
   have:=hm a List.mem_cons_self
   simp[Nat.mod_eq_of_lt this]
 rw[e l hl,e k hk] at h2
 exact h2
theorem run_txt{P:Program}(w:World)(src dst e:TypeId)(hs:P.underlying src=some (.slice e))(he:P.underlying e=some (.int .u8))(hd:P.underlying dst=some .string)
  (A:Option Addr) (n c:Nat) (l:List Nat) (h:Sl w A n (bl l)):(convert src dst (.slice A n c)).run P w=.ok (.string (txt l)) w:=by
 have hl:l.length=n:=by simpa[bl] using h.1
 cases A with
 |none =>
  have:l=[]:=by
   cases l with
   |nil=>rfl
   |cons x l =>
    obtain⟨ad,hh,_⟩:=h.2 0 (.int .u8 (x:Int)) (by simp[bl])
    cases hh
  subst this
  rw[run_convert_bytes_string w src dst e _ n c hs he hd]
  simp[Conv.bytesToString,txt]
  rfl
 |some ad =>
  have hld:(loadCells ad n).run P w=.ok ((l.map fun(x:Nat)=>(x:Int)).map (Value.int .u8)).toArray w:=by
   have:=run_loadCells_list (P:=P) w ad (bl l) (fun j v hj=>by
    obtain⟨ad',hh,hc⟩:=h.2 j v hj
    cases hh
    exact hc)
   simpa[bl,hl,Function.comp_def] using this
  rw[run_convert_bytes_string w src dst e _ n c hs he hd,run_bytesToString w ad n c _ hld,foldl_push_bytes]
  simp[txt,ByteArray.empty,ByteArray.emptyWithCapacity,Function.comp_def]
  rfl
end Go.Proofs.Yteblmphohhbgcaa.Gn
namespace Go.Proofs.Yteblmphohhbgcaa.Gn
open Go.RowKit Go.Deep
def spl(cs:Array Value)(o:Nat):List Value→Array Value
 | []=>cs
 |v :: r=>spl (cs.setIfInBounds o v) (o+1) r
theorem spl_size(vs:List Value):∀(cs:Array Value) (o:Nat),(spl cs o vs).size=cs.size:=by
 induction vs with
 |nil=>intro cs o;rfl
 |cons v r ih=>intro cs o;rw[spl,ih];simp
theorem spl_get(vs:List Value):∀(cs:Array Value) (o j:Nat),o+vs.length≤cs.size→(spl cs o vs)[j]?=if o≤j∧j < o+vs.length then vs[j - o]? else cs[j]?:=by
 induction vs with
 |nil =>
  intro cs o j _
  rw[spl,if_neg]
  simp only[List.length_nil]
  omega
 |cons v r ih =>
  intro cs o j h
  simp only[List.length_cons] at h ⊢
  rw[spl,ih _ _ _ (by simp;omega)]
  by_cases hj:j=o
  ·subst hj
   rw[if_neg (by omega),if_pos (by omega),Array.getElem?_setIfInBounds,if_pos rfl,if_pos (by omega)];simp
  ·by_cases h2:o+1≤j∧j < o+1+r.length
   ·rw[if_pos h2,if_pos (by omega),show j - o=(j - (o+1))+1 by omega,List.getElem?_cons_succ]
   ·rw[if_neg h2,if_neg (by omega),Array.getElem?_setIfInBounds,if_neg (by omega)]
theorem bl_setCells{g:Nat}{t:TypeId}(vs:List Value):∀(w:World) (cs:Array Value) (o:Nat),Bl w g t cs→Bl (w.setCells g o vs) g t (spl cs o vs):=by
 induction vs with
 |nil=>intro w cs o h;exact h
 |cons v r ih=>intro w cs o h;exact ih _ _ _ (h.set_ o v)
theorem only_setCells{g:Nat}(vs:List Value):∀(w a:World) (o:Nat),w.grownBy a (some g)→w.grownBy (a.setCells g o vs) (some g):=by
 induction vs with
 |nil=>intro w a o h;exact h
 |cons v r ih=>intro w a o h;exact ih _ _ _ (only_set h (.inl rfl) v)
theorem spl_eq(cs:Array Value)(o:Nat)(l:List Value)(h:o+l.length≤cs.size):spl cs o l=(cs.toList.take o ++ (l ++ cs.toList.drop (o+l.length))).toArray:=by
 apply Array.ext_getElem?
 intro j
 rw[spl_get _ _ _ _ h]
 have hs:cs.toList.length=cs.size:=Array.length_toList
 have e:cs[j]?=cs.toList[j]?:=by simp
 have e2:∀L:List Value,L.toArray[j]?=L[j]?:=fun L=>by simp
 rw[e,e2,List.getElem?_append,List.getElem?_append,List.length_take,hs,List.getElem?_take,List.getElem?_drop]
 by_cases h1:j < o
 ·rw[if_neg (by omega),if_pos (by omega),if_pos h1]
 ·rw[if_neg (show ¬j < min o cs.size by omega),show j - min o cs.size=j - o by omega]
  by_cases h2:j < o+l.length
  ·rw[if_pos (by omega),if_pos (by omega)]
  ·rw[if_neg (by omega),if_neg (by omega)]
   congr 1
   omega
section
variable {P:Program} {w:World}
theorem run_store_bl(P:Program){w:World}{g:Nat}{t:TypeId}{cs:Array Value}(hb:Bl w g t cs)(o:Nat)(vs:List Value)(hle:o+vs.length≤cs.size)(h1:∀v∈vs,v.oneCell'=true) :
  ∃w',(storeCells ⟨g,o,none⟩ vs).run P w=.ok () w'∧Bl w' g t (spl cs o vs)∧w.grownBy w' (some g):=by
 refine⟨w.setCells g o vs,?_,bl_setCells _ _ _ _ hb,only_setCells _ _ _ _ (World.grownBy.refl w _)⟩
 have:=run_storeCells_cells (P:=P) g o vs 0 w (fun j hj=>by
  have hlt:o+j < cs.size:=by omega
  rw[Nat.add_zero,hb.cell,Array.getElem?_eq_getElem hlt];rfl) (fun j hj=>hb.frozen _) h1
 simpa using this
end
end Go.Proofs.Yteblmphohhbgcaa.Gn
namespace Go.Proofs.Yteblmphohhbgcaa.Gn
open Go.RowKit Go.Deep
theorem Sl.only{w w':World}{A:Option Addr}{n:Nat}{xs:List Value}(h:Sl w A n xs){row:Option Nat}(hg:w.grownBy w' row)(hA:∀ad,A=some ad→row≠some ad.block):Sl w' A n xs :=
 ⟨h.1,fun k v hv=>by
  obtain⟨ad,e,hc⟩:=h.2 k v hv
  refine⟨ad,e,?_⟩
  rw[only_cell hg (cell_lt hc) (by rw[add_block];exact hA ad e)]
  exact hc⟩
end Go.Proofs.Yteblmphohhbgcaa.Gn
namespace Go.Proofs.Yteblmphohhbgcaa.Gn
open Go.RowKit Go.Deep
section
variable {P:Program}
end
end Go.Proofs.Yteblmphohhbgcaa.Gn
