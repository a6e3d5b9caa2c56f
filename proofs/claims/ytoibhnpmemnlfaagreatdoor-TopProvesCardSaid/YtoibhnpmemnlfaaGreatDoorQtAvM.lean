/- Joined texts. -/
import Derived.Test.YtoibhnpmemnlfaaGreatDoorQtGnB
set_option linter.unusedVariables false
namespace Go.Proofs.YtoibhnpmemnlfaaGreatDoor.Av
open Go.RowKit Go.Proofs.YtoibhnpmemnlfaaGreatDoor.Gn Go.Deep
inductive DV where
 |lit (v:Value)
 |sat (φ:Value→Prop)
 |sq (r:Bool) (k:Nat) (xs:List DV)
 |agg (xs:List DV)
 |tup (xs:List DV)
inductive Cl where
 |any
 |dv (x:DV)
 |ptr (j off:Nat)
 |own (j:Nat)
 |at_ (x:DV) (xs:List DV)
inductive Sv where
 |c (x:Cl)
 |tp (xs:List Cl)
inductive Ob where
 |dead
 |frz (x:DV)
 |var (t:TypeId) (cs:List Cl)
 |buf (t:TypeId) (k:Nat) (ni:Bool) (cs:List DV)
 |whole (m:Bool) (t:TypeId) (x:DV)
structure St where
 t:List (Nat × Sv)
 o:List (Nat × Ob)
def look{α:Type}:List (Nat × α)→Nat→Option α
 | [],_=>none
 |(k,x) :: l,d=>match Nat.beq d k with
  |true=>some x
  |false=>look l d
theorem look_cons {α : Type} (k : Nat) (x : α) (l : List (Nat × α)) (d : Nat) : look ((k, x) :: l) d = if d = k then some x else look l d := by
  show (match Nat.beq d k with | true => some x | false => look l d) = _
  by_cases h : d = k
  · subst h; simp
  · have : Nat.beq d k = false := by
      cases hb : Nat.beq d k with
      | false => rfl
      | true => exact absurd (Nat.eq_of_beq_eq_true hb) h
    rw [this, if_neg h]
mutual
def DV.rep(O:Nat→Prop)(w:World):DV→Value→Prop
 |.lit v,u=>u=v
 |.sat φ,u=>φ u
 |.sq r k xs,u=>∃A n c,u=.slice A n c∧n*k=xs.length∧(r=true→n≤c∧n≤maxLen∧(A=none→c=0))∧DV.reps O w xs 0 (fun i v=>∃ad,A=some ad∧¬O ad.block∧w.cell? (ad.add i)=some v)
 |.agg xs,u=>∃vs:Array Value,u=.agg vs∧vs.size=xs.length∧DV.reps O w xs 0 (fun i v=>vs[i]?=some v)
 |.tup xs,u=>∃vs:Array Value,u=.tuple vs∧vs.size=xs.length∧DV.reps O w xs 0 (fun i v=>vs[i]?=some v)
def DV.reps(O:Nat→Prop)(w:World):List DV→Nat→(Nat→Value→Prop)→Prop
 | [],_,_=>True
 |x :: l,i,f=>(∃v,f i v∧DV.rep O w x v)∧DV.reps O w l (i+1) f
end
theorem reps_iff{O:Nat→Prop}{w:World}{f:Nat→Value→Prop}:∀ {l:List DV} {i:Nat},DV.reps O w l i f↔∀j x,l[j]?=some x→∃v,f (i+j) v∧x.rep O w v:=by
 intro l
 induction l with
 |nil=>intro i;simp[DV.reps]
 |cons y l ih =>
  intro i
  simp only[DV.reps,ih]
  constructor
  ·rintro⟨h0,h1⟩ j x hj
   cases j with
   |zero=>simp at hj;subst hj;exact h0
   |succ j=>rw[show i+(j+1)=i+1+j by omega];exact h1 j x (by simpa using hj)
  ·intro h
   exact⟨h 0 y rfl,fun j x hj=>by rw[show i+1+j=i+(j+1) by omega];exact h (j+1) x (by simpa using hj)⟩
def Off(O:Nat→Prop)(w w':World):Prop:=∀b,¬O b→b < w.heap.size→w'.heap[b]?=w.heap[b]?
theorem Off.cell{O:Nat→Prop}{w w':World}(h:Off O w w'){ad:Addr}(hO:¬O ad.block){v:Value}(hc:w.cell? ad=some v):w'.cell? ad=some v:=by
 rw[←hc]
 exact World.cell?_of_block (h _ hO (cell_lt hc))
theorem add_block(ad:Addr)(i:Nat):(ad.add i).block=ad.block:=by
 unfold Addr.add;split <;> rfl
mutual
theorem DV.rep_keep{O O':Nat→Prop}{w w':World}(h:Off O w w')(hO:∀b,¬O b→b < w.heap.size→¬O' b):∀(x:DV) (u:Value),x.rep O w u→x.rep O' w' u
 |.lit v,u=>fun e=>e
 |.sat φ,u=>fun e=>e
 |.sq r k xs,u=>by
  rintro⟨A,n,c,e,h1,h2,h3⟩
  refine⟨A,n,c,e,h1,h2,DV.reps_keep h hO xs 0 _ _ h3 ?_⟩
  rintro i v ⟨ad,e1,e2,e3⟩
  have hb:¬O (ad.add i).block:=by rwa [add_block]
  have hl:=cell_lt e3
  rw[add_block] at hl
  exact⟨ad,e1,hO _ e2 hl,h.cell hb e3⟩
 |.agg xs,u=>by
  rintro⟨vs,e,h1,h2⟩
  exact⟨vs,e,h1,DV.reps_keep h hO xs 0 _ _ h2 fun _ _ h=>h⟩
 |.tup xs,u=>by
  rintro⟨vs,e,h1,h2⟩
  exact⟨vs,e,h1,DV.reps_keep h hO xs 0 _ _ h2 fun _ _ h=>h⟩
theorem DV.reps_keep{O O':Nat→Prop}{w w':World}(h:Off O w w')(hO:∀b,¬O b→b < w.heap.size→¬O' b):∀(l:List DV) (i:Nat) (f g:Nat→Value→Prop),DV.reps O w l i f→(∀i v,f i v→g i v)→DV.reps O' w' l i g
 | [],_,_,_=>fun _ _=>trivial
 |x :: l,i,f,g=>by
  rintro⟨⟨v,h1,h2⟩,h3⟩ hf
  exact⟨⟨v,hf _ _ h1,DV.rep_keep h hO x v h2⟩,DV.reps_keep h hO l (i+1) f g h3 hf⟩
end
theorem Off.refl(O:Nat→Prop)(w:World):Off O w w:=fun _ _ _=>rfl
theorem Off.below{O:Nat→Prop}{w w':World}(h:Below w.heap.size w w'):Off O w w':=fun b _ hb=>h.block b hb
def blk:Value→Option Nat
 |.pointer (some ad)=>some ad.block
 |.slice (some ad) _ _=>some ad.block
 |_=>none
def Cl.rep(ρ:Nat→Value)(O:Nat→Prop)(w:World):Cl→Value→Prop
 |.any,_=>True
 |.dv x,u=>x.rep O w u
 |.ptr j off,u=>∃g,blk (ρ j)=some g∧u=.pointer (some ⟨g,off,none⟩)
 |.own j,u=>u=ρ j∧∃A n c,u=.slice A n c
 |.at_ x xs,u=>∃ad,u=.pointer (some ad)∧¬O ad.block∧DV.reps O w (x :: xs) 0 (fun i v=>w.cell? (ad.add i)=some v)
theorem Cl.rep_keep{ρ:Nat→Value}{O O':Nat→Prop}{w w':World}(h:Off O w w')(hO:∀b,¬O b→b < w.heap.size→¬O' b){x:Cl}{u:Value}(hx:x.rep ρ O w u):x.rep ρ O' w' u:=by
 cases x with
 |any=>trivial
 |dv x=>exact DV.rep_keep h hO x u hx
 |ptr j off=>exact hx
 |own j=>exact hx
 |at_ x xs =>
  obtain⟨ad,e1,e2,e3⟩:=hx
  have hl:ad.block < w.heap.size:=by
   obtain⟨⟨v,hv,-⟩,-⟩:=e3
   have:=cell_lt hv
   rwa [add_block] at this
  exact⟨ad,e1,hO _ e2 hl,DV.reps_keep h hO _ 0 _ _ e3 fun i v hv=>h.cell (by rwa [add_block]) hv⟩
def clr(ρ:Nat→Value)(O:Nat→Prop)(w:World)(cs:List Cl)(f:Nat→Value→Prop):Prop:=∀i x,cs[i]?=some x→∃v,f i v∧x.rep ρ O w v
theorem clr_keep{ρ:Nat→Value}{O O':Nat→Prop}{w w':World}(h:Off O w w')(hO:∀b,¬O b→b < w.heap.size→¬O' b){cs:List Cl}{f:Nat→Value→Prop}(hx:clr ρ O w cs f):clr ρ O' w' cs f :=
 fun i x hi=>by obtain⟨v,h1,h2⟩:=hx i x hi;exact⟨v,h1,Cl.rep_keep h hO h2⟩
def Sv.rep(ρ:Nat→Value)(O:Nat→Prop)(w:World):Sv→Value→Prop
 |.c x,u=>x.rep ρ O w u
 |.tp xs,u=>∃vs:Array Value,u=.tuple vs∧vs.size=xs.length∧clr ρ O w xs (fun i v=>vs[i]?=some v)
theorem Sv.rep_keep{ρ:Nat→Value}{O O':Nat→Prop}{w w':World}(h:Off O w w')(hO:∀b,¬O b→b < w.heap.size→¬O' b){x:Sv}{u:Value}(hx:x.rep ρ O w u):x.rep ρ O' w' u:=by
 cases x with
 |c x=>exact Cl.rep_keep h hO hx
 |tp xs=>obtain⟨vs,e1,e2,e3⟩:=hx;exact⟨vs,e1,e2,clr_keep h hO e3⟩
def Ob.live:Ob→Bool
 |.dead=>false
 |.frz _=>false
 |.whole m _ _=>m
 |_=>true
def noInt:Value→Bool
 |.int _ _=>false
 |_=>true
def Row(w:World)(t:TypeId)(k:Nat)(v:Value)(n:Nat)(vs:List Value)(ni:Bool):Prop:=vs.length=n*k∧((v=.slice none 0 0∧n=0) ∨
 ∃g cap cur,v=.slice (some ⟨g,0,none⟩) n cap∧Bl w g t cur∧n≤cap∧cap≤maxLen∧cur.size=cap*k∧cur.toList.take (n*k)=vs∧(ni=true→∀u∈cur.toList,noInt u=true))
def Ob.ok(ρ:Nat→Value)(O:Nat→Prop)(w:World)(j:Nat):Ob→Prop
 |.dead=>True
 |.frz x=>x.rep O w (ρ j)
 |.whole m t x=>∃g vs,ρ j=.pointer (some ⟨g,0,none⟩)∧(m=false→¬O g)∧Bl w g t vs∧x.rep O w (.agg vs)
 |.var t cs=>∃g vs,ρ j=.pointer (some ⟨g,0,none⟩)∧Bl w g t vs∧vs.size=cs.length∧clr ρ O w cs (fun i v=>vs[i]?=some v)
 |.buf t k ni cs=>∃n vs,Row w t k (ρ j) n vs ni∧vs.length=cs.length∧DV.reps O w cs 0 (fun i v=>vs[i]?=some v)
theorem row_blk{w:World}{t k n:Nat}{v:Value}{xs:List Value}{ni:Bool}(h:Row w t k v n xs ni){b:Nat}(hb:blk v=some b):∃cur,Bl w b t cur:=by
 obtain⟨-, h2⟩:=h
 rcases h2 with⟨e,-⟩|⟨g,cap,cur,hv,hh,-⟩
 ·rw[e] at hb;cases hb
 ·rw[hv] at hb;cases hb;exact⟨cur,hh⟩
theorem row_at{w w':World}{t k n:Nat}{v:Value}{xs:List Value}{ni:Bool}(h:Row w t k v n xs ni)(hk:∀b,blk v=some b→w'.heap[b]?=w.heap[b]?):Row w' t k v n xs ni:=by
 obtain⟨h1,h2⟩:=h
 refine⟨h1,?_⟩
 rcases h2 with h2|⟨g,cap,cur,hv,hh,r⟩
 ·exact .inl h2
 ·exact .inr ⟨g,cap,cur,hv,(hk g (by rw[hv];rfl)).trans hh,r⟩
theorem Ob.ok_lt{ρ:Nat→Value}{O:Nat→Prop}{w:World}{j:Nat}{ob:Ob}(h:ob.ok ρ O w j)(hl:ob.live=true){b:Nat}(hb:blk (ρ j)=some b):b < w.heap.size:=by
 cases ob with
 |dead=>cases hl
 |frz x=>cases hl
 |whole m t x =>
  obtain⟨g,vs,e,-, h1,-⟩:=h
  rw[e] at hb;cases hb
  exact h1.lt
 |var t cs =>
  obtain⟨g,vs,e,h1,-⟩:=h
  rw[e] at hb;cases hb
  exact h1.lt
 |buf t k ni cs =>
  obtain⟨n,vs,e,-⟩:=h
  obtain⟨cur,hc⟩:=row_blk e hb
  exact hc.lt
theorem Ob.ok_keep{ρ:Nat→Value}{O O':Nat→Prop}{w w':World}(h:Off O w w')(hO:∀b,¬O b→b < w.heap.size→¬O' b){j:Nat}{ob:Ob}(hx:ob.ok ρ O w j)(hj:∀b,ob.live=true→blk (ρ j)=some b→w'.heap[b]?=w.heap[b]?):ob.ok ρ O' w' j:=by
 cases ob with
 |dead=>trivial
 |frz x=>exact DV.rep_keep h hO x _ hx
 |whole m t x =>
  obtain⟨g,vs,e,h0,h1,h2⟩:=hx
  refine⟨g,vs,e,fun hm=>hO g (h0 hm) h1.lt,?_,DV.rep_keep h hO x _ h2⟩
  cases m with
  |true=>exact(hj g rfl (by rw[e];rfl)).trans h1
  |false=>exact(h g (h0 rfl) h1.lt).trans h1
 |var t cs =>
  obtain⟨g,vs,e,h1,h2,h3⟩:=hx
  exact⟨g,vs,e,(hj g rfl (by rw[e];rfl)).trans h1,h2,clr_keep h hO h3⟩
 |buf t k ni cs =>
  obtain⟨n,vs,e,h1,h2⟩:=hx
  exact⟨n,vs,row_at e (fun b hb=>hj b rfl hb),h1,DV.reps_keep h hO _ 0 _ _ h2 fun _ _ h=>h⟩
structure Ctx where
 P:Program
 n:Nat
 w0:World
 O0:Nat→Prop
 X:Nat→Prop
 ks:List IntKind
def noK(ks:List IntKind):Value→Bool
 |.int k n=>!ks.contains k || n == 0
 |_=>true
structure Kp (X:Nat→Prop) (w0 w:World):Prop where
 os:w.os=w0.os
 tape:w.tape=w0.tape
 output:w.output=w0.output
 size:w0.heap.size≤w.heap.size
 block:∀b,b < w0.heap.size→¬X b→w.heap[b]?=w0.heap[b]?
theorem Kp.refl(X:Nat→Prop)(w:World):Kp X w w:=⟨rfl,rfl,rfl,Nat.le_refl _,fun _ _ _=>rfl⟩
theorem Kp.below{X:Nat→Prop}{w0 w w':World}(h:Kp X w0 w)(hb:Below w.heap.size w w'):Kp X w0 w' :=
 ⟨hb.os.trans h.os,hb.tape.trans h.tape,hb.output.trans h.output,Nat.le_trans h.size hb.size,fun b h1 h2=>(hb.block b (Nat.lt_of_lt_of_le h1 h.size)).trans (h.block b h1 h2)⟩
theorem Kp.to_below{w0 w:World}(h:Kp (fun _=>False) w0 w):Below w0.heap.size w0 w:=⟨h.os,h.tape,h.output,h.size,fun b hb=>h.block b hb (fun h=>h)⟩
theorem Kp.grown{X:Nat→Prop}{w0 w w':World}(h:Kp X w0 w){row:Option Nat}(hg:w.grownBy w' row)(hr:∀b,row=some b→w0.heap.size≤b∨X b):Kp X w0 w' :=
 ⟨hg.os.trans h.os,hg.tape.trans h.tape,hg.output.trans h.output,Nat.le_trans h.size hg.size,fun b h1 h2=>(hg.block b (Nat.lt_of_lt_of_le h1 h.size) (fun e=>by rcases hr b e.symm with h3|h3;omega;exact h2 h3)).trans (h.block b h1 h2)⟩
def liveAt(o:List (Nat × Ob))(j:Nat):Prop:=∃ob,look o j=some ob∧ob.live=true
def OO(O0:Nat→Prop)(o:List (Nat × Ob))(ρ:Nat→Value)(b:Nat):Prop:=O0 b∨∃j,liveAt o j∧blk (ρ j)=some b
structure Wt (Γ:Ctx) (o:List (Nat × Ob)) (ρ:Nat→Value) (w:World):Prop where
 os:∀(j:Nat) (ob:Ob),look o j=some ob→ob.ok ρ (OO Γ.O0 o ρ) w j
 ap:∀i j b,i≠j→liveAt o i→liveAt o j→blk (ρ i)=some b→blk (ρ j)≠some b
 ge:∀j b,liveAt o j→blk (ρ j)=some b→Γ.w0.heap.size≤b∨Γ.X b
 kp:Kp Γ.X Γ.w0 w
 o0:∀b,Γ.O0 b→b < Γ.w0.heap.size∧¬Γ.X b
 k0:∀b cs t fz,Γ.O0 b→Γ.w0.heap[b]?=some (.cells cs t fz)→∀v∈cs.toList,noK Γ.ks v=true
structure Ft (Γ:Ctx) (σ:St) (ρ:Nat→Value) (a:Act) (w:World):Prop where
 df:a.defers=[]
 ts:∀(i:Nat) (x:Sv),look σ.t i=some x→x.rep ρ (OO Γ.O0 σ.o ρ) w (a.tmps.getD i undef)
 sz:a.tmps.size=Γ.n
def Mt(Γ:Ctx)(σ:St)(a:Act)(w:World):Prop:=∃ρ,Wt Γ σ.o ρ w∧Ft Γ σ ρ a w
theorem OO_lt{Γ:Ctx}{o:List (Nat × Ob)}{ρ:Nat→Value}{w:World}(h:Wt Γ o ρ w){b:Nat}(hb:OO Γ.O0 o ρ b):b < w.heap.size:=by
 rcases hb with hb|⟨j,⟨ob,h1,h2⟩,h3⟩
 ·exact Nat.lt_of_lt_of_le (h.o0 b hb).1 h.kp.size
 ·exact Ob.ok_lt (h.os j ob h1) h2 h3
theorem Wt.below{Γ:Ctx}{o:List (Nat × Ob)}{ρ:Nat→Value}{w w':World}(h:Wt Γ o ρ w)(hb:Below w.heap.size w w'):Wt Γ o ρ w' :=
 ⟨fun j ob hj=>Ob.ok_keep (Off.below hb) (fun _ h _=>h) (h.os j ob hj) (fun b hl h2=>hb.block b (Ob.ok_lt (h.os j ob hj) hl h2)),h.ap,h.ge,h.kp.below hb,h.o0,h.k0⟩
theorem Ft.below{Γ:Ctx}{σ:St}{ρ:Nat→Value}{a:Act}{w w':World}(h:Ft Γ σ ρ a w)(hb:Below w.heap.size w w'):Ft Γ σ ρ a w' :=
 ⟨h.df,fun i x hi=>Sv.rep_keep (Off.below hb) (fun _ h _=>h) (h.ts i x hi),h.sz⟩
def St.put(σ:St)(d:Option Tmp)(x:Sv):St:=match d with
 |some d=>⟨(d,x) :: σ.t,σ.o⟩
 |none=>σ
def inN(n:Nat):Option Tmp→Bool
 |some d=>Nat.blt d n
 |none=>true
theorem St.put_o(σ:St)(d:Option Tmp)(x:Sv):(σ.put d x).o=σ.o:=by cases d <;> rfl
theorem Ft.put{Γ:Ctx}{σ:St}{ρ:Nat→Value}{a:Act}{w:World}(h:Ft Γ σ ρ a w){x:Sv}{v:Value}(hx:x.rep ρ (OO Γ.O0 σ.o ρ) w v)(d:Option Tmp)(hd:inN Γ.n d=true):Ft Γ (σ.put d x) ρ (a.put d v) w:=by
 cases d with
 |none=>exact h
 |some d =>
  have hlt:d < a.tmps.size:=by rw[h.sz];exact Nat.le_of_ble_eq_true hd
  refine⟨h.df,fun i y hi=>?_,by simpa[Act.put] using h.sz⟩
  simp only[St.put,Act.put] at hi ⊢
  rw[look_cons] at hi
  split at hi
  ·rename_i e
   subst e
   cases hi
   simpa[Array.getD_eq_getD_getElem?,hlt] using hx
  ·rename_i e
   have:=h.ts i y hi
   simpa[Array.getD_eq_getD_getElem?,Array.getElem?_setIfInBounds,Ne.symm e] using this
def res(o:List (Nat × Ob)):Sv→Sv
 |.c (.own j)=>match look o j with
  |some (.frz x)=>.c (.dv x)
  |_=>.c (.own j)
 |x=>x
def St.at_(σ:St)(t:Nat):Sv:=match look σ.t t with
 |some x=>res σ.o x
 |none=>.c .any
def St.ev(σ:St):Operand→Sv
 |.tmp t=>σ.at_ t
 |.const v=>.c (.dv (.lit v))
 |.global g=>.c (.dv (.lit (.pointer (some ⟨g,0,none⟩))))
 |.func f=>.c (.dv (.lit (.func (.func f) #[] #[])))
theorem res_rep{Γ:Ctx}{σ:St}{ρ:Nat→Value}{w:World}(hW:Wt Γ σ.o ρ w){x:Sv}{v:Value}(h:x.rep ρ (OO Γ.O0 σ.o ρ) w v):(res σ.o x).rep ρ (OO Γ.O0 σ.o ρ) w v:=by
 unfold res
 split
 ·rename_i j
  split
  ·rename_i y hy
   obtain⟨e,-⟩:=(show v=ρ j∧_ from h)
   rw[e]
   exact hW.os j _ hy
  ·exact h
 ·exact h
theorem Ft.at_{Γ:Ctx}{σ:St}{ρ:Nat→Value}{a:Act}{w:World}(hW:Wt Γ σ.o ρ w)(h:Ft Γ σ ρ a w)(t:Nat):(σ.at_ t).rep ρ (OO Γ.O0 σ.o ρ) w (a.tmps.getD t undef):=by
 unfold St.at_
 split
 ·rename_i y ht
  exact res_rep hW (h.ts t y ht)
 ·trivial
theorem Ft.ev{Γ:Ctx}{σ:St}{ρ:Nat→Value}{a:Act}{w:World}(h:Ft Γ σ ρ a w)(hW:Wt Γ σ.o ρ w)(x:Operand):(σ.ev x).rep ρ (OO Γ.O0 σ.o ρ) w (a.eval x):=by
 cases x with
 |tmp t=>exact h.at_ hW t
 |const v=>rfl
 |global g=>rfl
 |func f=>rfl
theorem Ft.lit{Γ:Ctx}{σ:St}{ρ:Nat→Value}{a:Act}{w:World}(h:Ft Γ σ ρ a w)(hW:Wt Γ σ.o ρ w){x:Operand}{v:Value}(e:σ.ev x=.c (.dv (.lit v))):a.eval x=v:=by
 have:=h.ev hW x
 rw[e] at this
 exact this
theorem Ft.dv{Γ:Ctx}{σ:St}{ρ:Nat→Value}{a:Act}{w:World}(h:Ft Γ σ ρ a w)(hW:Wt Γ σ.o ρ w){x:Operand}{d:DV}(e:σ.ev x=.c (.dv d)):d.rep (OO Γ.O0 σ.o ρ) w (a.eval x):=by
 have:=h.ev hW x
 rw[e] at this
 exact this
structure Fo (Γ:Ctx) (σ:St) (ρ:Nat→Value) (o:Oper) (a:Act) (w:World):Prop where
 ev:∀x,x∈o.op.operands→(σ.ev x).rep ρ (OO Γ.O0 σ.o ρ) w (a.eval x)
theorem Fo.lit{Γ:Ctx}{σ:St}{ρ:Nat→Value}{o:Oper}{a:Act}{w:World}(h:Fo Γ σ ρ o a w){x:Operand}{v:Value}(e:σ.ev x=.c (.dv (.lit v)))(hm:x∈o.op.operands):a.eval x=v:=by
 have:=h.ev x hm
 rw[e] at this
 exact this
theorem Fo.dv{Γ:Ctx}{σ:St}{ρ:Nat→Value}{o:Oper}{a:Act}{w:World}(h:Fo Γ σ ρ o a w){x:Operand}{d:DV}(e:σ.ev x=.c (.dv d))(hm:x∈o.op.operands):d.rep (OO Γ.O0 σ.o ρ) w (a.eval x):=by
 have:=h.ev x hm
 rw[e] at this
 exact this
theorem Ft.opers{Γ:Ctx}{σ:St}{ρ:Nat→Value}{o:Oper}{a:Act}{w:World}(h:Ft Γ σ ρ a w)(hW:Wt Γ σ.o ρ w):Fo Γ σ ρ o a w:=⟨fun x _=>h.ev hW x⟩
def PS(Γ:Ctx)(o:Oper)(σ:St)(r:Sv):Prop:=∀(ρ:Nat→Value) (a:Act) (w:World) (Q:Exit→Act→World→Prop) (K:Act→World→Prop),Wt Γ σ.o ρ w→Fo Γ σ ρ o a w→(∀v w',r.rep ρ (OO Γ.O0 σ.o ρ) w' v→Below w.heap.size w w'→K (a.put o.dst v) w')→o.wp Γ.P a w K Q
def FS(Γ:Ctx)(o:Oper)(σ:St)(R:St→Prop):Prop:=∀(a:Act) (w:World) (Q:Exit→Act→World→Prop) (K:Act→World→Prop),Mt Γ σ a w→(∀σ' v w',R σ'→Mt Γ σ' (a.put o.dst v) w'→K (a.put o.dst v) w')→o.wp Γ.P a w K Q
theorem PS.full{Γ:Ctx}{o:Oper}{σ:St}{r:Sv}{R:St→Prop}(hd:inN Γ.n o.dst=true)(h:PS Γ o σ r)(hR:R (σ.put o.dst r)):FS Γ o σ R:=by
 rintro a w Q K ⟨ρ,h1,h2⟩ hK
 refine h ρ a w Q K h1 (h2.opers h1) fun v w' hr hb=>hK _ _ _ hR ⟨ρ,?_,?_⟩
 ·rw[St.put_o];exact h1.below hb
 ·exact(h2.below hb).put hr _ hd
def PL(Γ:Ctx)(ops:Array Oper)(l:List Oper)(R:St→Prop)(σ:St):Prop:=∀(a:Act) (w:World) (Q:Exit→Act→World→Prop),Mt Γ σ a w→(∀σ' a' w',R σ'→Mt Γ σ' a' w'→Q .normal a' w')→wpList Γ.P ops Q l a w
theorem PL.nil{Γ:Ctx}{ops:Array Oper}{R:St→Prop}{σ:St}(h:R σ):PL Γ ops [] R σ:=fun a w Q hM hQ=>wpList_nil (hQ _ _ _ h hM)
theorem PL.full{Γ:Ctx}{ops:Array Oper}{R:St→Prop}{σ:St}{o:Oper}{l:List Oper}(hg:o.guard=none)(h:FS Γ o σ (PL Γ ops l R)):PL Γ ops (o :: l) R σ :=
 fun a w Q hM hQ=>wpList_plain hg fun K hK=>h a w Q K hM fun σ' v w' hl hM'=>hK _ _ (hl _ w' Q hM' hQ)
theorem PL.cons{Γ:Ctx}{ops:Array Oper}{R:St→Prop}{σ:St}{o:Oper}{l:List Oper}{r:Sv}(hg:o.guard=none)(hd:inN Γ.n o.dst=true)(h:PS Γ o σ r)(k:PL Γ ops l R (σ.put o.dst r)):PL Γ ops (o :: l) R σ :=
 PL.full hg (h.full hd k)
theorem yield_of{Γ:Ctx}{ops:Array Oper}{σ:St}{ρ:Nat→Value}{a:Act}{w:World}(hW:Wt Γ σ.o ρ w)(h:Ft Γ σ ρ a w){j d:Nat}{b:Bool}(hj:(ops[j]?).bind (·.dst)=some d)(hd:σ.at_ d=.c (.dv (.lit (.bool b)))):yielded ops a.tmps j=some b:=by
 have h1:=h.at_ hW d
 rw[hd] at h1
 have h2:a.tmps.getD d undef=.bool b:=h1
 have h3:d < a.tmps.size:=by
  rcases Nat.lt_or_ge d a.tmps.size with h4|h4
  ·exact h4
  ·rw[Array.getD_eq_getD_getElem?,Array.getElem?_eq_none h4] at h2;cases h2
 unfold yielded
 rw[hj,Option.bind_some,Array.getElem?_eq_getElem h3]
 rw[Array.getD_eq_getD_getElem?,Array.getElem?_eq_getElem h3] at h2
 simp only[Option.getD_some] at h2
 rw[h2]
theorem PL.when{Γ:Ctx}{ops:Array Oper}{R:St→Prop}{σ:St}{o:Oper}{l:List Oper}{j d:Nat}{b:Bool}(hg:o.guard=some (j,b))(hj:(ops[j]?).bind (·.dst)=some d)(hd:σ.at_ d=.c (.dv (.lit (.bool b))))(h:FS Γ o σ (PL Γ ops l R)):PL Γ ops (o :: l) R σ:=by
 rintro a w Q ⟨ρ,h1,h2⟩ hQ
 refine wpList_step fun K hK=>?_
 rw[if_pos (by simp[Region.wanted,hg,yield_of h1 h2 hj hd])]
 exact h a w Q K ⟨ρ,h1,h2⟩ fun σ' v w' hl hM'=>hK _ _ (hl _ w' Q hM' hQ)
def PW(Γ:Ctx)(c:Code)(R:Exit→St→Prop)(σ:St):Prop:=∀a w,Mt Γ σ a w→c.wp Γ.P (fun e a' w'=>∃σ',Mt Γ σ' a' w'∧R e σ') a w
section
variable {Γ:Ctx} {R:Exit→St→Prop} {σ:St}
theorem PW.region{id:Nat}{ops:List Oper}(h:PL Γ ops.toArray ops (R .normal) σ):PW Γ (.region id ops.toArray false) R σ :=
 fun a w hM=>wp_region_lit (h a w _ hM fun σ' a' w' hR hM'=>⟨σ',hM',hR⟩)
theorem PW.mono{c:Code}{R':Exit→St→Prop}(h:PW Γ c R' σ)(hR:∀e σ,R' e σ→R e σ):PW Γ c R σ :=
 fun a w hM=>wp_mono (h a w hM) fun e a' w' ⟨σ',h1,h2⟩=>⟨σ',h1,hR _ _ h2⟩
def thn(K:St→Prop)(R:Exit→St→Prop):Exit→St→Prop
 |.normal,σ=>K σ
 |e,σ=>R e σ
theorem PW.seq{x y:Code}(h:PW Γ x (thn (PW Γ y R) R) σ):PW Γ (.seq x y) R σ:=fun a w hM=>by
 refine wp_seq (wp_mono (h a w hM) fun e a' w' ⟨σ',h1,h2⟩=>?_)
 cases e with
 |normal=>exact h2 a' w' h1
 |_=>exact⟨σ',h1,h2⟩
theorem PW.skip(h:R .normal σ):PW Γ .skip R σ:=fun a w hM=>wp_skip ⟨σ,hM,h⟩
theorem PW.ret(h:R .ret σ):PW Γ .ret R σ:=fun a w hM=>wp_ret ⟨σ,hM,h⟩
theorem PW.cond{c:Operand}{x y:Code}{b:Bool}(hc:σ.ev c=.c (.dv (.lit (.bool b))))(ht:b=true→PW Γ x R σ)(hf:b=false→PW Γ y R σ):PW Γ (.cond c x y) R σ:=fun a w hM=>by
 obtain⟨ρ,h1,h2⟩:=hM
 refine wp_cond_split (h2.lit h1 hc) (fun e=>ht e a w ⟨ρ,h1,h2⟩) (fun e=>hf e a w ⟨ρ,h1,h2⟩)
end
end Go.Proofs.YtoibhnpmemnlfaaGreatDoor.Av
namespace Go.Proofs.YtoibhnpmemnlfaaGreatDoor.Av
open Go.RowKit Go.Proofs.YtoibhnpmemnlfaaGreatDoor.Gn Go.Deep
abbrev D(x:DV):Sv:=.c (.dv x)
abbrev L(v:Value):Sv:=.c (.dv (.lit v))
abbrev In(n:Int):Sv:=.c (.dv (.lit (.int .i64 n)))
abbrev Bo(b:Bool):Sv:=.c (.dv (.lit (.bool b)))
section
variable {Γ:Ctx} {σ:St} {o:Oper}
theorem PS.mk(v:Value)(h:∀ρ a w,Wt Γ σ.o ρ w→Fo Γ σ ρ o a w→(execOp a.eval o).run Γ.P w=.ok (.value v) w):PS Γ o σ (L v):=by
 intro ρ a w Q K h1 h2 hK
 exact wp_val (h ρ a w h1 h2) (hK v w rfl (Below.refl _ _))
theorem PS.read(r:Sv)(h:∀ρ a w,Wt Γ σ.o ρ w→Fo Γ σ ρ o a w→∃v,(execOp a.eval o).run Γ.P w=.ok (.value v) w∧r.rep ρ (OO Γ.O0 σ.o ρ) w v):PS Γ o σ r:=by
 intro ρ a w Q K h1 h2 hK
 obtain⟨v,h3,h4⟩:=h ρ a w h1 h2
 exact wp_val h3 (hK v w h4 (Below.refl _ _))
theorem PS.move{x:Operand}(ho:o.op=.move x∨o.op=.assign x):PS Γ o σ (σ.ev x) :=
 PS.read _ fun ρ a w h1 h2=>⟨a.eval x,by rcases ho with ho|ho <;> simp[execOp,ho],h2.ev x (by rcases ho with ho|ho <;> simp[ho,Op.operands])⟩
theorem PS.moved{x:Operand}{r:Sv}(ho:o.op=.move x)(hx:σ.ev x=r):PS Γ o σ r:=hx▸PS.move (.inl ho)
theorem PS.assigned{x:Operand}{r:Sv}(ho:o.op=.assign x)(hx:σ.ev x=r):PS Γ o σ r:=hx▸PS.move (.inr ho)
theorem PS.bin{op:BinOp}{T T2:TypeId}{x y:Operand}{vx vy:Value}(v:Value)(ho:o.op=.binOp op T x y T2)(hx:σ.ev x=L vx)(hy:σ.ev y=L vy)
  (hg:∀w,(eqGuard op T x y vx vy).run Γ.P w=.ok () w) (h:∀w,(binOp op T vx vy).run Γ.P w=.ok v w):PS Γ o σ (L v) :=
 PS.mk v fun ρ a w h1 h2=>by
  unfold execOp
  simp only[ho,h2.lit hx (by simp[ho,Op.operands]),h2.lit hy (by simp[ho,Op.operands]),Sem.run_bind,hg,Result.andThen_ok,h,Sem.run_pure]
theorem guard_int{P:Program}{op:BinOp}{T:TypeId}{x y:Operand}{k k':IntKind}{a b:Int}(w:World):(eqGuard op T x y (.int k a) (.int k' b)).run P w=.ok () w:=by
 simp[go_sem]
theorem PS.gtr{T T2:TypeId}{x y:Operand}{k:IntKind}{a b:Int}(ho:o.op=.binOp .gtr T x y T2)(hx:σ.ev x=L (.int k a))(hy:σ.ev y=L (.int k b)):PS Γ o σ (Bo (decide (b < a))) :=
 PS.bin _ ho hx hy guard_int fun w=>by simp[go_sem]
theorem PS.eql{T T2:TypeId}{x y:Operand}{k:IntKind}{a b:Int}(ho:o.op=.binOp .eql T x y T2)(hx:σ.ev x=L (.int k a))(hy:σ.ev y=L (.int k b)):PS Γ o σ (Bo (decide (a=b))) :=
 PS.bin _ ho hx hy guard_int fun w=>by simp[go_sem];rfl
theorem PS.neq{T T2:TypeId}{x y:Operand}{k:IntKind}{a b:Int}(ho:o.op=.binOp .neq T x y T2)(hx:σ.ev x=L (.int k a))(hy:σ.ev y=L (.int k b)):PS Γ o σ (Bo (!decide (a=b))) :=
 PS.bin _ ho hx hy guard_int fun w=>by simp[go_sem];rfl
theorem PS.not{T:TypeId}{x:Operand}{b:Bool}(ho:o.op=.unOp .not T x)(hx:σ.ev x=Bo b):PS Γ o σ (Bo (!b)) :=
 PS.mk _ fun ρ a w h1 h2=>by unfold execOp;simp[ho,h2.lit hx (by simp[ho,Op.operands]),Op.unary]
theorem PS.ext{x:Operand}{i:Nat}{xs:List DV}{y:DV}(ho:o.op=.extract x i)(hx:σ.ev x=D (.tup xs))(hi:xs[i]?=some y):PS Γ o σ (D y) :=
 PS.read _ fun ρ a w h1 h2=>by
  obtain⟨vs,e1,e2,e3⟩:=h2.dv hx (by simp[ho,Op.operands])
  obtain⟨v,e4,e5⟩:=reps_iff.1 e3 i y hi
  rw[Nat.zero_add] at e4
  exact⟨v,by unfold execOp;simp[ho,e1,Instr.extract,e4],e5⟩
theorem PS.loadB{x:Operand}{T t:TypeId}{j off k:Nat}{ni:Bool}{cs:List DV}{c:DV}{d:TypeDesc}(ho:o.op=.load T x)(hx:σ.ev x=.c (.ptr j off))(hj:look σ.o j=some (.buf t k ni cs))(hc:cs[off]?=some c)
  (hu:Γ.P.underlying T=some d) (hd:d.isRow=false):PS Γ o σ (D c) :=
 PS.read _ fun ρ a w h1 h2=>by
  have h3:=h2.ev x (by simp[ho,Op.operands])
  rw[hx] at h3
  obtain⟨g,e1,e2⟩:=h3
  obtain⟨n,vs,e3,e5,e6⟩:=h1.os j _ hj
  obtain⟨v,e7,e8⟩:=reps_iff.1 e6 off c hc
  rw[Nat.zero_add] at e7
  obtain⟨q1,q2⟩:=e3
  rcases q2 with⟨q2,-⟩|⟨g',cap,cur,q2,q3,q4,-, q5,q6,-⟩
  ·rw[q2] at e1;cases e1
  ·rw[q2] at e1;cases e1
   refine⟨v,run_cell_op T x ho _ e2 v ?_ d hu hd,e8⟩
   rw[(show Bl w g' t cur from q3).cell]
   have h5:(cur.toList.take (n*k))[off]?=some v:=by rw[q6];exact e7
   rw[List.getElem?_take] at h5
   split at h5
   ·simpa using h5
   ·cases h5
theorem PS.loadA{x:Operand}{T:TypeId}{y:DV}{ys:List DV}{d:TypeDesc}(ho:o.op=.load T x)(hx:σ.ev x=.c (.at_ y ys))(hu:Γ.P.underlying T=some d)(hd:d.isRow=false):PS Γ o σ (D y) :=
 PS.read _ fun ρ a w h1 h2=>by
  have h3:=h2.ev x (by simp[ho,Op.operands])
  rw[hx] at h3
  obtain⟨ad,e1,e2,⟨v,e3,e4⟩,-⟩:=h3
  have e0:ad.add 0=ad:=by unfold Addr.add;rw[if_pos rfl]
  rw[e0] at e3
  exact⟨v,run_cell_op T x ho _ e1 v e3 d hu hd,e4⟩
theorem PS.fieldAddr{x:Operand}{T:TypeId}{j off f:Nat}(fo:Nat)(ho:o.op=.fieldAddr T x f)(hx:σ.ev x=.c (.ptr j off))(h:∀g w,(Instr.fieldAt T (.pointer (some ⟨g,off,none⟩)) f).run Γ.P w=.ok (.pointer (some ⟨g,off+fo,none⟩)) w):PS Γ o σ (.c (.ptr j (off+fo))) :=
 PS.read _ fun ρ a w h1 h2=>by
  have h3:=h2.ev x (by simp[ho,Op.operands])
  rw[hx] at h3
  obtain⟨g,e1,e2⟩:=h3
  exact⟨.pointer (some ⟨g,off+fo,none⟩),by unfold execOp;simp only[ho,e2,h,Sem.run_bind,Result.andThen_ok,Sem.run_pure],g,e1,rfl⟩
end
end Go.Proofs.YtoibhnpmemnlfaaGreatDoor.Av
namespace Go.Proofs.YtoibhnpmemnlfaaGreatDoor.Av
open Go.RowKit Go.Proofs.YtoibhnpmemnlfaaGreatDoor.Gn Go.Deep
def DV.clean(ks:List IntKind):DV→Bool
 |.lit v=>noK ks v
 |.sat _=>ks.isEmpty
 |_=>true
def Cl.clean(ks:List IntKind):Cl→Bool
 |.any=>ks.isEmpty
 |.dv x=>x.clean ks
 |_=>true
def Ob.clean(ks:List IntKind):Ob→Bool
 |.dead=>true
 |.frz _=>true
 |.whole m _ _=>ks.isEmpty || !m
 |.var _ cs=>cs.all (Cl.clean ks)
 |.buf _ _ ni _=>ks.isEmpty || ni
theorem noK_nil(v:Value):noK [] v=true:=by unfold noK;split <;> rfl
theorem DV.clean_rep{ks:List IntKind}{O:Nat→Prop}{w:World}{x:DV}{v:Value}(h:x.clean ks=true)(hv:x.rep O w v):noK ks v=true:=by
 cases x with
 |lit u=>cases hv;exact h
 |sat φ=>rw[List.isEmpty_iff.1 h];exact noK_nil v
 |sq r k xs=>obtain⟨A,n,c,e,-⟩:=hv;rw[e];rfl
 |agg xs=>obtain⟨vs,e,-⟩:=hv;rw[e];rfl
 |tup xs=>obtain⟨vs,e,-⟩:=hv;rw[e];rfl
def En(P:Program)(f:FuncId):Prop:=∀ar w,(callFunc f ar).run P w=.ok (.enter f ar) w
def FnAt(P:Program)(ks:List IntKind)(w:World)(f:FuncId)(xs:List DV)(r:DV):Prop:=En P f∧∀(O:Nat→Prop) (vs:List Value),(∀b,O b→b < w.heap.size)→(∀b cs t fz,O b→w.heap[b]?=some (.cells cs t fz)→∀v∈cs.toList,noK ks v=true) →
 vs.length=xs.length→DV.reps O w xs 0 (fun i v=>vs[i]?=some v)→Calls P f vs.toArray w fun e w'=>∃v,e=.returned v∧r.rep O w' v∧Below w.heap.size w w'
section
variable {Γ:Ctx} {σ:St} {o:Oper}
theorem look_mem{α:Type}:∀ {l:List (Nat × α)} {d:Nat} {x:α},look l d=some x→(d,x)∈l:=by
 intro l
 induction l with
 |nil=>intro d x h;cases h
 |cons e l ih =>
  intro d x h
  obtain⟨k,y⟩:=e
  rw[look_cons] at h
  split at h
  ·rename_i e;subst e;cases h;exact List.mem_cons_self
  ·exact List.mem_cons_of_mem _ (ih h)
def subK(ks ls:List IntKind):Bool:=ks.all ls.contains
theorem subK_at{ks ls:List IntKind}(h:subK ks ls=true):∀k,ks.contains k=true→ls.contains k=true:=fun k hk=>List.all_eq_true.1 h k (List.contains_iff_mem.1 hk)
def clnO(ks:List IntKind)(o:List (Nat × Ob)):Bool:=o.all fun e=>match look o e.1 with
 |some ob=>ob.clean ks
 |none=>true
theorem clnO_at{ks:List IntKind}{o:List (Nat × Ob)}(h:clnO ks o=true){j:Nat}{ob:Ob}(hj:look o j=some ob):ob.clean ks=true:=by
 have:=List.all_eq_true.1 h _ (look_mem hj)
 simp only[hj] at this
 exact this
theorem OO_noK{ks:List IntKind}{ρ:Nat→Value}{w:World}(h:Wt Γ σ.o ρ w)(hk0:subK ks Γ.ks=true)(hc:clnO ks σ.o=true) :
  ∀b cs t fz,OO Γ.O0 σ.o ρ b→w.heap[b]?=some (.cells cs t fz)→∀v∈cs.toList,noK ks v=true:=by
 have hk:=subK_at hk0
 intro b cs t fz hb hcs v hv
 rcases hb with hb|⟨j,⟨ob,h1,h2⟩,h3⟩
 ·have h4:=h.kp.block b (h.o0 b hb).1 (h.o0 b hb).2
  have:=h.k0 b cs t fz hb (by rw[←h4];exact hcs) v hv
  unfold noK at this ⊢
  split
  ·rename_i k n
   simp only at this ⊢
   cases hq:ks.contains k with
   |false=>rfl
   |true=>rw[hk k hq] at this;exact this
  ·rfl
 ·have h4:=h.os j ob h1
  cases ob with
  |dead=>cases h2
  |frz x=>cases h2
  |whole m t' x =>
   have hm:m=true:=h2
   subst hm
   have hcl:=clnO_at hc h1
   have:ks=[]:=by
    have h5:(ks.isEmpty || !true)=true:=hcl
    simpa using h5
   subst this
   exact noK_nil v
  |var t' cl =>
   obtain⟨g,vs,e1,e2,e3,e4⟩:=h4
   rw[e1] at h3;cases h3
   have e5:(some (.cells cs t fz):Option Obj)=some (.cells vs t' (0,0)):=hcs.symm.trans e2
   cases e5
   obtain⟨i,hi⟩:=List.getElem?_of_mem hv
   have hil:i < cl.length:=by
    have:=(List.getElem?_eq_some_iff.1 hi).1
    simp at this;omega
   obtain⟨v',h5,h6⟩:=e4 i cl[i] (List.getElem?_eq_getElem hil)
   have:v'=v:=by
    rw[Array.getElem?_toList] at hi
    rw[h5] at hi;cases hi;rfl
   subst this
   have hcl:cl[i].clean ks=true:=by
    have:=clnO_at hc h1
    exact List.all_eq_true.1 this _ (List.getElem_mem hil)
   cases hcc:cl[i] with
   |any =>
    rw[hcc] at hcl
    have:ks=[]:=by simpa[Cl.clean] using hcl
    subst this;exact noK_nil _
   |dv x=>rw[hcc] at hcl h6;exact DV.clean_rep hcl h6
   |ptr j' off=>rw[hcc] at h6;obtain⟨g',-, e⟩:=h6;rw[e];rfl
   |own j' =>
    rw[hcc] at h6
    obtain⟨-, A,n,c,e⟩:=h6
    rw[e];rfl
   |at_ x xs=>rw[hcc] at h6;obtain⟨ad,e,-⟩:=h6;rw[e];rfl
  |buf t' k' ni cl =>
   have h5:=clnO_at hc h1
   have h6:ks=[]∨ni=true:=by simpa[Ob.clean] using h5
   rcases h6 with h6|h6
   ·subst h6;exact noK_nil _
   ·obtain⟨n,vs,e,-⟩:=h4
    obtain⟨-, e2⟩:=e
    rcases e2 with⟨e2,-⟩|⟨g,cap,cur,e2,e3,-, -, -, -, e4⟩
    ·rw[e2] at h3;cases h3
    ·rw[e2] at h3;cases h3
     have e5:(some (.cells cs t fz):Option Obj)=some (.cells cur t' (0,0)):=hcs.symm.trans e3
     cases e5
     have:=e4 h6 v hv
     cases v <;> first|rfl|cases this
theorem run_call{P:Program}{a:Act}{w:World}{f:FuncId}{args:Array Operand}{ts:Array TypeId}(ho:o.op=.call { callee:=.value (.func f),args:=args,argTypes:=ts })(he:En P f):(execOp a.eval o).run P w=.ok (.enter f (args.map a.eval)) w:=by
 have h1:execOp a.eval o=callFunc f (#[] ++ args.map a.eval ++ #[]):=by
  unfold execOp
  rw[ho]
  rfl
 rw[h1,he]
 simp
theorem PS.call{f:FuncId}{args:List Operand}{ts:Array TypeId}{xs:List DV}{r:DV}{ks:List IntKind}(ho:o.op=.call { callee:=.value (.func f),args:=args.toArray,argTypes:=ts })(hx:args.map σ.ev=xs.map (fun x=>D x))
  (hk:subK ks Γ.ks=true) (hc:clnO ks σ.o=true) (h:∀w,Kp Γ.X Γ.w0 w→FnAt Γ.P ks w f xs r):PS Γ o σ (D r):=by
 intro ρ a w Q K h1 h2 hK
 have hr:=run_call (P:=Γ.P) (a:=a) (w:=w) ho (h w h1.kp).1
 have hl:args.length=xs.length:=by simpa using congrArg List.length hx
 have:=(h w h1.kp).2 (OO Γ.O0 σ.o ρ) (args.map a.eval) (fun b hb=>OO_lt h1 hb) (OO_noK h1 hk hc) (by simp[hl]) (reps_iff.2 fun j x hj=>by
  have hjl:j < args.length:=by have:=(List.getElem?_eq_some_iff.1 hj).1;omega
  refine⟨a.eval args[j],by simp[hjl],?_⟩
  have h3:=h2.ev args[j] (by simp[ho,Op.operands,Call.operands])
  have h4:σ.ev args[j]=D x:=by
   have:=congrArg (fun l=>l[j]?) hx
   simpa[hjl,hj] using this
  rw[h4] at h3
  exact h3)
 refine wp_enter hr ?_
 rw[show args.toArray.map a.eval=(args.map a.eval).toArray by simp]
 exact this.mono (by rintro e w' ⟨v,he,hv,hb⟩;exact⟨v,he,hK v w' hv hb⟩)
end
def args(xs:List DV)(i:Nat):List (Nat × Sv):=match xs with
 | []=>[]
 |x :: l=>(i,D x) :: args l (i+1)
def St.enter(xs:List DV):St:=⟨args xs 0,[]⟩
theorem args_at:∀ {xs:List DV} {i d:Nat} {y:Sv},look (args xs i) d=some y→∃j x,d=i+j∧xs[j]?=some x∧y=D x:=by
 intro xs
 induction xs with
 |nil=>intro i d y h;cases h
 |cons x l ih =>
  intro i d y h
  unfold args at h
  rw[look_cons] at h
  split at h
  ·rename_i e;cases h;exact⟨0,x,by omega,rfl,rfl⟩
  ·obtain⟨j,x',h1,h2,h3⟩:=ih h
   exact⟨j+1,x',by omega,by simpa using h2,h3⟩
def Rt(Γ:Ctx)(fn:Func)(r:DV)(σ:St):Prop:=∀ρ a w,Wt Γ σ.o ρ w→Ft Γ σ ρ a w→∃v,(results fn a.tmps).run Γ.P w=.ok v w∧r.rep (OO Γ.O0 σ.o ρ) w v
def Rx(Γ:Ctx)(fn:Func)(r:DV):Exit→St→Prop
 |.normal,σ | .ret,σ=>Rt Γ fn r σ
 |_,_=>False
theorem FnAt.of{P:Program}{ks:List IntKind}{w:World}{f:FuncId}{xs:List DV}{r:DV}(fn:Func)(n:Nat)(c:Code)(hf:P.funcs[f]?=some fn)(hm:fn.ntmps=n)(hb:fn.body=some c)(hn:Nat.ble xs.length n=true)
  (he:En P f) (h:∀O:Nat→Prop,PW ⟨P,n,w,O,fun _=>False,ks⟩ c (Rx ⟨P,n,w,O,fun _=>False,ks⟩ fn r) (St.enter xs)):FnAt P ks w f xs r:=by
 refine⟨he,fun O vs hO hks hl hr=>?_⟩
 have hn:=Nat.le_of_ble_eq_true hn
 have:=h O { tmps:=vs.toArray ++ Array.replicate (fn.ntmps - vs.toArray.size) undef,defers:=[] } w
  ⟨fun _=>undef,⟨fun j ob hj=>by simp[St.enter,look] at hj,fun i j b _ hi=>by obtain⟨ob,h1,-⟩:=hi;simp[St.enter,look] at h1,fun j b hi=>by obtain⟨ob,h1,-⟩:=hi;simp[St.enter,look] at h1,Kp.refl _ _,fun b hb=>⟨hO b hb,fun h=>h⟩,hks⟩,
   ⟨rfl,(fun i x hi=>by
    obtain⟨j,y,hij,hy,rfl⟩:=args_at hi
    have hij:i=j:=by omega
    subst hij
    obtain⟨v,h1,h2⟩:=reps_iff.1 hr i y hy
    rw[Nat.zero_add] at h1
    have hil:i < vs.length:=(List.getElem?_eq_some_iff.1 h1).1
    have e:(vs.toArray ++ Array.replicate (fn.ntmps - vs.toArray.size) undef).getD i undef=v:=by
     rw[Array.getD_eq_getD_getElem?,Array.getElem?_append_left (by simpa using hil)]
     simp[h1]
    rw[e]
    refine DV.rep_keep (Off.refl O w) (fun b hb _ h3=>?_) y v h2
    rcases h3 with h3|⟨j,⟨ob,h3,-⟩,-⟩
    ·exact hb h3
    ·simp[St.enter,look] at h3),(by
     simp[hm];omega)⟩⟩
 refine calls_of_wp hf hb (wp_mono this fun e a' w' ⟨σ',⟨ρ,h1,h2⟩,h3⟩=>?_)
 have fin:Rt ⟨P,n,w,O,fun _=>False,ks⟩ fn r σ'→a'.defers=[]∧∃v,(results fn a'.tmps).run P w'=.ok v w'∧∃v',Ending.returned v=.returned v'∧r.rep O w' v'∧Below w.heap.size w w':=fun h4=>by
  obtain⟨v,h5,h6⟩:=h4 ρ a' w' h1 h2
  exact⟨h2.df,v,h5,v,rfl,DV.rep_keep (Off.refl _ w') (fun b hb _ h7=>hb (.inl h7)) r v h6,h1.kp.to_below⟩
 cases e with
 |normal=>exact fin h3
 |ret=>exact fin h3
 |_=>exact h3.elim
section
variable {Γ:Ctx} {σ:St} {fn:Func}
theorem Ft.slot{ρ:Nat→Value}{a:Act}{w:World}(hW:Wt Γ σ.o ρ w)(h:Ft Γ σ ρ a w){s:Nat}{x:Sv}(hs:σ.at_ s=x):x.rep ρ (OO Γ.O0 σ.o ρ) w (a.tmps.getD s undef):=by
 subst hs;exact h.at_ hW s
theorem Rt.one{s:Nat}{r:DV}(h:fn.results = #[.tmp s])(hs:σ.at_ s=D r):Rt Γ fn r σ:=fun ρ a w h1 h2=>⟨a.tmps.getD s undef,Gn.results_tmp s _ h rfl,h2.slot h1 hs⟩
theorem var_row{ρ:Nat→Value}{a:Act}{w:World}(h1:Wt Γ σ.o ρ w)(h2:Ft Γ σ ρ a w){s j:Nat}{T t:TypeId}{xs:List DV}{d:TypeDesc}(hs:σ.at_ s=.c (.ptr j 0))(hj:look σ.o j=some (.var t (xs.map .dv)))
  (hu:Γ.P.underlying T=some d) (hd:d.isRow=true) (hi:(Γ.P.info? T).map (·.size)=some xs.length):∃g vs,a.tmps.getD s undef=.pointer (some ⟨g,0,none⟩)∧Bl w g t vs∧(loadVar T ⟨g,0,none⟩).run Γ.P w=.ok (.agg vs) w∧(DV.agg xs).rep (OO Γ.O0 σ.o ρ) w (.agg vs):=by
 obtain⟨g,e1,e2⟩:=h2.slot h1 hs
 obtain⟨g',vs,e3,e4,e5,e6⟩:=h1.os j _ hj
 rw[e3] at e1;cases e1
 refine⟨g',vs,e2,e4,run_load_var T g' t vs e4 hu hd (by rw[hi,e5];simp),vs,rfl,by simpa using e5,reps_iff.2 fun i x hi=>?_⟩
 obtain⟨v,h3,h4⟩:=e6 i (.dv x) (by simp[hi])
 exact⟨v,by rw[Nat.zero_add];exact h3,h4⟩
theorem Rt.cellTwo{s j s':Nat}{T t:TypeId}{xs:List DV}{r':DV}{d:TypeDesc}(h:fn.results = #[.cell s T,.tmp s'])(hs:σ.at_ s=.c (.ptr j 0))(hj:look σ.o j=some (.var t (xs.map .dv)))(hs':σ.at_ s'=D r')
  (hu:Γ.P.underlying T=some d) (hd:d.isRow=true) (hi:(Γ.P.info? T).map (·.size)=some xs.length):Rt Γ fn (.tup [.agg xs,r']) σ:=fun ρ a w h1 h2=>by
 obtain⟨g,vs,e1,e2,e3,e4⟩:=var_row h1 h2 hs hj hu hd hi
 exact⟨.tuple #[.agg vs,a.tmps.getD s' undef],by rw[Array.getD_eq_getD_getElem?] at e1;simp[results,h,e1,asAddr,e3],_,rfl,rfl,⟨_,rfl,e4⟩,⟨_,rfl,h2.slot h1 hs'⟩,trivial⟩
end
end Go.Proofs.YtoibhnpmemnlfaaGreatDoor.Av
namespace Go.Proofs.YtoibhnpmemnlfaaGreatDoor.Av
open Go.RowKit Go.Proofs.YtoibhnpmemnlfaaGreatDoor.Gn Go.Deep
def Cl.ren(π:Nat→Nat):Cl→Cl
 |.own j=>.own (π j)
 |.ptr j off=>.ptr (π j) off
 |x=>x
def Sv.ren(π:Nat→Nat):Sv→Sv
 |.c x=>.c (x.ren π)
 |.tp xs=>.tp (xs.map (Cl.ren π))
def Ob.ren(π:Nat→Nat):Ob→Ob
 |.var t cs=>.var t (cs.map (Cl.ren π))
 |x=>x
def wkT(π:Nat→Nat)(σ:St):List (Nat × Sv)→Prop
 | []=>True
 |e :: l=>(e.2=.c .any∨σ.at_ e.1=e.2.ren π)∧wkT π σ l
def wkO(π:Nat→Nat)(σ:St):List (Nat × Ob)→Prop
 | []=>True
 |e :: l=>(e.2=.dead∨look σ.o (π e.1)=some (e.2.ren π))∧wkO π σ l
def injB(π:Nat→Nat)(l:List Nat):Bool:=l.all fun i=>l.all fun j=>!(Nat.beq (π i) (π j)) || Nat.beq i j
theorem injB_at{π:Nat→Nat}{l:List Nat}(h:injB π l=true):∀i∈l,∀j∈l,π i=π j→i=j:=fun i hi j hj e=>by
 have:=List.all_eq_true.1 (List.all_eq_true.1 h i hi) j hj
 rw[e] at this
 simpa using this
structure Wk (π:Nat→Nat) (σ' σ:St):Prop where
 t:wkT π σ σ'.t
 o:wkO π σ σ'.o
 inj:injB π (σ'.o.map (·.1))=true
theorem wkT_at{π:Nat→Nat}{σ:St}:∀ {l:List (Nat × Sv)},wkT π σ l→∀ {d:Nat} {x:Sv},(d,x)∈l→x=.c .any∨σ.at_ d=x.ren π:=by
 intro l
 induction l with
 |nil=>intro _ d x h;cases h
 |cons e l ih =>
  intro h d x hm
  rcases List.mem_cons.1 hm with rfl|hm
  ·exact h.1
  ·exact ih h.2 hm
theorem wkO_at{π:Nat→Nat}{σ:St}:∀ {l:List (Nat × Ob)},wkO π σ l→∀ {d:Nat} {x:Ob},(d,x)∈l→x=.dead∨look σ.o (π d)=some (x.ren π):=by
 intro l
 induction l with
 |nil=>intro _ d x h;cases h
 |cons e l ih =>
  intro h d x hm
  rcases List.mem_cons.1 hm with rfl|hm
  ·exact h.1
  ·exact ih h.2 hm
section
variable {Γ:Ctx} {σ σ':St} {π:Nat→Nat}
theorem OO_mono{O0:Nat→Prop}{o o':List (Nat × Ob)}{ρ ρ':Nat→Value}{π:Nat→Nat}(h:∀j,liveAt o' j→liveAt o (π j)∧ρ' j=ρ (π j)){b:Nat}(hb:¬OO O0 o ρ b):¬OO O0 o' ρ' b:=fun h1=>hb (by
 rcases h1 with h1|⟨j,h2,h3⟩
 ·exact .inl h1
 ·exact .inr ⟨π j,(h j h2).1,by rw[←(h j h2).2];exact h3⟩)
theorem ren_rep{ρ:Nat→Value}{O:Nat→Prop}{w:World}{x:Cl}{v:Value}(h:(x.ren π).rep ρ O w v):x.rep (fun j=>ρ (π j)) O w v:=by
 cases x <;> exact h
theorem clr_ren{ρ:Nat→Value}{O:Nat→Prop}{w:World}{cs:List Cl}{f:Nat→Value→Prop}(h:clr ρ O w (cs.map (Cl.ren π)) f):clr (fun j=>ρ (π j)) O w cs f:=fun i x hi=>by
 obtain⟨v,h1,h2⟩:=h i (x.ren π) (by simp[hi])
 exact⟨v,h1,ren_rep h2⟩
theorem Mt.weak{a:Act}{w:World}(h:Mt Γ σ a w)(hw:Wk π σ' σ):Mt Γ σ' a w:=by
 obtain⟨ρ,h1,h2⟩:=h
 have hl:∀j,liveAt σ'.o j→liveAt σ.o (π j):=fun j hj=>by
  obtain⟨ob,h3,h4⟩:=hj
  rcases wkO_at hw.o (look_mem h3) with rfl|h5
  ·cases h4
  ·exact⟨_,h5,by cases ob <;> first|rfl|exact h4⟩
 have hkey:∀j,liveAt σ'.o j→j∈σ'.o.map (·.1):=fun j hj=>by
  obtain⟨ob,h3,-⟩:=hj
  exact List.mem_map.2 ⟨_,look_mem h3,rfl⟩
 have hO:∀b,¬OO Γ.O0 σ.o ρ b→b < w.heap.size→¬OO Γ.O0 σ'.o (fun j=>ρ (π j)) b:=fun b hb _=>OO_mono (fun j hj=>⟨hl j hj,rfl⟩) hb
 refine⟨fun j=>ρ (π j),⟨fun j ob hj=>?_,fun i j b hne h3 h4=>h1.ap (π i) (π j) b (fun e=>hne (injB_at hw.inj i (hkey i h3) j (hkey j h4) e)) (hl i h3) (hl j h4),fun j b h3=>h1.ge (π j) b (hl j h3),h1.kp,h1.o0,h1.k0⟩,h2.df,fun i x hi=>?_,h2.sz⟩
 ·rcases wkO_at hw.o (look_mem hj) with rfl|h3
  ·trivial
  ·have h4:=Ob.ok_keep (Off.refl _ w) hO (h1.os _ _ h3) (fun _ _ _=>rfl)
   cases ob with
   |dead=>trivial
   |frz x=>exact h4
   |whole m t x=>exact h4
   |buf t k ni cs=>exact h4
   |var t cs =>
    obtain⟨g,vs,e1,e2,e3,e4⟩:=h4
    exact⟨g,vs,e1,e2,by simpa using e3,clr_ren e4⟩
 ·rcases wkT_at hw.t (look_mem hi) with rfl|h3
  ·trivial
  ·have h4:=h2.at_ h1 i
   rw[h3] at h4
   have h5:=Sv.rep_keep (Off.refl _ w) hO h4
   cases x with
   |c x=>exact ren_rep h5
   |tp xs=>obtain⟨vs,e1,e2,e3⟩:=h5;exact⟨vs,e1,by simpa using e2,clr_ren e3⟩
theorem PW.weak{c:Code}{R:Exit→St→Prop}(hw:Wk π σ' σ)(h:PW Γ c R σ'):PW Γ c R σ:=fun a w hM=>h a w (hM.weak hw)
end
def St.frz(σ:St)(j:Nat)(x:DV):St:=⟨σ.t,(j,.frz x) :: σ.o⟩
section
variable {Γ:Ctx} {σ σ':St}
theorem row_rep{w:World}{t k n:Nat}{v:Value}{vs:List Value}{ni:Bool}{cs:List DV}{O O':Nat→Prop}(h:Row w t k v n vs ni)(hl:vs.length=cs.length)(hr:DV.reps O w cs 0 (fun i v=>vs[i]?=some v))(hO:∀b,¬O b→b < w.heap.size→¬O' b)(hb:∀b,blk v=some b→¬O' b):(DV.sq true k cs).rep O' w v:=by
 obtain⟨h1,h2⟩:=h
 rcases h2 with⟨rfl,rfl⟩|⟨g,cap,cur,rfl,h3,h4,h5,h6,h7,-⟩
 ·have:cs=[]:=List.length_eq_zero_iff.1 (by omega)
  subst this
  exact⟨none,0,0,rfl,by simp,fun _=>⟨Nat.le_refl _,Nat.zero_le _,fun _=>rfl⟩,trivial⟩
 ·refine⟨some ⟨g,0,none⟩,n,cap,rfl,by omega,fun _=>⟨h4,Nat.le_trans h4 h5,fun e=>by cases e⟩,reps_iff.2 fun i x hi=>?_⟩
  obtain⟨v,h8,h9⟩:=reps_iff.1 hr i x hi
  rw[Nat.zero_add] at h8
  refine⟨v,⟨_,rfl,hb g rfl,?_⟩,DV.rep_keep (Off.refl O w) hO x v h9⟩
  rw[add_at,Nat.zero_add,h3.cell]
  rw[←h7,List.getElem?_take] at h8
  split at h8
  ·simpa using h8
  ·cases h8
theorem Mt.frz{a:Act}{w:World}(h:Mt Γ σ a w){j t k:Nat}{ni:Bool}{cs:List DV}(hj:look σ.o j=some (.buf t k ni cs)):Mt Γ (σ.frz j (.sq true k cs)) a w:=by
 obtain⟨ρ,h1,h2⟩:=h
 have og:∀i ob,look (σ.frz j (.sq true k cs)).o i=some ob→(i=j∧ob=.frz (.sq true k cs))∨(i≠j∧look σ.o i=some ob):=by
  intro i ob hi
  simp only[St.frz,look_cons] at hi
  split at hi
  ·rename_i e;cases hi;exact .inl ⟨e,rfl⟩
  ·rename_i e;exact .inr ⟨e,hi⟩
 have hl:∀i,liveAt (σ.frz j (.sq true k cs)).o i→i≠j∧liveAt σ.o i:=by
  rintro i ⟨ob,h3,h4⟩
  rcases og i ob h3 with⟨-, rfl⟩|⟨h5,h6⟩
  ·cases h4
  ·exact⟨h5,ob,h6,h4⟩
 have hO:∀b,¬OO Γ.O0 σ.o ρ b→b < w.heap.size→¬OO Γ.O0 (σ.frz j (.sq true k cs)).o ρ b:=fun b hb _=>OO_mono (π:=id) (fun i hi=>⟨(hl i hi).2,rfl⟩) hb
 have hjL:liveAt σ.o j:=⟨_,hj,rfl⟩
 have hrow:(DV.sq true k cs).rep (OO Γ.O0 (σ.frz j (.sq true k cs)).o ρ) w (ρ j):=by
  obtain⟨n,vs,h3,h4,h5⟩:=h1.os j _ hj
  refine row_rep h3 h4 h5 hO fun b hb h6=>?_
  rcases h6 with h6|⟨i,h7,h8⟩
  ·obtain⟨h9,h10⟩:=h1.o0 b h6
   rcases h1.ge j b hjL hb with h11|h11
   ·omega
   ·exact h10 h11
  ·exact h1.ap i j b (hl i h7).1 (hl i h7).2 hjL h8 hb
 refine⟨ρ,⟨fun i ob hi=>?_,fun i i' b hne h3 h4=>h1.ap i i' b hne (hl i h3).2 (hl i' h4).2,fun i b h3=>h1.ge i b (hl i h3).2,h1.kp,h1.o0,h1.k0⟩,h2.df,fun i x hi=>Sv.rep_keep (Off.refl _ w) hO (h2.ts i x hi),h2.sz⟩
 rcases og i ob hi with⟨rfl,rfl⟩|⟨h5,h6⟩
 ·exact hrow
 ·exact Ob.ok_keep (Off.refl _ w) hO (h1.os i ob h6) (fun _ _ _=>rfl)
theorem Mt.hold{t:List (Nat × Sv)}{ob:List (Nat × Ob)}{a:Act}{w:World}(h:Mt Γ ⟨t,ob⟩ a w){j:Nat}{ty:TypeId}{x:DV}(hj:look ob j=some (.whole true ty x)):Mt Γ ⟨t,(j,.whole false ty x) :: ob⟩ a w:=by
 obtain⟨ρ,h1,h2⟩:=h
 have og:∀i y,look ((j,.whole false ty x) :: ob) i=some y→(i=j∧y=.whole false ty x)∨(i≠j∧look ob i=some y):=by
  intro i y hi
  rw[look_cons] at hi
  split at hi
  ·rename_i e;cases hi;exact .inl ⟨e,rfl⟩
  ·rename_i e;exact .inr ⟨e,hi⟩
 have hl:∀i,liveAt ((j,.whole false ty x) :: ob) i→i≠j∧liveAt ob i:=by
  rintro i ⟨y,h3,h4⟩
  rcases og i y h3 with⟨-, rfl⟩|⟨h5,h6⟩
  ·cases h4
  ·exact⟨h5,y,h6,h4⟩
 have hO:∀b,¬OO Γ.O0 ob ρ b→b < w.heap.size→¬OO Γ.O0 ((j,.whole false ty x) :: ob) ρ b:=fun b hb _=>OO_mono (π:=id) (fun i hi=>⟨(hl i hi).2,rfl⟩) hb
 have hjL:liveAt ob j:=⟨_,hj,rfl⟩
 refine⟨ρ,⟨fun i y hi=>?_,fun i i' b hne h3 h4=>h1.ap i i' b hne (hl i h3).2 (hl i' h4).2,fun i b h3=>h1.ge i b (hl i h3).2,h1.kp,h1.o0,h1.k0⟩,h2.df,fun i y hi=>Sv.rep_keep (Off.refl _ w) hO (h2.ts i y hi),h2.sz⟩
 rcases og i y hi with⟨rfl,rfl⟩|⟨h5,h6⟩
 ·obtain⟨g,vs,e,-, h3,h4⟩:=h1.os i _ hj
  refine⟨g,vs,e,fun _ h6=>?_,h3,DV.rep_keep (Off.refl _ w) hO x _ h4⟩
  have hb:blk (ρ i)=some g:=by rw[e];rfl
  rcases h6 with h6|⟨i',h7,h8⟩
  ·obtain⟨h9,h10⟩:=h1.o0 g h6
   rcases h1.ge i g hjL hb with h11|h11
   ·omega
   ·exact h10 h11
  ·exact h1.ap i' i g (hl i' h7).1 (hl i' h7).2 hjL h8 hb
 ·exact Ob.ok_keep (Off.refl _ w) hO (h1.os i y h6) (fun _ _ _=>rfl)
theorem PW.frz{c:Code}{R:Exit→St→Prop}(j:Nat){t k:Nat}{ni:Bool}{cs:List DV}(hj:look σ.o j=some (.buf t k ni cs))(h:PW Γ c R (σ.frz j (.sq true k cs))):PW Γ c R σ:=fun a w hM=>h a w (hM.frz hj)
end
end Go.Proofs.YtoibhnpmemnlfaaGreatDoor.Av
namespace Go.Proofs.YtoibhnpmemnlfaaGreatDoor.Av
open Go.RowKit Go.Proofs.YtoibhnpmemnlfaaGreatDoor.Gn Go.Deep
def St.add(σ:St)(J:Nat)(ob:Ob)(kill:Option Nat):St:=⟨σ.t,(J,ob) :: (match kill with|some j=>(j,.dead) :: σ.o|none=>σ.o)⟩
def updρ(ρ:Nat→Value)(j:Nat)(v:Value):Nat→Value:=fun i=>if i=j then v else ρ i
def Cl.nref(J:Nat):Cl→Bool
 |.own j=>!Nat.beq j J
 |.ptr j _=>!Nat.beq j J
 |_=>true
def Sv.nref(J:Nat):Sv→Bool
 |.c x=>x.nref J
 |.tp xs=>xs.all (Cl.nref J)
def Ob.nref(J:Nat):Ob→Bool
 |.var _ cs=>cs.all (Cl.nref J)
 |_=>true
def St.nref(σ:St)(J:Nat):Bool:=(σ.t.all fun e=>e.2.nref J) && (σ.o.all fun e=>!Nat.beq e.1 J && e.2.nref J)
section
variable {Γ:Ctx} {σ:St}
theorem beq_ne{i j:Nat}(h:(!Nat.beq i j)=true):i≠j:=by
 rintro rfl
 simp at h
theorem nref_rep{ρ:Nat→Value}{O O':Nat→Prop}{w w':World}(h:Off O w w')(hO:∀b,¬O b→b < w.heap.size→¬O' b){J:Nat}(v:Value){x:Cl}(hn:x.nref J=true){u:Value}(hx:x.rep ρ O w u):x.rep (updρ ρ J v) O' w' u:=by
 cases x with
 |own i=>exact⟨by rw[hx.1];simp[updρ,beq_ne hn],hx.2⟩
 |ptr i off=>obtain⟨g,h1,h2⟩:=hx;exact⟨g,by simpa[updρ,beq_ne hn] using h1,h2⟩
 |any=>trivial
 |dv x=>exact DV.rep_keep h hO x u hx
 |at_ x xs=>exact Cl.rep_keep h hO hx
theorem clr_nref{ρ:Nat→Value}{O O':Nat→Prop}{w w':World}(h:Off O w w')(hO:∀b,¬O b→b < w.heap.size→¬O' b){J:Nat}(v:Value){cs:List Cl}(hn:cs.all (Cl.nref J)=true){f:Nat→Value→Prop}(hx:clr ρ O w cs f):clr (updρ ρ J v) O' w' cs f:=fun i x hi=>by
 obtain⟨u,h1,h2⟩:=hx i x hi
 exact⟨u,h1,nref_rep h hO v (List.all_eq_true.1 hn x (List.mem_of_getElem? hi)) h2⟩
theorem Wt.swap{ρ:Nat→Value}{a:Act}{w w':World}(h1:Wt Γ σ.o ρ w)(h2:Ft Γ σ ρ a w)(J:Nat)(hJ:σ.nref J=true)(v:Value)(ob:Ob)(kill:Option Nat)(row:Option Nat)(hg:w.grownBy w' row)(hrow:∀b,row=some b→∃j,kill=some j∧liveAt σ.o j∧blk (ρ j)=some b)(hlv:ob.live=true)
  (hv:∀b,blk v=some b→row=some b∨w.heap.size≤b) (hob:∀O',Off (OO Γ.O0 σ.o ρ) w w'→(∀b,¬OO Γ.O0 σ.o ρ b→b < w.heap.size→¬O' b)→(∀b,O' b→OO Γ.O0 σ.o ρ b∨blk v=some b)→ob.ok (updρ ρ J v) O' w' J) :
  Wt Γ (σ.add J ob kill).o (updρ ρ J v) w'∧Ft Γ (σ.add J ob kill) (updρ ρ J v) a w':=by
 unfold St.nref at hJ
 rw[Bool.and_eq_true] at hJ
 have hno:∀i y,look σ.o i=some y→i≠J∧y.nref J=true:=fun i y hy=>by
  have:=List.all_eq_true.1 hJ.2 _ (look_mem hy)
  rw[Bool.and_eq_true] at this
  exact⟨beq_ne this.1,this.2⟩
 have og:∀i x,look (σ.add J ob kill).o i=some x→(i=J∧x=ob)∨(i≠J∧kill=some i∧x=.dead)∨(i≠J∧kill≠some i∧look σ.o i=some x):=by
  intro i x hi
  unfold St.add at hi
  rw[look_cons] at hi
  split at hi
  ·rename_i e;cases hi;exact .inl ⟨e,rfl⟩
  ·rename_i e
   cases kill with
   |none=>exact .inr (.inr ⟨e,by simp,hi⟩)
   |some j =>
    rw[look_cons] at hi
    split at hi
    ·rename_i e2;cases hi;exact .inr (.inl ⟨e,by rw[e2],rfl⟩)
    ·rename_i e2;exact .inr (.inr ⟨e,fun q=>e2 (by cases q;rfl),hi⟩)
 have hl:∀i,liveAt (σ.add J ob kill).o i→i=J∨(i≠J∧kill≠some i∧liveAt σ.o i):=by
  rintro i ⟨x,h3,h4⟩
  rcases og i x h3 with⟨h5,-⟩|⟨-, -, rfl⟩|⟨h5,h6,h7⟩
  ·exact .inl h5
  ·cases h4
  ·exact .inr ⟨h5,h6,x,h7,h4⟩
 have hoff:Off (OO Γ.O0 σ.o ρ) w w':=fun b hb hlt=>hg.block b hlt fun e=>by
  obtain⟨j,-, h3,h4⟩:=hrow b e.symm
  exact hb (.inr ⟨j,h3,h4⟩)
 have hO:∀b,¬OO Γ.O0 σ.o ρ b→b < w.heap.size→¬OO Γ.O0 (σ.add J ob kill).o (updρ ρ J v) b:=by
  rintro b hb hlt (h3|⟨i,h3,h4⟩)
  ·exact hb (.inl h3)
  ·rcases hl i h3 with rfl|⟨h5,-, h6⟩
   ·rw[show updρ ρ i v i=v by simp[updρ]] at h4
    rcases hv b h4 with h7|h7
    ·obtain⟨j,-, h8,h9⟩:=hrow b h7
     exact hb (.inr ⟨j,h8,h9⟩)
    ·omega
   ·rw[show updρ ρ J v i=ρ i by simp[updρ,h5]] at h4
    exact hb (.inr ⟨i,h6,h4⟩)
 have hX:∀b,row=some b→Γ.w0.heap.size≤b∨Γ.X b:=fun b hb=>by
  obtain⟨j,-, h3,h4⟩:=hrow b hb
  exact h1.ge j b h3 h4
 have sep:∀i b,kill≠some i→liveAt σ.o i→blk (ρ i)=some b→blk v≠some b:=by
  intro i b hne h3 h4 h5
  rcases hv b h5 with h6|h6
  ·obtain⟨j,hj,h7,h8⟩:=hrow b h6
   exact h1.ap i j b (fun e=>hne (by rw[e,hj])) h3 h7 h4 h8
  ·obtain⟨y,h7,h8⟩:=h3
   have:=Ob.ok_lt (h1.os i y h7) h8 h4
   omega
 refine⟨⟨fun i x hi=>?_,fun i i' b hne h3 h4 h5=>?_,fun i b h3 h4=>?_,h1.kp.grown hg hX,h1.o0,h1.k0⟩,h2.df,fun i x hi=>?_,h2.sz⟩
 ·rcases og i x hi with⟨rfl,rfl⟩|⟨-, -, rfl⟩|⟨h5,h6,hy⟩
  ·refine hob _ hoff hO ?_
   rintro b (h3|⟨j,h3,h4⟩)
   ·exact .inl (.inl h3)
   ·rcases hl j h3 with rfl|⟨h5,-, h6⟩
    ·rw[show updρ ρ j v j=v by simp[updρ]] at h4;exact .inr h4
    ·rw[show updρ ρ i v j=ρ j by simp[updρ,h5]] at h4;exact .inl (.inr ⟨j,h6,h4⟩)
  ·trivial
  ·have h7:=h1.os i x hy
   have hk:∀b,x.live=true→blk (ρ i)=some b→w'.heap[b]?=w.heap[b]?:=fun b hx hb=>hg.block b (Ob.ok_lt h7 hx hb) fun e=>by
    obtain⟨j,hj,h8,h9⟩:=hrow b e.symm
    exact h1.ap i j b (fun e=>h6 (by rw[e,hj])) ⟨x,hy,hx⟩ h8 hb h9
   have hρ:updρ ρ J v i=ρ i:=by simp[updρ,h5]
   cases x with
   |dead=>trivial
   |frz x =>
    have h7:x.rep (OO Γ.O0 σ.o ρ) w (ρ i):=h7
    exact(show x.rep _ w' (updρ ρ J v i) by rw[hρ];exact DV.rep_keep hoff hO x _ h7)
   |whole m t x =>
    obtain⟨g,vs,e1,e0,e2,e3⟩:=h7
    refine⟨g,vs,by rw[hρ,e1],fun hm=>hO g (e0 hm) e2.lt,?_,DV.rep_keep hoff hO x _ e3⟩
    cases m with
    |true=>exact(hk g rfl (by rw[e1];rfl)).trans e2
    |false=>exact(hoff g (e0 rfl) e2.lt).trans e2
   |var t cs =>
    obtain⟨g,vs,e1,e2,e3,e4⟩:=h7
    exact⟨g,vs,by rw[hρ,e1],(hk g rfl (by rw[e1];rfl)).trans e2,e3,clr_nref hoff hO v (hno i _ hy).2 e4⟩
   |buf t k ni cs =>
    obtain⟨n,vs,e1,e2,e3⟩:=h7
    refine⟨n,vs,?_,e2,DV.reps_keep hoff hO _ 0 _ _ e3 fun _ _ h=>h⟩
    rw[hρ]
    exact row_at e1 fun b hb=>hk b rfl hb
 ·rcases hl i h3 with rfl|⟨h6,h6',h7⟩
  ·rw[show updρ ρ i v i=v by simp[updρ]] at h5
   rcases hl i' h4 with rfl|⟨h8,h8',h9⟩
   ·exact absurd rfl hne
   ·rw[show updρ ρ i v i'=ρ i' by simp[updρ,h8]]
    exact fun h10=>sep i' b h8' h9 h10 h5
  ·rw[show updρ ρ J v i=ρ i by simp[updρ,h6]] at h5
   rcases hl i' h4 with rfl|⟨h8,h8',h9⟩
   ·rw[show updρ ρ i' v i'=v by simp[updρ]]
    exact sep i b h6' h7 h5
   ·rw[show updρ ρ J v i'=ρ i' by simp[updρ,h8]]
    exact h1.ap i i' b hne h7 h9 h5
 ·rcases hl i h3 with rfl|⟨h6,h6',h7⟩
  ·rw[show updρ ρ i v i=v by simp[updρ]] at h4
   rcases hv b h4 with h8|h8
   ·exact hX b h8
   ·have:=h1.kp.size;exact .inl (by omega)
  ·rw[show updρ ρ J v i=ρ i by simp[updρ,h6]] at h4
   exact h1.ge i b h7 h4
 ·have h8:=h2.ts i x hi
  have hn:=List.all_eq_true.1 hJ.1 _ (look_mem hi)
  cases x with
  |c x=>exact nref_rep hoff hO v hn h8
  |tp xs=>obtain⟨vs,e1,e2,e3⟩:=h8;exact⟨vs,e1,e2,clr_nref hoff hO v hn e3⟩
theorem Wt.store{ρ:Nat→Value}{a:Act}{w w':World}(h1:Wt Γ σ.o ρ w)(h2:Ft Γ σ ρ a w)(J g:Nat)(ob:Ob)(hJ:liveAt σ.o J)(hb:blk (ρ J)=some g)(hg:w.grownBy w' (some g))(hlv:ob.live=true)
  (hob:Off (OO Γ.O0 σ.o ρ) w w'→ob.ok ρ (OO Γ.O0 σ.o ρ) w' J):Wt Γ ((J,ob) :: σ.o) ρ w'∧Ft Γ ⟨σ.t,(J,ob) :: σ.o⟩ ρ a w':=by
 have hl:∀i,liveAt ((J,ob) :: σ.o) i↔liveAt σ.o i:=by
  intro i
  unfold liveAt
  rw[look_cons]
  split
  ·rename_i e;subst e
   exact⟨fun _=>hJ,fun _=>⟨ob,rfl,hlv⟩⟩
  ·exact Iff.rfl
 have hoff:Off (OO Γ.O0 σ.o ρ) w w':=fun b hb' hlt=>hg.block b hlt fun e=>by
  cases e;exact hb' (.inr ⟨J,hJ,hb⟩)
 have hOO:OO Γ.O0 ((J,ob) :: σ.o) ρ=OO Γ.O0 σ.o ρ:=funext fun b=>propext (by unfold OO;simp only[hl])
 refine⟨⟨fun i x hi=>?_,fun i i' b hne h3 h4=>h1.ap i i' b hne ((hl i).1 h3) ((hl i').1 h4),fun i b h3=>h1.ge i b ((hl i).1 h3),h1.kp.grown hg (fun b e=>by cases e;exact h1.ge J g hJ hb),h1.o0,h1.k0⟩,h2.df,fun i x hi=>?_,h2.sz⟩
 ·rw[hOO]
  rw[look_cons] at hi
  split at hi
  ·rename_i e;subst e;cases hi;exact hob hoff
  ·rename_i e
   refine Ob.ok_keep hoff (fun _ h _=>h) (h1.os i x hi) fun b hx hb'=>hg.block b (Ob.ok_lt (h1.os i x hi) hx hb') fun e2=>?_
   cases e2
   exact h1.ap i J g e ⟨x,hi,hx⟩ hJ hb' hb
 ·rw[show(⟨σ.t,(J,ob) :: σ.o⟩:St).o=(J,ob) :: σ.o from rfl,hOO]
  exact Sv.rep_keep hoff (fun _ h _=>h) (h2.ts i x hi)
end
end Go.Proofs.YtoibhnpmemnlfaaGreatDoor.Av
