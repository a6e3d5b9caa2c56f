/- Joined texts. -/
import Derived.Deep.Cut
import Derived.IntWalk
import Derived.Test.YtbgkdbjineennaaQcGnStep
set_option linter.unusedVariables false
namespace Go.Proofs.Ytbgkdbjineennaa.Dk
structure M where
 ss:List (List Nat)
 hd:List (Nat × List Nat)
 up:Bool
 st:Nat
 cut:Option (Nat × List Bool)
 cp:Nat
 tl:List Value
def sett(f:Nat→Bool):Nat→List (Nat × List Nat)→List (List Nat)→List (List Nat)
 |_,[],ss=>ss
 |i,h :: t,ss=>sett f (i+1) t (if f i=true then ss.set h.1 h.2 else ss)
def chosen(c:List Bool)(i:Nat):Bool:=(c.take 4096).getD i false
def M.lose(m:M)(c:List Bool):M:=if m.up=true then{ m with ss:=sett (chosen c) 0 m.hd m.ss,hd:=[],up:=false } else m
def M.tick(m:M):M:={ m with st:=m.st+1 }
def M.stroke(m:M):Nat × M :=
 match m.cut with
 |none=>(0,m.tick)
 |some (k+1,c)=>(0,{ m.tick with cut:=some (k,c) })
 |some (0,c)=>(60,m.tick.lose c)
def M.ready(m:M):Nat:=if m.up=true then 0 else 60
def M.reach(m:M)(a:Int):Nat:=if m.up=true then(if a < 0∨(m.ss.length:Int)≤a then 61 else 0) else 60
def M.hold(m:M)(p:Nat)(b:List Nat):M:={ m with hd:=m.hd ++ [(p,b)] }
def M.write(m:M)(a:Int)(b:List Nat):Nat × M :=
 if m.reach a=0 then(if b.length=64 then(m.hold a.toNat b).stroke else(1,m)) else(m.reach a,m)
def M.settle(m:M):M:={ m with ss:=sett (fun _=>true) 0 m.hd m.ss,hd:=[] }
def M.flush(m:M):Nat × M :=
 if m.up=true then(if m.stroke.1=0 then(0,m.stroke.2.settle) else m.stroke) else(60,m)
def M.set(m:M)(k:Int)(c:List Bool):Nat × M:=if k < 0 then(1,m) else if 4096 < c.length then(2,m) else(0,{ m with cut:=some (k.toNat,c) })
def M.start(m:M):M:={ m with up:=true,cut:=none }
def M.at_(m:M)(p:Nat):List Nat:=((m.hd.reverse.find? fun h=>h.1 == p).map (·.2)).getD (m.ss.getD p [])
def M.span(m:M)(a n:Int):Nat:=if a < 0∨(m.ss.length:Int) < a then 61 else if((m.ss.length:Int) - a)*64 < n then 61 else 0
def M.rows(m:M):Nat→Nat→List Nat
 |_,0=>[]
 |p,k+1=>m.at_ p ++ m.rows (p+1) k
def pad(b:List Nat):List Nat:=b.take 64 ++ List.replicate (64 - b.length) 0
def M.saves:Nat→M→Nat→List Nat→Nat × M
 |0,m,_,_=>(0,m)
 |f+1,m,p,b=>if b=[] then(0,m) else if(m.write p (pad b)).1=0 then M.saves f (m.write p (pad b)).2 (p+1) (b.drop 64) else m.write p (pad b)
def M.save(m:M)(a:Int)(b:List Nat):Nat × M :=
 if m.up=true then(if m.span a b.length=0 then M.saves (b.length+1) m a.toNat b else(61,m)) else(60,m)
structure M.Ok (m:M):Prop where
 row:∀s∈m.ss,s.length=64
 at_:∀h∈m.hd,h.1 < m.ss.length
 long:∀h∈m.hd,h.2.length=64
 cpn:64*m.ss.length≤m.cp
theorem pad_length(b:List Nat):(pad b).length=64:=by
 simp only[pad,List.length_append,List.length_take,List.length_replicate];omega
theorem sett_length(f:Nat→Bool)(h:List (Nat × List Nat)):∀(i:Nat) (ss:List (List Nat)),(sett f i h ss).length=ss.length:=by
 induction h with
 |nil=>intro i ss;rfl
 |cons h t ih =>
  intro i ss
  rw[sett,ih]
  split
  ·rw[List.length_set]
  ·rfl
theorem sett_row(f:Nat→Bool)(h:List (Nat × List Nat)):∀(i:Nat) (ss:List (List Nat)),(∀s∈ss,s.length=64)→(∀x∈h,x.2.length=64)→∀s∈sett f i h ss,s.length=64:=by
 induction h with
 |nil=>intro i ss h1 h2;exact h1
 |cons h t ih =>
  intro i ss h1 h2
  rw[sett]
  refine ih _ _ ?_ (fun x hx=>h2 x (List.mem_cons_of_mem _ hx))
  intro s hs
  split at hs
  ·rcases List.mem_or_eq_of_mem_set hs with h|rfl
   ·exact h1 s h
   ·exact h2 _ (List.mem_cons_self ..)
  ·exact h1 s hs
theorem M.Ok.hold{m:M}(h:m.Ok){p:Nat}{b:List Nat}(hp:p < m.ss.length)(hb:b.length=64):(m.hold p b).Ok:=by
 refine⟨h.row,?_,?_,h.cpn⟩
 ·intro x hx
  simp only[M.hold,List.mem_append,List.mem_singleton] at hx
  rcases hx with hx|rfl
  ·exact h.at_ x hx
  ·exact hp
 ·intro x hx
  simp only[M.hold,List.mem_append,List.mem_singleton] at hx
  rcases hx with hx|rfl
  ·exact h.long x hx
  ·exact hb
theorem M.reach_ok{m:M}{a:Int}(h:m.reach a=0):m.up=true∧0≤a∧a < m.ss.length:=by
 unfold M.reach at h
 split at h
 ·rename_i hu
  split at h
  ·cases h
  ·exact⟨hu,by omega,by omega⟩
 ·cases h
theorem M.lose_size(m:M)(c:List Bool):(m.lose c).ss.length=m.ss.length:=by
 unfold M.lose
 split
 ·exact sett_length _ _ _ _
 ·rfl
theorem M.stroke_size(m:M):m.stroke.2.ss.length=m.ss.length:=by
 unfold M.stroke
 split
 ·rfl
 ·rfl
 ·exact M.lose_size _ _
theorem M.write_size(m:M)(a:Int)(b:List Nat):(m.write a b).2.ss.length=m.ss.length:=by
 unfold M.write
 split
 ·split
  ·exact M.stroke_size _
  ·rfl
 ·rfl
theorem M.stroke_none{m:M}(h:m.cut=none):m.stroke=(0,m.tick):=by
 unfold M.stroke;rw[h]
end Go.Proofs.Ytbgkdbjineennaa.Dk
