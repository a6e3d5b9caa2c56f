/- Joined texts. -/
import Derived.OwnWalk
import Derived.Test.YtnnfpmebopgogaaDoorQrGnFreeB
import Derived.Test.YtnnfpmebopgogaaDoorQrGnFreeIn
set_option linter.unusedVariables false
namespace Go.Proofs.YtnnfpmebopgogaaDoor.Gn
open Go.RowKit Go.Deep
section
variable {P:Program}
theorem want{o:Oper}(h:o.guard=none)(y:Nat→Option Bool){p q:Prop}(hp:p):if Region.wanted o y=true then p else q:=by
 rw[if_pos (by unfold Region.wanted;rw[h])];exact hp
theorem wp_append_fits{o:Oper}{a:Act}{w:World}{K:Act→World→Prop}{Q:Exit→Act→World→Prop}(s x:Operand)(t:TypeId)(ho:o.op=.call { callee:=.builtin .append,args:=#[s,x],argTypes:=#[t,t] })
  (base:Nat) (e:TypeId) (i:TypeInfo) (size:Nat) (h1:P.underlying t=some (.slice e)) (h2:P.info? e=some i) (h4:i.size=size)
  (g k cap:Nat) (xs:List Value) (hs:a.eval s=.slice (some ⟨g,0,none⟩) k cap) (hown:w.ownsRow base e size (.slice (some ⟨g,0,none⟩) k cap) k xs) (ad:Addr) (m c:Nat) (news:List Value) (hx:a.eval x=.slice (some ad) m c) (hn:news.length=m*size)
  (hc:∀j u,news[j]?=some u→w.cell? (ad.add j)=some u) (h1c:∀u∈news,u.oneCell'=true) (b1:k+m≤cap)
  (hK:∀w',w'.ownsRow base e size (.slice (some ⟨g,0,none⟩) (k+m) cap) (k+m) (xs ++ news)→w.grownBy w' (some g)→K (a.put o.dst (.slice (some ⟨g,0,none⟩) (k+m) cap)) w'):o.wp P a w K Q:=by
 obtain⟨w',hrun,r1,r2⟩:=run_append_fits (P:=P) w base t o.type e i size h1 h2 h4 g k cap xs hown ad m c news hn hc h1c b1
 unfold Oper.wp
 simp[execOp,ho,resolve,invoke,builtin,hs,hx,hrun,Result.andThen]
 exact hK w' r1 r2
theorem run_store_op{op:Oper}{a:Act}{w:World}(ty:TypeId)(x y:Operand)(ho:op.op=.store ty x y)(g:Nat)(hx:a.eval x=.pointer (some ⟨g,0,none⟩))(v:Value)(hy:a.eval y=v)(u:Value)(t:TypeId)(hb:Bl w g t #[u])
  (hi:(P.info? ty).map (·.size)=some 1) (h1:v.oneCell'=true):(execOp a.eval op).run P w=.ok .skip (w.setCell ⟨g,0,none⟩ v):=by
 have hc:w.cell? ⟨g,0,none⟩=some u:=hb.cell_ (i:=0) rfl
 have hf:w.frozen? ⟨g,0,none⟩=false:=hb.frozen 0
 have hv:v.cells = #[v]:=by cases v <;> first|rfl|cases h1
 obtain⟨i,h2,h3⟩:∃i,P.info? ty=some i∧i.size=1:=by
  cases e:P.info? ty with
  |none=>rw[e] at hi;cases hi
  |some i=>rw[e] at hi;exact⟨i,rfl,by simpa using hi⟩
 have hs:=run_store P w ⟨g,0,none⟩ v .plain h1
 rw[hc] at hs
 simp only[hf] at hs
 simp[execOp,ho,hx,hy,Instr.storeAt,Instr.sureAddr,storeVar,hv,sizeOf,typeInfo,h2,h3,storeCells]
 rw[show(⟨g,0,none⟩:Addr).add 0=⟨g,0,none⟩ from rfl,hs]
 rfl
section
variable {ops:Array Oper} {a:Act} {T:Nat→Value→World→Prop} {J:(Nat→Bool)→(Nat→Value)→World→Prop} {Chg:World→World→Prop} {i:Nat} {o:Oper}
structure OX (P:Program) (ops:Array Oper) (a:Act) (T:Nat→Value→World→Prop) (J:(Nat→Bool)→(Nat→Value)→World→Prop) (Chg:World→World→Prop) (i:Nat) (o:Oper):Prop where
 out:Owes P ops a T J Chg i o
theorem each_ox{l:List Oper}:∀ {k:Nat},Each l k (OX P ops a T J Chg)→Each l k (Owes P ops a T J Chg):=by
 induction l with
 |nil=>intro k _;trivial
 |cons o l ih=>intro k h;exact⟨h.1.out,ih h.2⟩
theorem OX.cell(ad:Addr)(v:Value)(ty:TypeId)(x:Operand){d:TypeDesc}(hg:o.guard=none)(ho:o.op=.load ty x)(hx:∀γ,(fr ops a γ).eval x=.pointer (some ad))(hu:P.underlying ty=some d)(hd:d.isRow=false)
  (hc:∀(L:Nat→Bool) (γ:Nat→Value) (w:World),L i=false→(∀j o',ops[j]?=some o'→L j=true→∀d,dep o' d=true→L d=true)→J L γ w→w.cell? ad=some v)
  (hT:∀w,T i v w) (hJ:∀(L:Nat→Bool) (γ:Nat→Value) (w:World),L i=false→J L γ w→J (fun j=>if j=i then true else L j) (upd γ i v) w) (hC:∀w,Chg w w):OX P ops a T J Chg i o:=by
 refine⟨fun Q K L γ w hLi hdep hcl hun hJ0 hd0 hK=>?_⟩
 refine want hg _ ?_
 exact wp_val (run_cell_op ty x ho ad (hx γ) v (hc L γ w hLi hcl hJ0) d hu hd) (hK v w (hT w) (hJ L γ w hLi hJ0) (hC w))
theorem OX.store(g:Nat)(v:Value)(ty:TypeId)(x y:Operand)(hg:o.guard=none)(ho:o.op=.store ty x y)(hx:∀γ,(fr ops a γ).eval x=.pointer (some ⟨g,0,none⟩))(hi:(P.info? ty).map (·.size)=some 1)(h1:v.oneCell'=true)
  (hy:∀(γ:Nat→Value) (w:World),(∀j,dep o j=true→T j (γ j) w)→(fr ops a γ).eval y=v)
  (hb:∀(L:Nat→Bool) (γ:Nat→Value) (w:World),L i=false→J L γ w→∃u t,Bl w g t #[u])
  (hT:∀w,T i undef w) (hJ:∀(L:Nat→Bool) (γ:Nat→Value) (w:World),L i=false→(∀j,dep o j=true→L j=true)→J L γ w→J (fun j=>if j=i then true else L j) (upd γ i undef) (w.setCell ⟨g,0,none⟩ v)) (hC:∀w w',Chg w w'):OX P ops a T J Chg i o:=by
 refine⟨fun Q K L γ w hLi hdep hcl hun hJ0 hd0 hK=>?_⟩
 refine want hg _ ?_
 obtain⟨u,t,hbl⟩:=hb L γ w hLi hJ0
 exact Gn.wp_skip (run_store_op ty x y ho g (hx γ) v (hy γ w hd0) u t hbl hi h1) (hK undef _ (hT _) (hJ L γ w hLi hdep hJ0) (hC _ _))
end
end
end Go.Proofs.YtnnfpmebopgogaaDoor.Gn
