/- Joined texts. -/
import Derived.RangeFuncOwn
import Derived.RangeFuncCalls
import Derived.OrdersIn
import Derived.ControlIn
import Derived.OwnWalk
import Derived.Test.YteblmphohhbgcaaQaGnB
import Derived.Deep.MidRow
import Derived.Great.BuildSlice
import Derived.Maps.AppendAt
import Derived.Test.YteblmphohhbgcaaQaMtN
set_option linter.unusedVariables false
namespace Go.Proofs.Yteblmphohhbgcaa.Gn
open Go.RowKit Go.Deep
section
variable {P:Program}
theorem want{o:Oper}(h:o.guard=none)(y:Nat→Option Bool){p q:Prop}(hp:p):if Region.wanted o y=true then p else q:=by
 rw[if_pos (by unfold Region.wanted;rw[h])];exact hp
section
variable {ops:Array Oper} {a:Act} {T:Nat→Value→World→Prop} {J:(Nat→Bool)→(Nat→Value)→World→Prop} {Chg:World→World→Prop} {i:Nat} {o:Oper}
structure OX (P:Program) (ops:Array Oper) (a:Act) (T:Nat→Value→World→Prop) (J:(Nat→Bool)→(Nat→Value)→World→Prop) (Chg:World→World→Prop) (i:Nat) (o:Oper):Prop where
 out:Owes P ops a T J Chg i o
theorem each_ox{l:List Oper}:∀ {k:Nat},Each l k (OX P ops a T J Chg)→Each l k (Owes P ops a T J Chg):=by
 induction l with
 |nil=>intro k _;trivial
 |cons o l ih=>intro k h;exact⟨h.1.out,ih h.2⟩
end
end
end Go.Proofs.Yteblmphohhbgcaa.Gn
namespace Go.Proofs.Yteblmphohhbgcaa.Gn
open Go.IntWalk Go.RowKit Go.Deep
section
variable {P:Program}
theorem run_store_at{op:Oper}{a:Act}{w:World}(ty:TypeId)(x y:Operand)(ho:op.op=.store ty x y)(g k:Nat)(hx:a.eval x=.pointer (some ⟨g,k,none⟩))(v:Value)(hy:a.eval y=v)(u:Value)(hc:w.cell? ⟨g,k,none⟩=some u)(hf:w.frozen? ⟨g,k,none⟩=false)
  (hi:(P.info? ty).map (·.size)=some 1) (h1:v.oneCell'=true):(execOp a.eval op).run P w=.ok .skip (w.setCell ⟨g,k,none⟩ v):=by
 have hv:v.cells = #[v]:=by cases v <;> first|rfl|cases h1
 obtain⟨i,h2,h3⟩:∃i,P.info? ty=some i∧i.size=1:=by
  cases e:P.info? ty with
  |none=>rw[e] at hi;cases hi
  |some i=>rw[e] at hi;exact⟨i,rfl,by simpa using hi⟩
 have hs:=run_store P w ⟨g,k,none⟩ v .plain h1
 rw[hc] at hs
 simp only[hf] at hs
 simp[execOp,ho,hx,hy,Instr.storeAt,Instr.sureAddr,storeVar,hv,sizeOf,typeInfo,h2,h3,storeCells]
 rw[show(⟨g,k,none⟩:Addr).add 0=⟨g,k,none⟩ from rfl,hs]
 rfl
theorem run_append_op{o:Oper}{a:Act}{w:World}(s x:Operand)(t:TypeId)(ho:o.op=.call { callee:=.builtin .append,args:=#[s,x],argTypes:=#[t,t] })(v u v':Value)(w':World)
  (hs:a.eval s=v) (hx:a.eval x=u) (hr:(Builtin.append_ #[t,t] o.type #[v,u]).run P w=.ok v' w'):(execOp a.eval o).run P w=.ok (.value v') w':=by
 simp[execOp,ho,resolve,invoke,builtin,hs,hx,hr,Result.andThen]
theorem run_build_op{o:Oper}{a:Act}{w:World}(t e:TypeId)(x:Operand)(ho:o.op=.buildSlice t 1 #[(0,x)])(vs:Array Value)(hx:a.eval x=.agg vs)
  (cells:Array Value) (ie:TypeInfo) (z:Value)
  (hu:P.underlying t=some (.slice e)) (hie:P.info? e=some ie) (hz:ie.zero=some z) (hsmall:¬1*ie.size > 2 ^ 24) (hpos:¬1*ie.size=0)
  (hf:Instr.fill (fun i=>some (i*ie.size,ie.size)) ((Array.range (1*ie.size)).map (z.cells[· % z.cells.size]!)) [(0,.agg vs)]=some cells):(execOp a.eval o).run P w=.ok (.value (.slice (some ⟨w.heap.size,0,none⟩) 1 1)) (w.alloc (.cells cells e)):=by
 unfold execOp
 rw[ho]
 simp only[List.map_toArray,List.map_cons,List.map_nil,hx]
 simp[run_buildSlice w t e 1 #[(0,.agg vs)] cells ie z hu hie hz hsmall hpos hf]
section
variable {ops:Array Oper} {a:Act} {T:Nat→Value→World→Prop} {J:(Nat→Bool)→(Nat→Value)→World→Prop} {Chg:World→World→Prop} {i:Nat} {o:Oper}
theorem OX.val(v:Value)(hg:o.guard=none)(hrun:∀(L:Nat→Bool) (γ:Nat→Value) (w:World),L i=false→(∀j o',ops[j]?=some o'→L j=true→∀d,dep o' d=true→L d=true)→J L γ w→(∀j,dep o j=true→T j (γ j) w)→(execOp (fr ops a γ).eval o).run P w=.ok (.value v) w)
  (hT:∀w,T i v w) (hJ:∀(L:Nat→Bool) (γ:Nat→Value) (w:World),L i=false→J L γ w→J (fun j=>if j=i then true else L j) (upd γ i v) w) (hC:∀w,Chg w w):OX P ops a T J Chg i o :=
 ⟨fun Q K L γ w hLi hdep hcl hun hJ0 hd0 hK=>want hg _ (wp_val (hrun L γ w hLi hcl hJ0 hd0) (hK v w (hT w) (hJ L γ w hLi hJ0) (hC w)))⟩
theorem OX.new(hg:o.guard=none)(hrun:∀(L:Nat→Bool) (γ:Nat→Value) (w:World),L i=false→(∀j,dep o j=true→L j=true)→J L γ w→(∀j,dep o j=true→T j (γ j) w)→∃v w',(execOp (fr ops a γ).eval o).run P w=.ok (.value v) w'∧T i v w'∧J (fun j=>if j=i then true else L j) (upd γ i v) w'∧Chg w w'):OX P ops a T J Chg i o :=
 ⟨fun Q K L γ w hLi hdep hcl hun hJ0 hd0 hK=>by
  obtain⟨v,w',h1,h2,h3,h4⟩:=hrun L γ w hLi hdep hJ0 hd0
  exact want hg _ (wp_val h1 (hK v w' h2 h3 h4))⟩
theorem OX.skip(hg:o.guard=none)(hrun:∀(L:Nat→Bool) (γ:Nat→Value) (w:World),L i=false→(∀j,dep o j=true→L j=true)→J L γ w→(∀j,dep o j=true→T j (γ j) w)→∃w',(execOp (fr ops a γ).eval o).run P w=.ok .skip w'∧T i undef w'∧J (fun j=>if j=i then true else L j) (upd γ i undef) w'∧Chg w w'):OX P ops a T J Chg i o :=
 ⟨fun Q K L γ w hLi hdep hcl hun hJ0 hd0 hK=>by
  obtain⟨w',h1,h2,h3,h4⟩:=hrun L γ w hLi hdep hJ0 hd0
  exact want hg _ (Gn.wp_skip h1 (hK undef w' h2 h3 h4))⟩
end
theorem run_nil_op{op:Oper}{a:Act}{w:World}(x:Operand)(ho:op.op=.nilCheck x)(ad:Addr)(hx:a.eval x=.pointer (some ad)):(execOp a.eval op).run P w=.ok (.value (.pointer (some ad))) w:=by
 unfold execOp
 rw[ho]
 simp only[hx]
 rfl
theorem run_ix_op{o:Oper}{a:Act}{w:World}(T:TypeId)(x y:Operand)(ho:o.op=.indexAddr T x y)(vx vy v:Value)(hx:a.eval x=vx)(hy:a.eval y=vy)
  (h:(Instr.indexAt T vx vy).run P w=.ok v w):(execOp a.eval o).run P w=.ok (.value v) w:=by
 unfold execOp
 simp only[ho,hx,hy,Sem.run_bind,Result.andThen_ok,h,Sem.run_pure]
theorem run_len_op{o:Oper}{a:Act}{w:World}(x:Operand)(t:TypeId)(ho:o.op=.call { callee:=.builtin .len,args:=#[x],argTypes:=#[t] })(v u:Value)(hx:a.eval x=v)(h:(Builtin.len_ #[t] o.type #[v]).run P w=.ok u w):(execOp a.eval o).run P w=.ok (.value u) w:=by
 simp[execOp,ho,resolve,invoke,builtin,hx,h,Result.andThen]
theorem run_store_row{op:Oper}{a:Act}{w w':World}(ty:TypeId)(x y:Operand)(ho:op.op=.store ty x y)(ad:Addr)(hx:a.eval x=.pointer (some ad))(vs:Array Value)(hy:a.eval y=.agg vs)(n:Nat)(hn:vs.size=n)
  (hi:(P.info? ty).map (·.size)=some n) (hr:(storeCells ad vs.toList).run P w=.ok () w'):(execOp a.eval op).run P w=.ok .skip w':=by
 obtain⟨i,h2,h3⟩:∃i,P.info? ty=some i∧i.size=n:=by
  cases e:P.info? ty with
  |none=>rw[e] at hi;cases hi
  |some i=>rw[e] at hi;exact⟨i,rfl,by simpa using hi⟩
 simp[execOp,ho,hx,hy,Instr.storeAt,Instr.sureAddr,storeVar,Value.cells,sizeOf,typeInfo,h2,h3,hn,hr]
section
variable {ops:Array Oper} {a:Act} {T:Nat→Value→World→Prop} {J:(Nat→Bool)→(Nat→Value)→World→Prop} {Chg:World→World→Prop} {i:Nat} {o:Oper}
theorem OX.callx(hg:o.guard=none)(hrun:∀(L:Nat→Bool) (γ:Nat→Value) (w:World),L i=false→(∀j,dep o j=true→L j=true)→J L γ w→(∀j,dep o j=true→T j (γ j) w)→∃f args,(execOp (fr ops a γ).eval o).run P w=.ok (.enter f args) w∧Calls P f args w fun e w'=>∃v,e=.returned v∧T i v w'∧J (fun j=>if j=i then true else L j) (upd γ i v) w'∧Chg w w'):OX P ops a T J Chg i o :=
 ⟨fun Q K L γ w hLi hdep hcl hun hJ0 hd0 hK=>by
  obtain⟨f,args,h1,h2⟩:=hrun L γ w hLi hdep hJ0 hd0
  refine want hg _ (wp_enter h1 (h2.mono ?_))
  rintro e w' ⟨v,rfl,h3,h4,h5⟩
  exact⟨_,rfl,hK v w' h3 h4 h5⟩⟩
end
end
def WT(sp:List (Option Value))(i:Nat)(v:Value):Prop:=∀u,sp[i]?=some (some u)→v=u
theorem WT.is{sp:List (Option Value)}{i:Nat}{v u:Value}(h:WT sp i v)(hu:sp[i]?=some (some u)):v=u:=h u hu
theorem WT.has{sp:List (Option Value)}{i:Nat}{v:Value}(hu:sp[i]?=some (some v)):WT sp i v:=fun u h=>by rw[hu] at h;cases h;rfl
theorem WT.no{sp:List (Option Value)}{i:Nat}{v:Value}(hu:sp[i]?=some none):WT sp i v:=fun u h=>by rw[hu] at h;cases h
theorem off'{b:Bool}(h:b=true→False):b=false:=by cases b;rfl;exact(h rfl).elim
end Go.Proofs.Yteblmphohhbgcaa.Gn
namespace Go.Proofs.Yteblmphohhbgcaa.Mt
open Go.RowKit Go.Proofs.Yteblmphohhbgcaa.Gn Go.Proofs.Yteblmphohhbgcaa.Fd Go.Proofs.Yteblmphohhbgcaa.Wr Go.Deep
theorem run_made_op{op:Oper}{a:Act}{w:World}(x:Operand)(ho:op.op=.fieldAddr 94 x 1)(g:Nat)(hx:a.eval x=.pointer (some ⟨g,0,none⟩)):(execOp a.eval op).run Try.prog w=.ok (.value (.pointer (some ⟨g,1,none⟩))) w:=by
 unfold execOp
 rw[ho]
 simp only[hx]
 kernel_rfl
theorem run_u64_op{op:Oper}{a:Act}{w:World}(x:Operand)(ho:op.op=.convert 2 77 x)(n:Int)(hx:a.eval x=.int .i64 n):(execOp a.eval op).run Try.prog w=.ok (.value (.int .u64 (IntKind.u64.wrap n))) w:=by
 unfold execOp
 rw[ho]
 simp only[hx]
 kernel_rfl
theorem len_run(w:World)(A:Option Addr)(n c:Nat)(ty:TypeId):(Builtin.len_ #[78] ty #[.slice A n c]).run Try.prog w=.ok (.int .i64 (n:Int)) w:=by
 kernel_rfl
theorem ix_run(w:World)(q n c k:Nat)(h:k < n):(Instr.indexAt 78 (.slice (some ⟨q,0,none⟩) n c) (.int .i64 (k:Int))).run Try.prog w=.ok (.pointer (some ⟨q,k*4,none⟩)) w:=by
 go_simp
theorem fill_nz:∀n:Nat,n=4→Instr.fill (fun i=>some (i*n,n)) ((Array.range (1*n)).map ((Value.agg nz.toArray).cells[· % (Value.agg nz.toArray).cells.size]!)) [(0,.agg nz.toArray)]=some nz.toArray:=by
 intro n h;subst h;kernel_rfl
def JP(d:Nat)(P:Tv→Prop)(w:World)(lo g:Nat)(wr:Bool)(K:Nat)(ks:List Tv)(T:Value)(L:Nat→Bool)(γ:Nat→Value)(W:World):Prop :=
 PJ P w lo g wr K ks T (L (7+d)) (L (9+d)) (L (10+d)) (L (11+d)) (L (12+d)) (L (15+d)) (γ (7+d)) (γ (9+d)) (γ (10+d)) (γ (11+d)) W
section
variable {d:Nat} {P:Tv→Prop} {w:World} {lo g:Nat} {wr:Bool} {K:Nat} {ks:List Tv} {T:Value} {L:Nat→Bool} {γ:Nat→Value} {W:World}
theorem JP.mark(h:JP d P w lo g wr K ks T L γ W)(i:Nat)(v:Value)(hi:i < 7+d∨i=8+d∨i=13+d∨i=14+d):JP d P w lo g wr K ks T (fun j=>if j=i then true else L j) (upd γ i v) W:=by
 unfold JP at *
 simp only[upd,if_neg (show ¬7+d=i by omega),if_neg (show ¬9+d=i by omega),if_neg (show ¬10+d=i by omega),if_neg (show ¬11+d=i by omega),if_neg (show ¬12+d=i by omega),if_neg (show ¬15+d=i by omega)]
 exact h
theorem JP.called(h:JP d P w lo g wr K ks T L γ W)(hL:L (7+d)=false){W':World}(hb:Below W.heap.size W W'){t:Tv}(hP:P t)(hok:Ok W' t)(hl:lies (fun k=>W.heap.size≤k) t):JP d P w lo g wr K ks T (fun j=>if j=7+d then true else L j) (upd γ (7+d) t.val) W':=by
 unfold JP at *
 rw[hL] at h
 have k:=h.called hb hP hok hl
 simp only[upd,if_true,if_neg (show ¬9+d=7+d by omega),if_neg (show ¬10+d=7+d by omega),if_neg (show ¬11+d=7+d by omega),if_neg (show ¬12+d=7+d by omega),if_neg (show ¬15+d=7+d by omega)]
 exact k
theorem JP.built(h:JP d P w lo g wr K ks T L γ W)(hL:L (9+d)=false):JP d P w lo g wr K ks T (fun j=>if j=9+d then true else L j) (upd γ (9+d) (.slice (some ⟨W.heap.size,0,none⟩) 1 1)) (W.alloc (.cells nz.toArray 80)):=by
 unfold JP at *
 rw[hL] at h
 have k:=h.built
 simp only[upd,if_true,if_neg (show ¬7+d=9+d by omega),if_neg (show ¬10+d=9+d by omega),if_neg (show ¬11+d=9+d by omega),if_neg (show ¬12+d=9+d by omega),if_neg (show ¬15+d=9+d by omega)]
 exact k
theorem JP.appended(h:JP d P w lo g wr K ks T L γ W)(hL:L (10+d)=false)(h9:L (9+d)=true)(hn:ks.length≤1000000):∃z v' w',γ (9+d)=.slice (some ⟨z,0,none⟩) 1 1∧(Builtin.append_ #[78,78] 78 #[T,.slice (some ⟨z,0,none⟩) 1 1]).run Try.prog W=.ok v' w'∧JP d P w lo g wr K ks T (fun j=>if j=10+d then true else L j) (upd γ (10+d) v') w':=by
 unfold JP at *
 rw[hL,h9] at h
 obtain⟨z,v',w',h1,h2,k⟩:=h.appended hn
 refine⟨z,v',w',h1,h2,?_⟩
 simp only[upd,if_true,if_neg (show ¬7+d=10+d by omega),if_neg (show ¬9+d=10+d by omega),if_neg (show ¬11+d=10+d by omega),if_neg (show ¬12+d=10+d by omega),if_neg (show ¬15+d=10+d by omega),h9]
 exact k
theorem JP.indexed(h:JP d P w lo g wr K ks T L γ W)(hL:L (11+d)=false)(h10:L (10+d)=true):∃q cap,γ (10+d)=.slice (some ⟨q,0,none⟩) (ks.length+1) cap∧JP d P w lo g wr K ks T (fun j=>if j=11+d then true else L j) (upd γ (11+d) (.pointer (some ⟨q,ks.length*4,none⟩))) W:=by
 unfold JP at *
 rw[hL,h10] at h
 obtain⟨q,cap,h1,k⟩:=h.indexed
 refine⟨q,cap,h1,?_⟩
 simp only[upd,if_true,if_neg (show ¬7+d=11+d by omega),if_neg (show ¬9+d=11+d by omega),if_neg (show ¬10+d=11+d by omega),if_neg (show ¬12+d=11+d by omega),if_neg (show ¬15+d=11+d by omega),h10]
 exact k
theorem JP.stored(h:JP d P w lo g wr K ks T L γ W)(hL:L (12+d)=false)(h11:L (11+d)=true)(h7:L (7+d)=true)(v:Value):∃(t:Tv) (q:Nat) (w':World),γ (7+d)=t.val∧γ (11+d)=.pointer (some ⟨q,ks.length*4,none⟩)∧(storeCells ⟨q,ks.length*4,none⟩ t.row).run Try.prog W=.ok () w'∧JP d P w lo g wr K ks T (fun j=>if j=12+d then true else L j) (upd γ (12+d) v) w':=by
 unfold JP at *
 rw[hL,h11] at h
 obtain⟨t,q,w',h1,h2,h3,k⟩:=h.stored h7
 refine⟨t,q,w',h1,h2,h3,?_⟩
 simp only[upd,if_true,if_neg (show ¬7+d=12+d by omega),if_neg (show ¬9+d=12+d by omega),if_neg (show ¬10+d=12+d by omega),if_neg (show ¬11+d=12+d by omega),if_neg (show ¬15+d=12+d by omega),h11]
 exact k
theorem JP.cell1(h:JP d P w lo g wr K ks T L γ W)(hL:L (15+d)=false):W.cell? ⟨g,1,none⟩=some T∧W.frozen? ⟨g,1,none⟩=false:=by
 unfold JP at h
 rw[hL] at h
 exact h.cell1
theorem JP.field(h:JP d P w lo g wr K ks T L γ W)(hL:L (15+d)=false)(h10:L (10+d)=true)(v:Value):(γ (10+d)).oneCell'=true∧JP d P w lo g wr K ks T (fun j=>if j=15+d then true else L j) (upd γ (15+d) v) (W.setCell ⟨g,1,none⟩ (γ (10+d))):=by
 unfold JP at *
 rw[hL,h10] at h
 obtain⟨q,cap,cur,e,-⟩:=one_at (m:=0) (h.app rfl).1
 have k:=h.field
 refine⟨by rw[e];rfl,?_⟩
 simp only[upd,if_true,if_neg (show ¬7+d=15+d by omega),if_neg (show ¬9+d=15+d by omega),if_neg (show ¬10+d=15+d by omega),if_neg (show ¬11+d=15+d by omega),if_neg (show ¬12+d=15+d by omega),h10]
 exact k
theorem JP.box(h:JP d P w lo g wr K ks T L γ W){bb:Nat}{t:TypeId}{cs:Array Value}(hb:Bl w bb t cs)(h1:t≠94)(h2:t≠80):Bl W bb t cs:=by
 unfold JP at h
 exact h.fr.bl hb (bl_ne hb h.st.bl h1) (own_ne h.st.own hb h2)
theorem JP.whole'(h:JP d P w lo g wr K ks T L γ W)(h1:L (7+d)=true)(h2:L (9+d)=true)(h3:L (10+d)=true)(h4:L (11+d)=true)(h5:L (12+d)=true)(h6:L (15+d)=true){J:Nat}(hJ:∀t,P t→Wr.sz t≤J):∃t,P t∧Pw W lo g wr (K+J) (ks ++ [t]) (γ (10+d))∧Fr w W g T (γ (10+d))∧Below lo w W:=by
 unfold JP at h
 rw[h1,h2,h3,h4,h5,h6] at h
 exact h.whole hJ
theorem JP.made(h:JP d P w lo g wr K ks T L γ W):∃A c,T=.slice A ks.length c:=by
 unfold JP at h
 obtain⟨A,c,e,-⟩:=own_form h.st.own
 exact⟨A,c,e⟩
end
end Go.Proofs.Yteblmphohhbgcaa.Mt
