/- Joined texts. -/
import Derived.Deep.MidRow
import Derived.Great.BuildSlice
import Derived.Maps.AppendAt
import Derived.Test.YtbgkdbjineennaaQcDkD
set_option linter.unusedVariables false
namespace Go.Proofs.Ytbgkdbjineennaa.Dk
open Go.IntWalk Go.RowKit Go.Proofs.Ytbgkdbjineennaa.Gn Go.Proofs.Ytbgkdbjineennaa.Fd Go.Deep
def sv:List Value:=.int .u8 7 :: List.replicate 63 (.int .u8 0)
def zw(p:Nat):Array Value:=(Value.int .i64 (p:Int) :: List.replicate 64 (.int .u8 0)).toArray
def z0:Array Value:=(Value.int .i64 0 :: List.replicate 64 (.int .u8 0)).toArray
def vw(p:Nat):Array Value:=(Value.int .i64 (p:Int) :: sv).toArray
section
variable {P:Program}
theorem run_store_at{op:Oper}{a:Act}{w:World}(ty:TypeId)(x y:Operand)(ho:op.op=.store ty x y)(g k:Nat)(hx:a.eval x=.pointer (some ⟨g,k,none⟩))(v:Value)(hy:a.eval y=v)(u:Value)(hc:w.cell? ⟨g,k,none⟩=some u)(hf:w.frozen? ⟨g,k,none⟩=false)
  (hi:(P.info? ty).map (·.size)=some 1) (h1:v.oneCell'=true):(execOp a.eval op).run P w=.ok .skip (w.setCell ⟨g,k,none⟩ v):=by
 have hv:v.cells = #[v]:=by cases v <;> first|rfl|cases h1
 obtain⟨i,h2,h3⟩:∃i,P.info? ty=some i∧i.size=1:=by
  cases e:P.info? ty with
  |none=>rw[e] at hi;cases hi
  |some i=>rw[e] at hi;exact⟨i,rfl,by simpa using hi⟩
 have hs:=run_store P w ⟨g,k,none⟩ v .plain h1
 rw[hc] at hs
 simp only[hf] at hs
 simp[execOp,ho,hx,hy,Instr.storeAt,Instr.sureAddr,storeVar,hv,sizeOf,typeInfo,h2,h3,storeCells]
 rw[show(⟨g,k,none⟩:Addr).add 0=⟨g,k,none⟩ from rfl,hs]
 rfl
theorem run_load_mid{op:Oper}{a:Act}{w:World}(ty:TypeId)(x:Operand)(ho:op.op=.load ty x)
  (b o:Nat) (hx:a.eval x=.pointer (some ⟨b,o,none⟩)) (cs:List Value) (d:TypeDesc) (hc:w.rangeAt b o cs)
  (hu:P.underlying ty=some d) (hd:d.isRow=true) (hi:(P.info? ty).map (·.size)=some cs.length):(execOp a.eval op).run P w=.ok (.value (.agg cs.toArray)) w:=by
 unfold execOp
 simp only[ho,hx,Instr.loadAt,Instr.sureAddr,Sem.run_bind,Sem.run_pure,Result.andThen_ok,run_loadVar_mid w b o ty cs d hc hu hd hi]
theorem run_load_bl{op:Oper}{a:Act}{w:World}(ty:TypeId)(x:Operand)(ho:op.op=.load ty x)(g:Nat)(hx:a.eval x=.pointer (some ⟨g,0,none⟩))(t:TypeId)(cs:Array Value)(hb:Bl w g t cs)(d:TypeDesc)
  (hu:P.underlying ty=some d) (hd:d.isRow=true) (hi:(P.info? ty).map (·.size)=some cs.size):(execOp a.eval op).run P w=.ok (.value (.agg cs)) w:=by
 have h:=World.rangeAt_of_block hb 0 cs.size
 rw[show(cs.extract 0 (0+cs.size)).toList=cs.toList by simp] at h
 have:=run_load_mid (P:=P) ty x ho g 0 hx cs.toList d h hu hd (by simpa using hi)
 simpa using this
theorem run_append_op{o:Oper}{a:Act}{w:World}(s x:Operand)(t:TypeId)(ho:o.op=.call { callee:=.builtin .append,args:=#[s,x],argTypes:=#[t,t] })(v u v':Value)(w':World)
  (hs:a.eval s=v) (hx:a.eval x=u) (hr:(Builtin.append_ #[t,t] o.type #[v,u]).run P w=.ok v' w'):(execOp a.eval o).run P w=.ok (.value v') w':=by
 simp[execOp,ho,resolve,invoke,builtin,hs,hx,hr,Result.andThen]
theorem run_build_op{o:Oper}{a:Act}{w:World}(t e:TypeId)(x:Operand)(ho:o.op=.buildSlice t 1 #[(0,x)])(vs:Array Value)(hx:a.eval x=.agg vs)
  (cells:Array Value) (ie:TypeInfo) (z:Value)
  (hu:P.underlying t=some (.slice e)) (hie:P.info? e=some ie) (hz:ie.zero=some z) (hsmall:¬1*ie.size > 2 ^ 24) (hpos:¬1*ie.size=0)
  (hf:Instr.fill (fun i=>some (i*ie.size,ie.size)) ((Array.range (1*ie.size)).map (z.cells[· % z.cells.size]!)) [(0,.agg vs)]=some cells):(execOp a.eval o).run P w=.ok (.value (.slice (some ⟨w.heap.size,0,none⟩) 1 1)) (w.alloc (.cells cells e)):=by
 unfold execOp
 rw[ho]
 simp only[List.map_toArray,List.map_cons,List.map_nil,hx]
 simp[run_buildSlice w t e 1 #[(0,.agg vs)] cells ie z hu hie hz hsmall hpos hf]
section
variable {ops:Array Oper} {a:Act} {T:Nat→Value→World→Prop} {J:(Nat→Bool)→(Nat→Value)→World→Prop} {Chg:World→World→Prop} {i:Nat} {o:Oper}
theorem OX.val(v:Value)(hg:o.guard=none)(hrun:∀(L:Nat→Bool) (γ:Nat→Value) (w:World),L i=false→(∀j o',ops[j]?=some o'→L j=true→∀d,dep o' d=true→L d=true)→J L γ w→(∀j,dep o j=true→T j (γ j) w)→(execOp (fr ops a γ).eval o).run P w=.ok (.value v) w)
  (hT:∀w,T i v w) (hJ:∀(L:Nat→Bool) (γ:Nat→Value) (w:World),L i=false→J L γ w→J (fun j=>if j=i then true else L j) (upd γ i v) w) (hC:∀w,Chg w w):OX P ops a T J Chg i o :=
 ⟨fun Q K L γ w hLi hdep hcl hun hJ0 hd0 hK=>want hg _ (wp_val (hrun L γ w hLi hcl hJ0 hd0) (hK v w (hT w) (hJ L γ w hLi hJ0) (hC w)))⟩
theorem OX.new(hg:o.guard=none)(hrun:∀(L:Nat→Bool) (γ:Nat→Value) (w:World),L i=false→(∀j,dep o j=true→L j=true)→J L γ w→(∀j,dep o j=true→T j (γ j) w)→∃v w',(execOp (fr ops a γ).eval o).run P w=.ok (.value v) w'∧T i v w'∧J (fun j=>if j=i then true else L j) (upd γ i v) w'∧Chg w w'):OX P ops a T J Chg i o :=
 ⟨fun Q K L γ w hLi hdep hcl hun hJ0 hd0 hK=>by
  obtain⟨v,w',h1,h2,h3,h4⟩:=hrun L γ w hLi hdep hJ0 hd0
  exact want hg _ (wp_val h1 (hK v w' h2 h3 h4))⟩
theorem OX.skip(hg:o.guard=none)(hrun:∀(L:Nat→Bool) (γ:Nat→Value) (w:World),L i=false→(∀j,dep o j=true→L j=true)→J L γ w→(∀j,dep o j=true→T j (γ j) w)→∃w',(execOp (fr ops a γ).eval o).run P w=.ok .skip w'∧T i undef w'∧J (fun j=>if j=i then true else L j) (upd γ i undef) w'∧Chg w w'):OX P ops a T J Chg i o :=
 ⟨fun Q K L γ w hLi hdep hcl hun hJ0 hd0 hK=>by
  obtain⟨w',h1,h2,h3,h4⟩:=hrun L γ w hLi hdep hJ0 hd0
  exact want hg _ (Gn.wp_skip h1 (hK undef w' h2 h3 h4))⟩
end
end
def wsp(g p:Nat)(H:Value):List (Option Value):=[some (.pointer (some ⟨g,0,none⟩)),some (.pointer (some ⟨g,0,none⟩)),some (.pointer (some ⟨g,0,none⟩)),some (.pointer (some ⟨g,1,none⟩)),some H,some (.agg (vw p)),none,none,some (.pointer (some ⟨g,0,none⟩)),some (.pointer (some ⟨g,1,none⟩)),none]
def WT(sp:List (Option Value))(i:Nat)(v:Value):Prop:=∀u,sp[i]?=some (some u)→v=u
theorem WT.is{sp:List (Option Value)}{i:Nat}{v u:Value}(h:WT sp i v)(hu:sp[i]?=some (some u)):v=u:=h u hu
theorem WT.has{sp:List (Option Value)}{i:Nat}{v:Value}(hu:sp[i]?=some (some v)):WT sp i v:=fun u h=>by rw[hu] at h;cases h;rfl
theorem WT.no{sp:List (Option Value)}{i:Nat}{v:Value}(hu:sp[i]?=some none):WT sp i v:=fun u h=>by rw[hu] at h;cases h
structure WR (base g tb p:Nat) (H:Value) (w w0:World) (v7:Value) (w7:World):Prop where
 start:w0=w∨w0=w.drew
 c0:w0.cell? ⟨g,1,none⟩=some H
 c6:(w0.alloc (.cells (vw p) 67)).cell? ⟨g,1,none⟩=some H
 c7:w7.cell? ⟨g,1,none⟩=some H
 f7:w7.frozen? ⟨g,1,none⟩=false
 t0:Bl w0 tb 67 (vw p)
 run:(Builtin.append_ #[56,56] 56 #[H,.slice (some ⟨w0.heap.size,0,none⟩) 1 1]).run Try.prog (w0.alloc (.cells (vw p) 67))=.ok v7 w7
 one:v7.oneCell'=true
 own:w7.ownsRow base 67 65 v7 1 (vw p).toList
 grow:(w0.alloc (.cells (vw p) 67)).grownBy w7 H.ownBlock
 at_:v7.ownBlock=H.ownBlock∨v7.ownBlock=some (w0.alloc (.cells (vw p) 67)).heap.size
def WJ(base g tb p:Nat)(H:Value)(w:World)(L:Nat→Bool)(γ:Nat→Value)(W:World):Prop :=
 ∃w0 v7 w7,WR base g tb p H w w0 v7 w7∧(L 6=false→W=w0)∧(L 6=true→L 7=false→W=w0.alloc (.cells (vw p) 67))∧(L 7=true→L 10=false→W=w7)∧(L 10=true→W=w7.setCell ⟨g,1,none⟩ v7)∧(L 6=true→γ 6=.slice (some ⟨w0.heap.size,0,none⟩) 1 1)∧(L 7=true→γ 7=v7)∧(L 7=true→L 6=true)∧(L 10=true→L 7=true)
section
variable {base g tb p:Nat} {H:Value} {w:World} {L:Nat→Bool} {γ:Nat→Value} {W:World}
theorem WJ.mark(h:WJ base g tb p H w L γ W)(i:Nat)(h6:i≠6)(h7:i≠7)(h10:i≠10)(v:Value):WJ base g tb p H w (fun j=>if j=i then true else L j) (upd γ i v) W:=by
 obtain⟨w0,v7,w7,h1,h2⟩:=h
 refine⟨w0,v7,w7,h1,?_⟩
 have l6:(if 6=i then true else L 6)=L 6:=if_neg (Ne.symm h6)
 have l7:(if 7=i then true else L 7)=L 7:=if_neg (Ne.symm h7)
 have l10:(if 10=i then true else L 10)=L 10:=if_neg (Ne.symm h10)
 have u6:upd γ i v 6=γ 6:=by unfold upd;rw[if_neg (Ne.symm h6)]
 have u7:upd γ i v 7=γ 7:=by unfold upd;rw[if_neg (Ne.symm h7)]
 simp only[l6,l7,l10,u6,u7]
 exact h2
theorem WJ.cell(h:WJ base g tb p H w L γ W)(h10:L 10=false):W.cell? ⟨g,1,none⟩=some H:=by
 obtain⟨w0,v7,w7,h1,h2,h3,h4,h5,-⟩:=h
 cases e6:L 6 with
 |false=>rw[h2 e6];exact h1.c0
 |true =>
  cases e7:L 7 with
  |false=>rw[h3 e6 e7];exact h1.c6
  |true=>rw[h4 e7 h10];exact h1.c7
theorem WJ.row(h:WJ base g tb p H w L γ W)(h6:L 6=false):Bl W tb 67 (vw p):=by
 obtain⟨w0,v7,w7,h1,h2,-⟩:=h
 rw[h2 h6];exact h1.t0
theorem WJ.six(h:WJ base g tb p H w L γ W)(h6:L 6=false):WJ base g tb p H w (fun j=>if j=6 then true else L j) (upd γ 6 (.slice (some ⟨W.heap.size,0,none⟩) 1 1)) (W.alloc (.cells (vw p) 67)):=by
 obtain⟨w0,v7,w7,h1,h2,h3,h4,h5,h6',h7,h8,h9⟩:=h
 have l7:L 7=false:=by
  cases e:L 7 with
  |false=>rfl
  |true=>rw[h8 e] at h6;cases h6
 have l10:L 10=false:=by
  cases e:L 10 with
  |false=>rfl
  |true=>rw[h9 e] at l7;cases l7
 obtain rfl:=h2 h6
 refine⟨W,v7,w7,h1,?_⟩
 simp[l7,l10,upd]
theorem WJ.seven(h:WJ base g tb p H w L γ W)(h7:L 7=false)(h6:L 6=true):∃(w0:World) (v7:Value) (w7:World),W=w0.alloc (.cells (vw p) 67)∧γ 6=.slice (some ⟨w0.heap.size,0,none⟩) 1 1∧(Builtin.append_ #[56,56] 56 #[H,.slice (some ⟨w0.heap.size,0,none⟩) 1 1]).run Try.prog W=.ok v7 w7∧WJ base g tb p H w (fun j=>if j=7 then true else L j) (upd γ 7 v7) w7:=by
 obtain⟨w0,v7,w7,h1,h2,h3,h4,h5,h6',h7',h8,h9⟩:=h
 have l10:L 10=false:=by
  cases e:L 10 with
  |false=>rfl
  |true=>rw[h9 e] at h7;cases h7
 obtain rfl:=h3 h6 h7
 refine⟨w0,v7,w7,rfl,h6' h6,h1.run,w0,v7,w7,h1,?_⟩
 have e6:=h6' h6
 simp[l10,h6,upd,e6]
theorem WJ.ten(h:WJ base g tb p H w L γ W)(h10:L 10=false)(h7:L 7=true):(γ 7).oneCell'=true∧W.cell? ⟨g,1,none⟩=some H∧W.frozen? ⟨g,1,none⟩=false∧WJ base g tb p H w (fun j=>if j=10 then true else L j) (upd γ 10 undef) (W.setCell ⟨g,1,none⟩ (γ 7)):=by
 obtain⟨w0,v7,w7,h1,h2,h3,h4,h5,h6',h7',h8,h9⟩:=h
 obtain rfl:=h4 h7 h10
 have e7:=h7' h7
 have l6:=h8 h7
 have e6:=h6' l6
 refine⟨by rw[e7];exact h1.one,h1.c7,h1.f7,w0,v7,W,h1,?_⟩
 simp[h7,l6,upd,e6,e7]
theorem own_one{base:Nat}{e:TypeId}{size n:Nat}{v:Value}{xs:List Value}{w:World}(h:w.ownsRow base e size v n xs):v.oneCell'=true:=by
 obtain⟨-, ⟨rfl,-⟩|⟨g,cap,cur,rfl,-⟩⟩:=h <;> rfl
theorem vw_one(p:Nat):∀v∈(vw p).toList,v.oneCell'=true:=by intro v hv;simp only[vw,sv,List.mem_cons,List.mem_replicate] at hv;rcases hv with rfl|rfl|⟨-, rfl⟩ <;> rfl
theorem vw_len(p:Nat):(vw p).toList.length=65:=by kernel_rfl
theorem infoW:(Try.prog.info? 67).map (fun i=>(i.zero,i.size,i.bytes))=some (some (.agg z0),65,72):=by kernel_rfl
theorem WR.mk'{w w0:World}(hs:w0=w∨w0=w.drew)(hb:base≤w.heap.size)(c0:w0.cell? ⟨g,1,none⟩=some H)(f0:w0.frozen? ⟨g,1,none⟩=false)(hg:g < w0.heap.size)(hHg:H.ownBlock≠some g)(t0:Bl w0 tb 67 (vw p))(hH:w0.ownsRow base 67 65 H 0 []):∃v7 w7,WR base g tb p H w w0 v7 w7:=by
 obtain⟨i0,hi,hz0,hz1,hz2⟩:=info_parts infoW
 have hb0:base≤w0.heap.size:=by rcases hs with rfl|rfl <;> exact hb
 have hg1:w0.grownBy (w0.alloc (.cells (vw p) 67)) none:=World.grownBy_alloc w0 _ none
 obtain⟨v7,w7,hr,h1,h2,-, h4⟩:=run_append_own_at (P:=Try.prog) (w0.alloc (.cells (vw p) 67)) base 56 56 67 i0 (.agg z0) 65 72 Try.underlying56 hi hz0 hz1 hz2 (by kernel_rfl) (by decide) H 0 [] (hH.alloc _) ⟨w0.heap.size,0,none⟩ 1 1 (vw p).toList (by rw[vw_len]) (fun j u hj=>by rw[show(⟨w0.heap.size,0,none⟩:Addr).add j=⟨w0.heap.size,j,none⟩ by unfold Addr.add;split <;> simp_all];exact(Bl.new_ w0 _ _).cell_ (by rwa [Array.getElem?_toList] at hj)) (vw_one p) (by unfold maxLen;omega) (by omega) (by simp;omega)
 have c6:(w0.alloc (.cells (vw p) 67)).cell? ⟨g,1,none⟩=some H:=hg1.cell c0 (by simp)
 have hgn:some g≠H.ownBlock:=Ne.symm hHg
 refine⟨v7,w7,hs,c0,c6,h2.cell c6 hgn,?_,t0,hr,own_one h1,by simpa using h1,h2,h4⟩
 have hx:w7.heap[g]?=w0.heap[g]?:=(h2.block g (by simp;omega) hgn).trans (hg1.block g hg (by simp))
 exact(World.frozen?_of_block (a:=⟨g,1,none⟩) hx).trans f0
theorem zw_one(p:Nat):∀v∈(zw p).toList,v.oneCell'=true:=by intro v hv;simp only[zw,List.mem_cons,List.mem_replicate] at hv;rcases hv with rfl|⟨-, rfl⟩ <;> rfl
end
end Go.Proofs.Ytbgkdbjineennaa.Dk
