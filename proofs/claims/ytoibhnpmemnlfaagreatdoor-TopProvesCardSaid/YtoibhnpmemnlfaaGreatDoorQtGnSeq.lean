/- Joined texts. -/
import Derived.Test.YtoibhnpmemnlfaaGreatDoorQtEdF
set_option linter.unusedVariables false
namespace Go.Proofs.YtoibhnpmemnlfaaGreatDoor.Gn
open Go.RowKit Go.Deep
theorem foldl_set_spl:∀(vs:List Value) (k off:Nat) (cs:Array Value),(vs.zipIdx k).foldl (fun cs (p:Value × Nat)=>cs.setIfInBounds (off+p.2) p.1) cs=spl cs (off+k) vs:=by
 intro vs
 induction vs with
 |nil=>intro k off cs;rfl
 |cons v r ih =>
  intro k off cs
  rw[List.zipIdx_cons,List.foldl_cons,ih,spl]
  rfl
theorem fold_arr(vs:Array Value)(off:Nat)(cs:Array Value):vs.zipIdx.foldl (fun cs (p:Value × Nat)=>cs.setIfInBounds (off+p.2) p.1) cs=spl cs off vs.toList:=by
 rw[←Array.foldl_toList,Array.toList_zipIdx]
 exact foldl_set_spl vs.toList 0 off cs
theorem spl_two(Z x y:Array Value)(s:Nat)(hz:Z.size=2*s)(hx:x.size=s)(hy:y.size=s):spl (spl Z 0 x.toList) s y.toList=x ++ y:=by
 apply Array.ext_getElem?
 intro j
 rw[spl_get _ _ _ _ (by rw[spl_size];simp;omega),spl_get _ _ _ _ (by simp;omega)]
 simp only[Array.length_toList,hx,hy,Nat.zero_add,Nat.zero_le,true_and,Nat.sub_zero,Array.getElem?_toList]
 rw[Array.getElem?_append]
 by_cases h:j < s
 ·rw[if_neg (by omega),if_pos h,if_pos (by omega)]
 ·by_cases h2:j < s+s
  ·rw[if_pos ⟨by omega,h2⟩,if_neg (by omega),hx]
  ·rw[if_neg (by omega),if_neg (by omega),if_neg (by omega),Array.getElem?_eq_none (by omega),Array.getElem?_eq_none (by omega)]
theorem run_buildSlice2{P:Program}{o:Oper}{a:Act}(w:World)(t e:TypeId)(x y:Operand)(ho:o.op=.buildSlice t 2 #[(0,x),(1,y)])(vx vy:Array Value)(hx:a.eval x=.agg vx)(hy:a.eval y=.agg vy)
  (ht:P.underlying t=some (.slice e)) (i:TypeInfo) (hi:P.info? e=some i) (s:Nat) (hs:i.size=s) (z:Value) (hz:i.zero=some z) (h0:0 < s) (hm:2*s≤2 ^ 24) (h1:vx.size=s) (h2:vy.size=s) :
  (execOp a.eval o).run P w=.ok (.value (.slice (some ⟨w.heap.size,0,none⟩) 2 2)) (w.alloc (.cells (vx ++ vy) e)):=by
 subst hs
 have hne:¬2*i.size=0:=by omega
 have hgt:¬2*i.size > 2 ^ 24:=by omega
 have hf:Instr.fill (fun j=>some (j*i.size,i.size)) ((Array.range (2*i.size)).map (z.cells[· % z.cells.size]!)) [(0,.agg vx),(1,.agg vy)]=some (vx ++ vy):=by
  have e1:∀Z:Array Value,Z.size=2*i.size→Instr.fill (fun j=>some (j*i.size,i.size)) Z [(0,.agg vx),(1,.agg vy)]=some (vx ++ vy):=by
   intro Z hZ
   have q1:¬2*i.size < i.size:=by omega
   have q2:¬2*i.size < i.size+i.size:=by omega
   have f1:Array.foldl (fun(cs:Array Value) (x:Value × Nat)=>cs.setIfInBounds x.snd x.fst) Z vx.zipIdx 0 i.size=spl Z 0 vx.toList:=by
    have:=fold_arr vx 0 Z
    simpa[h1] using this
   have f2:∀Y:Array Value,Array.foldl (fun(cs:Array Value) (x:Value × Nat)=>cs.setIfInBounds (i.size+x.snd) x.fst) Y vy.zipIdx 0 i.size=spl Y i.size vy.toList:=by
    intro Y
    have:=fold_arr vy i.size Y
    simpa[h2] using this
   simp[Instr.fill,Value.cells,h1,h2,hZ,q1]
   rw[f1,f2]
   refine⟨by rw[spl_size];omega,spl_two _ _ _ _ hZ h1 h2⟩
  exact e1 _ (by simp)
 have hp:(#[(0,x),(1,y)]:Array (Nat × Operand)).map (fun p=>(p.1,a.eval p.2)) = #[(0,.agg vx),(1,.agg vy)]:=by simp[hx,hy]
 have hso:(sizeOf e).run P w=.ok i.size w:=by simp[sizeOf,typeInfo,hi]
 have hzv:(zeroValue e).run P w=.ok z w:=by simp[zeroValue,typeInfo,hi,hz]
 unfold execOp
 simp only[ho]
 change Sem.run P (do let r ←Instr.buildSlice t 2 ((#[(0,x),(1,y)]:Array (Nat × Operand)).map (fun p=>(p.1,a.eval p.2)));pure (Next.value r)) w=_
 rw[hp]
 simp only[Instr.buildSlice,Sem.run_bind,run_underlying ht,Result.andThen_ok,hso,Sem.run_ite,if_neg hgt,if_neg hne,hzv,Sem.run_pure,hf,newRow,run_newObj]
 rfl
section
variable {P:Program} {ops:Array Oper} {Q:Exit→Act→World→Prop} {rest:List Oper} {o:Oper} {a:Act} {w w':World}
theorem sq_new(w':World)(v:Value)(hgd:o.guard=none)(h:(execOp a.eval o).run P w=.ok (.value v) w')(hk:wpList P ops Q rest (a.put o.dst v) w'):wpList P ops Q (o :: rest) a w :=
 wpList_plain hgd fun K hK=>wp_val h (hK _ _ hk)
theorem sq_run(v:Value)(hgd:o.guard=none)(h:(execOp a.eval o).run P w=.ok (.value v) w)(hk:wpList P ops Q rest (a.put o.dst v) w):wpList P ops Q (o :: rest) a w:=sq_new w v hgd h hk
theorem sq_enter(f:FuncId)(args:Array Value)(hgd:o.guard=none)(h:(execOp a.eval o).run P w=.ok (.enter f args) w)(hc:Calls P f args w fun e w''=>∃v,e=.returned v∧wpList P ops Q rest (a.put o.dst v) w''):wpList P ops Q (o :: rest) a w :=
 wpList_plain hgd fun K hK=>wp_enter h (hc.mono (by rintro e w'' ⟨v,he,hk⟩;exact⟨v,he,hK _ _ hk⟩))
theorem sq_load(g k n:Nat)(t:TypeId)(cs:Array Value)(hb:Bl w g t cs)(vs:Array Value)(ty:TypeId)(x:Operand){d:TypeDesc}(hgd:o.guard=none)(ho:o.op=.load ty x)(hx:a.eval x=.pointer (some ⟨g,k,none⟩))(hle:Nat.ble (k+n) cs.size=true)(hvs:cs.extract k (k+n)=vs)
  (hu:P.underlying ty=some d) (hd:d.isRow=true) (hi:(P.info? ty).map (·.size)=some n) (hk:wpList P ops Q rest (a.put o.dst (.agg vs)) w):wpList P ops Q (o :: rest) a w :=
 sq_run (.agg vs) hgd (run_load_op ty x ho g k n hx t cs hb d (Nat.le_of_ble_eq_true hle) vs hvs hu hd hi) hk
theorem sq_cell(ad:Addr)(v:Value)(hc:w.cell? ad=some v)(ty:TypeId)(x:Operand){d:TypeDesc}(hgd:o.guard=none)(ho:o.op=.load ty x)(hx:a.eval x=.pointer (some ad))(hu:P.underlying ty=some d)(hd:d.isRow=false)(hk:wpList P ops Q rest (a.put o.dst v) w):wpList P ops Q (o :: rest) a w :=
 sq_run v hgd (run_cell_op ty x ho ad hx v hc d hu hd) hk
theorem sq_store(g:Nat)(t:TypeId)(cs vs:Array Value)(hb:Bl w g t cs)(ty:TypeId)(x y:Operand)(hgd:o.guard=none)(ho:o.op=.store ty x y)(hx:a.eval x=.pointer (some ⟨g,0,none⟩))(hy:a.eval y=.agg vs)(hz:cs.size=vs.size)(hi:(P.info? ty).map (·.size)=some vs.size)(h1:∀v∈vs.toList,v.oneCell'=true)
  (hk:∀w',Bl w' g t vs→w.grownBy w' (some g)→wpList P ops Q rest (a.put o.dst undef) w'):wpList P ops Q (o :: rest) a w:=by
 refine wpList_store_bl hgd ty x y ho g 0 vs hx hy t cs hb (by omega) hi h1 fun w' h2 h3=>?_
 rw[spl_all _ _ (by simpa using hz)] at h2
 exact hk w' (by simpa using h2) h3
theorem sq_done(h:Q .normal a w):wpList P ops Q [] a w:=h
end
end Go.Proofs.YtoibhnpmemnlfaaGreatDoor.Gn
