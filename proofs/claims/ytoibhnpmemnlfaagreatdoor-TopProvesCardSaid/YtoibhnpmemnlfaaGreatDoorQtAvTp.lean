/- Joined texts. -/
import Derived.Test.YtoibhnpmemnlfaaGreatDoorQtAvPr
set_option linter.unusedVariables false
namespace Go.Proofs.YtoibhnpmemnlfaaGreatDoor.Av
open Go.RowKit Go.Proofs.YtoibhnpmemnlfaaGreatDoor.Gn Go.Deep
def OwnTAt(P:Program)(ks:List IntKind)(w:World)(f:FuncId)(xs:List DV)(e:TypeId)(k:Nat)(ni:Bool)(cs:List DV)(r:Value):Prop:=En P f∧∀(O:Nat→Prop) (vs:List Value),(∀b,O b→b < w.heap.size)→(∀b cs t fz,O b→w.heap[b]?=some (.cells cs t fz)→∀v∈cs.toList,noK ks v=true) →
 vs.length=xs.length→DV.reps O w xs 0 (fun i v=>vs[i]?=some v)→Calls P f vs.toArray w fun en w'=>∃v n us,en=.returned (.tuple #[v,r])∧Row w' e k v n us ni∧us.length=cs.length∧DV.reps (fun b=>O b∨blk v=some b) w' cs 0 (fun i u=>us[i]?=some u)∧(∀b,blk v=some b→w.heap.size≤b)∧(∃A n c,v=.slice A n c)∧Below w.heap.size w w'
section
variable {Γ:Ctx} {σ:St} {o:Oper}
theorem FS.callOwnT(J:Nat){f:FuncId}{args:List Operand}{ts:Array TypeId}{xs cs:List DV}{e:TypeId}{k:Nat}{ni:Bool}{ks:List IntKind}{r:Value}{R:St→Prop}(ho:o.op=.call { callee:=.value (.func f),args:=args.toArray,argTypes:=ts })(hx:args.map σ.ev=xs.map (fun x=>D x))
  (hk:subK ks Γ.ks=true) (hc:clnO ks σ.o=true) (h:∀w,Kp Γ.X Γ.w0 w→OwnTAt Γ.P ks w f xs e k ni cs r) (hJ:σ.nref J=true) (hd:inN Γ.n o.dst=true)
  (hR:R ((σ.add J (.buf e k ni cs) none).put o.dst (.tp [.own J,.dv (.lit r)]))):FS Γ o σ R:=by
 rintro a w Q K ⟨ρ,h1,h2⟩ hK
 have hr:=run_call (P:=Γ.P) (a:=a) (w:=w) ho (h w h1.kp).1
 have hl:args.length=xs.length:=by simpa using congrArg List.length hx
 have:=(h w h1.kp).2 (OO Γ.O0 σ.o ρ) (args.map a.eval) (fun b hb=>OO_lt h1 hb) (OO_noK h1 hk hc) (by simp[hl]) (evs_rep (h2.opers (o:=o) h1) hx (fun x hx=>by simp[ho,Op.operands,Call.operands,hx]))
 refine wp_enter hr ?_
 rw[show args.toArray.map a.eval=(args.map a.eval).toArray by simp]
 refine this.mono ?_
 rintro en w' ⟨v,n,us,he,g1,g2,g3,g4,g5,hb⟩
 refine⟨.tuple #[v,r],he,?_⟩
 obtain⟨q1,q2⟩:=h1.swap h2 J hJ v (.buf e k ni cs) none none (only_below hb none) (fun b hb=>by cases hb) rfl (fun b hb=>.inr (g4 b hb)) fun O' hoff hO hO2=>by
  refine⟨n,us,by rw[show updρ ρ J v J=v by simp[updρ]];exact g1,g2,DV.reps_keep (Off.refl _ w') (fun b hb1 _ hb2=>hb1 (hO2 b hb2)) _ 0 _ _ g3 fun _ _ h=>h⟩
 refine hK _ _ _ hR ⟨updρ ρ J v,by rw[St.put_o];exact q1,q2.put ?_ _ hd⟩
 refine⟨_,rfl,rfl,fun i x hi=>?_⟩
 match i with
 |0=>simp at hi;subst hi;exact⟨v,rfl,by simp[updρ],g5⟩
 |1=>simp at hi;subst hi;exact⟨r,rfl,rfl⟩
 |i+2=>simp at hi
theorem Fa.callOwnT(J:Nat){f:FuncId}{args:List Operand}{ts:Array TypeId}{xs cs:List DV}{e:TypeId}{k:Nat}{ni:Bool}{ks:List IntKind}{r:Value}{R:St→Prop}{t:List (Nat × Sv)}{ob:List (Nat × Ob)}{d:Nat}(ho:o.op=.call { callee:=.value (.func f),args:=args.toArray,argTypes:=ts })(hx:args.map (St.ev ⟨t,ob⟩)=xs.map (fun x=>D x))
  (hk:subK ks Γ.ks=true) (hc:clnO ks ob=true) (h:∀w,Kp Γ.X Γ.w0 w→OwnTAt Γ.P ks w f xs e k ni cs r) (hJ:St.nref ⟨t,ob⟩ J=true) (hd:o.dst=some d) (hn:Nat.blt d Γ.n=true)
  (hR:R ⟨(d,.tp [.own J,.dv (.lit r)]) :: t,(J,.buf e k ni cs) :: ob⟩):FS Γ o ⟨t,ob⟩ R:=FS.callOwnT J ho hx hk hc h hJ (inN_of hd hn) (by unfold St.add;rw[put_eq hd];exact hR)
theorem PS.extT{x:Operand}{i:Nat}{xs:List Cl}{y:Cl}(ho:o.op=.extract x i)(hx:σ.ev x=.tp xs)(hi:xs[i]?=some y):PS Γ o σ (.c y) :=
 PS.read _ fun ρ a w h1 h2=>by
  have h3:=h2.ev x (by simp[ho,Op.operands])
  rw[hx] at h3
  obtain⟨vs,e1,e2,e3⟩:=h3
  obtain⟨v,e4,e5⟩:=e3 i y hi
  exact⟨v,by unfold execOp;simp[ho,e1,Instr.extract,e4],e5⟩
theorem PS.makeD{x y:Operand}{t e:TypeId}{bytes l c:Nat}{kl kc:IntKind}{z:Value}(ho:o.op=.makeSlice t x y)(hx:σ.ev x=L (.int kl l))(hy:σ.ev y=L (.int kc c))(hlc:l≤c)
  (ht:Γ.P.underlying t=some (.slice e)) (hinfo:(Γ.P.info? e).map (fun i=>(i.zero,i.size,i.bytes))=some (some z,1,bytes)) (hzs:z.cells = #[z]) (hb0:0 < bytes) (hb:c≤16777216) (hb1:c*bytes≤281474976710656):PS Γ o σ (D (.sq true 1 (List.replicate l (.lit z)))):=by
 intro ρ a w Q K h1 h2 hK
 obtain⟨i,hi,hiz,hsize,hby⟩:=info_of hinfo
 have hr:=run_makeSlice (P:=Γ.P) w t e i z ht hi hiz kl kc (l:Int) (c:Int) (by omega) (by omega) (by rw[hsize,Int.toNat_natCast,Nat.mul_one];exact hb) (by rw[hby,←Int.natCast_mul,Nat.mul_comm];omega) (by omega)
 simp only[Int.toNat_natCast,hsize,Nat.mul_one] at hr
 have hrun:(execOp a.eval o).run Γ.P w=.ok (.value (.slice (some ⟨w.heap.size,0,none⟩) l c)) (w.alloc (.cells (madeCells z.cells c) e)):=by
  unfold execOp
  simp only[ho,Sem.run_bind,Sem.run_pure,Result.andThen_ok,h2.lit hx (by simp[ho,Op.operands]),h2.lit hy (by simp[ho,Op.operands]),hr]
 have hmc:(madeCells z.cells c).toList=List.replicate c z:=by rw[hzs];exact toList_madeCells_one z c
 refine wp_val hrun (hK _ _ ⟨some ⟨w.heap.size,0,none⟩,l,c,rfl,by simp,fun _=>⟨hlc,by unfold maxLen;omega,fun h=>by cases h⟩,reps_iff.2 fun j x hj=>?_⟩ ((Below.refl _ _).alloc (Nat.le_refl _) _))
 rw[List.getElem?_replicate] at hj
 split at hj
 ·rename_i hjl
  cases hj
  refine⟨z,⟨_,rfl,fun h=>absurd (OO_lt h1 h) (Nat.lt_irrefl _),?_⟩,rfl⟩
  rw[add_at,Nat.zero_add,(Bl.new_ w e _).cell,←Array.getElem?_toList,hmc,List.getElem?_replicate,if_pos (by omega)]
 ·cases hj
end
end Go.Proofs.YtoibhnpmemnlfaaGreatDoor.Av
