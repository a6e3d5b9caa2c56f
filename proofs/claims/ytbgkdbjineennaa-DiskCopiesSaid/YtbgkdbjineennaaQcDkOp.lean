/- Joined texts. -/
import Derived.ProofKit
import Derived.OpenShut
import Derived.ChangeOld
import Derived.Handed
import Derived.Test.YtbgkdbjineennaaQcDkTg
import Derived.Test.YtbgkdbjineennaaQcGnStep
set_option linter.unusedVariables false
namespace Go.Proofs.Ytbgkdbjineennaa.Dk
open Go.IntWalk Go.RowKit Go.Proofs.Ytbgkdbjineennaa.Gn Go.Proofs.Ytbgkdbjineennaa.Fd Go.Deep Go.ChangeShapes Go.WideShapes
set_option maxRecDepth 100000
theorem handed6{H:Type}{a:Assume}{C:Checked}{os:Os}{f:FuncId}{s:ChangeSpec}{enc:TypeId × Value→H}{fn:Func}{conds:List PathCond}{apart:Bool}{Post:World→Array Value→Value→World→Prop}
  (h:ReturnsInHanded a C os f .any (fun w args=>(s.pre enc C.prog fn conds apart w args∧True)∧sizedMet enc C.prog fn (OpenSpec.ofChange s) apart w args) Post):ReturnsInHanded a C os f .any (s.pre6 enc C.prog fn conds apart) Post:=by
 simp only[and_true] at h
 exact h
theorem witness_true{H:Type}{a:Assume}{C:Checked}{os:Os}{f:FuncId}{s:ChangeSpec}{enc:TypeId × Value→H}{fn:Func}{conds:List PathCond}{apart:Bool}
  (h:∃(w:World) (tape:Tape) (i:Input),w.os=os∧(w.forCall tape i).Shaped C.prog∧i.vars=[]∧Input.okWide C.prog (w.forCall tape i) .any w.heap.size f i∧s.pre6 enc C.prog fn conds apart (w.forCall tape i).memory i.args∧a.holds C.prog (lone (Frame.enter C.prog f i.args .normal) [] (w.forCall tape i))) :
  ∃(w:World) (tape:Tape) (i:Input),w.os=os∧(w.forCall tape i).Shaped C.prog∧i.vars=[]∧Input.okWide C.prog (w.forCall tape i) .any w.heap.size f i∧((s.pre enc C.prog fn conds apart (w.forCall tape i).memory i.args∧True)∧sizedMet enc C.prog fn (OpenSpec.ofChange s) apart (w.forCall tape i).memory i.args)∧a.holds C.prog (lone (Frame.enter C.prog f i.args .normal) [] (w.forCall tape i)) :=
 let⟨w,t,i,h1,h2,h3,h4,h5,h6⟩:=h
 ⟨w,t,i,h1,h2,h3,h4,⟨⟨h5.1,trivial⟩,h5.2⟩,h6⟩
theorem choose_list{α:Type}{P:Nat→α→Prop}:∀(n:Nat),(∀i,i < n→∃t,P i t)→∃ks:List α,ks.length=n∧∀i t,ks[i]?=some t→P i t
 |0,_=>⟨[],rfl,fun i t h=>by simp at h⟩
 |n+1,h=>by
  obtain⟨ks,h1,h2⟩:=choose_list n (fun i hi=>h i (by omega))
  obtain⟨t,ht⟩:=h n (Nat.lt_succ_self n)
  refine⟨ks ++ [t],by simp[h1],fun i u hu=>?_⟩
  by_cases hi:i < n
  ·rw[List.getElem?_append_left (by omega)] at hu;exact h2 i u hu
  ·rw[List.getElem?_append_right (by omega)] at hu
   have hz:i - ks.length=0:=by
    rcases Nat.eq_zero_or_pos (i - ks.length) with h|h
    ·exact h
    ·rw[List.getElem?_eq_none (by simp;omega)] at hu;cases hu
   rw[hz] at hu
   simp at hu
   subst hu
   rw[show i=n by omega];exact ht
theorem slice_in{P:Program}{w:World}{r:Reach}{b0:Nat}{t e:TypeId}{A:Option Addr}{n c:Nat}(ht:P.underlying t=some (.slice e))(h:Value.okWide P w r b0 t (.slice A n c)):∀ad,A=some ad→ad.block < w.heap.size:=by
 intro ad e
 subst e
 simp only[Value.okWide,ht,Cell.okWide,Cell.ok] at h
 obtain⟨-, -, -, -, row,cells,hs,-⟩:=h
 rcases Nat.lt_or_ge ad.block w.heap.size with h1|h1
 ·exact h1
 ·unfold World.shape? at hs
  rw[Array.getElem?_eq_none h1] at hs
  cases hs
theorem cellsO:Try.prog.cellsOf 37=5:=by kernel_rfl
theorem cellsI:Try.prog.cellsOf 3=1:=by kernel_rfl
theorem cellsB:Try.prog.cellsOf 22=1:=by kernel_rfl
theorem cellsC:Try.prog.cellsOf 24=1:=by kernel_rfl
theorem cells8:Try.prog.cellsOf 5=1:=by kernel_rfl
theorem cells1:Try.prog.cellsOf 4=1:=by kernel_rfl
theorem bytes8:Try.prog.bytesOf 5=1:=by kernel_rfl
theorem bytes1:Try.prog.bytesOf 4=1:=by kernel_rfl
theorem bytesO:Try.prog.bytesOf 37=72:=by kernel_rfl
section
variable {H:Type} {enc:TypeId × Value→H} {w:World} {base:Nat} {spare:Nat→Bool} {held:Bool}
theorem open_bools {a : Option Addr} {len cap : Nat} {d : DataW H} {ps : List MemPlace} (h : DataW.Trod enc Try.prog w base spare held 24 (.slice a len cap) d ps) : ∃ l : List Bool, Sl w a len (l.map Value.bool) ∧ (a = none → cap = 0) ∧ len ≤ cap ∧ cap ≤ maxLen := by
  have h2 : (a = none → cap = 0) ∧ cap ≤ maxLen := by
    obtain ⟨fuel, hf⟩ := h
    rcases DataW.trod_slice Try.underlying24 hf with ⟨h1, -⟩ | ⟨a1, len1, cap1, elems, rest, n2, hn2, h1, h2, hba, hlc, hm, -⟩
    · have e : Value.slice a len cap = .slice none 0 0 := by simpa [Value.cells] using h1
      cases e
      exact ⟨fun _ => rfl, Nat.zero_le _⟩
    · have e : Value.slice a len cap = .slice (some a1) len1 cap1 := by simpa [Value.cells] using h1
      cases e
      exact ⟨(fun e => by cases e), hm⟩
  obtain ⟨vs, hs, hm, hlc, hv⟩ := open_row Try.underlying24 cells1 h
  have : ∀ us : List Value, (∀ v ∈ us, v ∈ vs) → ∃ l : List Bool, us = l.map Value.bool := by
    intro us
    induction us with
    | nil => intro _; exact ⟨[], rfl⟩
    | cons u us ih =>
      intro hu
      obtain ⟨l, rfl⟩ := ih fun v hv => hu v (List.mem_cons_of_mem _ hv)
      obtain ⟨n, y, hy⟩ := hv u (hu u List.mem_cons_self)
      obtain ⟨b, hb, -⟩ := DataW.trod_bool Try.underlying4 hy
      exact ⟨b :: l, by have : u = .bool b := by simpa using hb
                        rw [this]; rfl⟩
  obtain ⟨l, rfl⟩ := this vs fun _ h => h
  exact ⟨l, hs, h2.1, hlc, h2.2⟩
theorem in_of_sl{A:Option Addr}{n:Nat}{xs:List Value}(hs:Sl w A n xs):∀ad,A=some ad→0 < n→ad.block < w.heap.size:=by
 intro ad e hn
 obtain⟨ad',e',hc⟩:=hs.at_ hn
 rw[e] at e';cases e'
 have hb:(ad.add 0).block=ad.block:=by unfold Addr.add;split <;> rfl
 obtain⟨v,hv⟩:∃v,xs[0]?=some v:=⟨_,List.getElem?_eq_getElem (by rw[hs.1];exact hn)⟩
 rw[hv] at hc
 have:=cell_lt hc
 rwa [hb] at this
theorem len_of_weights{t e:TypeId}{a:Option Addr}{len cap b:Nat}{d:DataW H}{ps:List MemPlace}(ht:Try.prog.underlying t=some (.slice e))(hb:Try.prog.bytesOf e=b)(hb0:0 < b)(h:DataW.Trod enc Try.prog w base spare held t (.slice a len cap) d ps)(hw:∀y∈d.weights Try.prog t,y≤reachBytes):len < 1000000000000000:=by
 obtain⟨fuel,hf⟩:=h
 rcases DataW.trod_slice ht hf with⟨h1,-⟩|⟨a1,len1,cap1,elems,rest,n2,hn2,h1,h2,hba,hlc,hm,hel,-⟩
 ·have e:Value.slice a len cap=.slice none 0 0:=by simpa[Value.cells] using h1
  cases e
  decide
 ·have e:Value.slice a len cap=.slice (some a1) len1 cap1:=by simpa[Value.cells] using h1
  cases e
  simp only[Prod.mk.injEq] at h2
  have h9:=hw ((elems.length+rest.length)*Try.prog.bytesOf e) (by
   rw[h2.1,DataW.weights,ht]
   simp only[List.length_map]
   exact List.mem_cons_self)
  rw[hb] at h9
  unfold reachBytes at h9
  have h8:elems.length+rest.length≤(elems.length+rest.length)*b:=Nat.le_mul_of_pos_right _ hb0
  omega
theorem open_od{fuel:Nat}{ci:List Value}{y:DataW H × List MemPlace}(htr:DataW.trod enc Try.prog w base spare held fuel 37 ci=some y)(hw:∀z∈y.1.weights Try.prog 37,z≤reachBytes):∃o:Od,ci=o.row∧o.ok w w.heap.size:=by
 obtain⟨xs,n,rfl,rfl,hcl,hx,hg⟩:=DataW.trod_struct Try.underlying37 htr
 rw[cellsO] at hcl
 match ci,hcl with
 | [p0,p1,p2,p3,p4],_ =>
  match xs,hx with
  | [y0,y1,y2,y3,y4],_ =>
   have g0:DataW.trod enc Try.prog w base spare held n 3 [p0]=some y0:=by have:=hg 0 _ rfl;simpa[cellsI] using this
   have g1:DataW.trod enc Try.prog w base spare held n 3 [p1]=some y1:=by have:=hg 1 _ rfl;simpa[cellsI] using this
   have g2:DataW.trod enc Try.prog w base spare held n 3 [p2]=some y2:=by have:=hg 2 _ rfl;simpa[cellsI] using this
   have g3:DataW.trod enc Try.prog w base spare held n 22 [p3]=some y3:=by have:=hg 3 _ rfl;simpa[cellsI,cellsB] using this
   have g4:DataW.trod enc Try.prog w base spare held n 24 [p4]=some y4:=by have:=hg 4 _ rfl;simpa[cellsI,cellsB,cellsC] using this
   have hwe:∀z,z∈y3.1.weights Try.prog 22∨z∈y4.1.weights Try.prog 24→z≤reachBytes:=by
    intro z hz
    refine hw z ?_
    simp only[List.map_cons,List.map_nil]
    rw[DataW.weights,Try.underlying37]
    simp only[List.map_cons,List.map_nil,DataW.weightsEach,List.mem_append]
    rcases hz with hz|hz
    ·exact .inr (.inr (.inr (.inl hz)))
    ·exact .inr (.inr (.inr (.inr (.inl hz))))
   obtain⟨K,hK,-, -⟩:=DataW.trod_int Try.underlying3 g0
   obtain⟨N,hN,-, -⟩:=DataW.trod_int Try.underlying3 g1
   obtain⟨Q,hQ,-, hQw⟩:=DataW.trod_int Try.underlying3 g2
   obtain rfl:p0=.int .i64 K:=by simpa using hK
   obtain rfl:p1=.int .i64 N:=by simpa using hN
   obtain rfl:p2=.int .i64 Q:=by simpa using hQ
   have hQ9:Q < 9223372036854775808:=by
    have : -9223372036854775808≤Q∧Q≤9223372036854775807:=by simpa[Lit.wf,IntKind.min,IntKind.max,IntKind.signed,IntKind.bits] using hQw
    omega
   obtain⟨bA,bn,bc,e3⟩:=Joins.slice_form Try.underlying22 g3
   obtain rfl:p3=.slice bA bn bc:=by simpa using e3
   obtain⟨cA,cn,cc,e4⟩:=Joins.slice_form Try.underlying24 g4
   obtain rfl:p4=.slice cA cn cc:=by simpa using e4
   have T3:DataW.Trod enc Try.prog w base spare held 22 (.slice bA bn bc) y3.1 y3.2:=⟨n,by simpa[Value.cells] using g3⟩
   have T4:DataW.Trod enc Try.prog w base spare held 24 (.slice cA cn cc) y4.1 y4.2:=⟨n,by simpa[Value.cells] using g4⟩
   obtain⟨l3,b1,-, -, b2,b3⟩:=open_bl Try.underlying22 Try.underlying5 cells8 (DataW.trod_lt n _ _ _ g3) T3
   obtain⟨l4,c1,c2,c3,c4⟩:=open_bools T4
   exact⟨⟨K,N,Q,bA,bn,bc,l3,cA,cn,cc,l4⟩,rfl,b1,b2,b3,in_of_sl b1,len_of_weights Try.underlying22 bytes8 (by decide) T3 (fun z hz=>hwe z (.inl hz)),c1,c2,c3,in_of_sl c1,c4,len_of_weights Try.underlying24 bytes1 (by decide) T4 (fun z hz=>hwe z (.inr hz)),hQ9⟩
theorem open_ops{a:Option Addr}{len cap:Nat}{d:DataW H}{ps:List MemPlace}(h:DataW.Trod enc Try.prog w base spare held 23 (.slice a len cap) d ps)(hw:∀z∈d.weights Try.prog 23,z≤reachBytes)(hin:∀ad,a=some ad→ad.block < w.heap.size):∃l:List Od,Ol w w.heap.size a l∧len=l.length:=by
 have hlen:=len_of_weights Try.underlying23 bytesO (by decide) h hw
 obtain⟨fuel,hf⟩:=h
 rcases DataW.trod_slice Try.underlying23 hf with⟨h1,-⟩|⟨a1,len1,cap1,elems,rest,n2,hn2,h1,h2,hba,hlc,-, hel,hget,-⟩
 ·have e:Value.slice a len cap=.slice none 0 0:=by simpa[Value.cells] using h1
  cases e
  exact⟨[],⟨Sl.nil_ w none,(fun o ho=>by cases ho),hin,by decide⟩,rfl⟩
 ·have e:Value.slice a len cap=.slice (some a1) len1 cap1:=by simpa[Value.cells] using h1
  cases e
  have hall:∀i,i < len→∃o:Od,w.cells? base (a1.add (i*5)) 5=some o.row∧o.ok w w.heap.size:=by
   intro i hi
   have h:=hget i hi
   rw[cellsO] at h
   obtain⟨y,hy⟩:∃y,elems[i]?=some y:=⟨_,List.getElem?_eq_getElem (by omega)⟩
   rw[hy] at h
   obtain⟨ci,hci,htr⟩:=Option.bind_eq_some_iff.1 h
   obtain⟨o,ho,hok⟩:=open_od htr (fun z hz=>hw z (by
    simp only[Prod.mk.injEq] at h2
    rw[h2.1,DataW.weights,Try.underlying23]
    refine List.mem_cons_of_mem _ (List.mem_append_left _ ?_)
    exact weights_mem hz _ (List.mem_map.2 ⟨y,List.mem_of_getElem? hy,rfl⟩)))
   exact⟨o,by rw[hci,ho],hok⟩
  obtain⟨l,hl,hp⟩:=choose_list len hall
  refine⟨l,⟨⟨orow_len l,fun q v hq=>⟨a1,rfl,?_⟩⟩,fun o ho=>?_,hin,by omega⟩,hl.symm⟩
  ·have hq5:q < 5*l.length:=by have:=(List.getElem?_eq_some_iff.1 hq).1;rwa [orow_len] at this
   obtain⟨o,ho⟩:∃o,l[q / 5]?=some o:=⟨_,List.getElem?_eq_getElem (by omega)⟩
   have hm:q%5 < 5:=Nat.mod_lt _ (by decide)
   have e1:=orow_at l (q / 5) (q%5) o ho hm
   rw[show 5*(q / 5)+q%5=q by omega,hq] at e1
   obtain⟨-, -, h3⟩:=World.cells?_some (hp _ o ho).1
   have h5:=h3 (q%5) (by simpa[Od.row] using hm)
   rw[←e1,Gn.add_add] at h5
   rw[←h5,show q / 5*5+q%5=q by omega]
  ·obtain⟨i,hi⟩:=List.getElem?_of_mem ho
   exact(hp i o hi).2
end
end Go.Proofs.Ytbgkdbjineennaa.Dk
