/- Joined texts. -/
import Derived.OpenShut
import Derived.WideShapes
import Derived.ChangeArms
import Derived.Test.YtkahelhoaihajaaQfWrPu
import Derived.Test.YtkahelhoaihajaaQfWrCopy
import Derived.Test.YtkahelhoaihajaaQfPuA
set_option linter.unusedVariables false
namespace Go.Proofs.Ytkahelhoaihajaa.Wr
open Go.RowKit Go.Proofs.Ytkahelhoaihajaa.Gn Go.Proofs.Ytkahelhoaihajaa.Fd Go.Deep Go.ChangeShapes Go.WideShapes
theorem cellsI:Try.prog.cellsOf 3=1:=by kernel_rfl
end Go.Proofs.Ytkahelhoaihajaa.Wr
namespace Go.Proofs.Ytkahelhoaihajaa.Wr
open Go.RowKit Go.Proofs.Ytkahelhoaihajaa.Gn Go.Proofs.Ytkahelhoaihajaa.Fd Go.Deep Go.ChangeShapes Go.WideShapes
inductive Ok0 (w:World):Tv→Prop
 |mk {k:Int} {n:Nat} {r:Rw} {A:Option Addr} {c:Nat} {ks:List Tv} (hn:n < 18446744073709551616) (hr:Pc w r) (hl:r.2.1≤140737488355328) (hs:Sl w A (4*ks.length) (flat ks)) (hm:ks.length≤140737488355328) (hc:ks.length≤c) (h0:A=none→c=0) (hk:∀t∈ks,Ok0 w t):Ok0 w (.mk k n r A c ks)
mutual
theorem Ok0.ok{w:World}:∀(v:Tv),Ok0 w v→sz v≤1000000→Ok w v
 |.mk k n r A c ks=>fun h hz=>by
  rw[sz] at hz
  cases h with
  |mk hn hr hl hs hm hc h0 hk =>
  have h1:=szs_len ks
  exact .mk hn hr hs (by omega) hc h0 (Oks0.ok ks hk (by omega))
theorem Oks0.ok{w:World}:∀(ks:List Tv),(∀t∈ks,Ok0 w t)→szs ks≤1000000→∀t∈ks,Ok w t
 | []=>fun _ _ t ht=>(List.not_mem_nil ht).elim
 |x :: xs=>fun h hz t ht=>by
  rw[szs] at hz
  have h1:=Ok0.ok x (h x List.mem_cons_self) (by omega)
  have h2:=Oks0.ok xs (fun t ht=>h t (List.mem_cons_of_mem _ ht)) (by omega)
  rcases List.mem_cons.1 ht with rfl|ht
  ·exact h1
  ·exact h2 t ht
end
theorem choose_list{α:Type}{P:Nat→α→Prop}:∀(n:Nat),(∀i,i < n→∃t,P i t)→∃ks:List α,ks.length=n∧∀i t,ks[i]?=some t→P i t
 |0,_=>⟨[],rfl,fun i t h=>by simp at h⟩
 |n+1,h=>by
  obtain⟨ks,h1,h2⟩:=choose_list n (fun i hi=>h i (by omega))
  obtain⟨t,ht⟩:=h n (Nat.lt_succ_self n)
  refine⟨ks ++ [t],by simp[h1],fun i u hu=>?_⟩
  by_cases hi:i < n
  ·rw[List.getElem?_append_left (by omega)] at hu;exact h2 i u hu
  ·rw[List.getElem?_append_right (by omega)] at hu
   have hz:i - ks.length=0:=by
    rcases Nat.eq_zero_or_pos (i - ks.length) with h|h
    ·exact h
    ·rw[List.getElem?_eq_none (by simp;omega)] at hu;cases hu
   rw[hz] at hu
   simp at hu
   subst hu
   rw[show i=n by omega];exact ht
theorem cellsN:Try.prog.cellsOf 26=4:=by kernel_rfl
theorem cellsU:Try.prog.cellsOf 22=1:=by kernel_rfl
theorem cellsB:Try.prog.cellsOf 23=1:=by kernel_rfl
theorem cellsM:Try.prog.cellsOf 24=1:=by kernel_rfl
theorem cells8:Try.prog.cellsOf 5=1:=by kernel_rfl
theorem bytes8:Try.prog.bytesOf 5=1:=by kernel_rfl
theorem bytesN:Try.prog.bytesOf 26=64:=by kernel_rfl
set_option maxRecDepth 100000 in
theorem open_node{H:Type}{enc:TypeId × Value→H}{w:World}{base:Nat}{spare:Nat→Bool}{held:Bool}:∀(fuel:Nat) (cs:List Value) (x:DataW H × List MemPlace),DataW.trod enc Try.prog w base spare held fuel 26 cs=some x→(∀y∈x.1.weights Try.prog 26,y≤reachBytes)→∃t:Tv,cs=t.row∧Ok0 w t:=by
 intro fuel
 induction fuel using Nat.strongRecOn with
 |ind fuel IH =>
 intro cs x hf hw
 obtain⟨xs,n,rfl,rfl,hcl,hx,hg⟩:=DataW.trod_struct Try.underlying26 hf
 rw[cellsN] at hcl
 match cs,hcl with
 | [p0,p1,p2,p3],_ =>
  match xs,hx with
  | [y0,y1,y2,y3],_ =>
   have g0:DataW.trod enc Try.prog w base spare held n 3 [p0]=some y0:=by have:=hg 0 _ rfl;simpa[cellsI] using this
   have g1:DataW.trod enc Try.prog w base spare held n 22 [p1]=some y1:=by have:=hg 1 _ rfl;simpa[cellsU] using this
   have g2:DataW.trod enc Try.prog w base spare held n 23 [p2]=some y2:=by have:=hg 2 _ rfl;simpa[cellsB] using this
   have g3:DataW.trod enc Try.prog w base spare held n 24 [p3]=some y3:=by have:=hg 3 _ rfl;simpa[cellsM] using this
   have hwe:∀y,y∈y2.1.weights Try.prog 23∨y∈y3.1.weights Try.prog 24→y≤reachBytes:=by
    intro y hy
    refine hw y ?_
    simp only[List.map_cons,List.map_nil]
    rw[DataW.weights,Try.underlying26]
    simp only[List.map_cons,List.map_nil,DataW.weightsEach,List.mem_append]
    rcases hy with hy|hy
    ·exact .inr (.inr (.inl hy))
    ·exact .inr (.inr (.inr (.inl hy)))
   obtain⟨K,hK,-, -⟩:=DataW.trod_int Try.underlying3 g0
   obtain⟨N,hN,-, hNw⟩:=DataW.trod_int Try.underlying22 g1
   obtain rfl:p0=.int .i64 K:=by simpa using hK
   obtain rfl:p1=.int .u64 N:=by simpa using hN
   have hN2:=wf_u64 hNw
   -- the bytes
   obtain⟨rr,hrv,hrp,hrl⟩:∃r:Rw,p2=.slice r.1 r.2.1 r.2.2.1∧Pc w r∧r.2.1≤140737488355328:=by
    rcases DataW.trod_slice Try.underlying23 g2 with⟨h1,-⟩|⟨a,len,cap,elems,rest,n2,-, h1,h2,-, hlc,-, hel,-⟩
    ·have e:p2=.slice none 0 0:=by simpa using h1
     exact⟨(none,0,0,[]),e,⟨rfl,Sl.nil_ w none,fun x hx=>(List.not_mem_nil hx).elim,Nat.le_refl _,fun _=>rfl⟩,Nat.zero_le _⟩
    ·have e:p2=.slice (some a) len cap:=by simpa using h1
     subst e
     obtain⟨l,hl⟩:=open_bl Try.underlying23 Try.underlying5 cells8 (DataW.trod_lt n _ _ _ g2) (⟨n,by simpa[Value.cells] using g2⟩:DataW.Trod enc Try.prog w base spare held 23 (.slice (some a) len cap) y2.1 y2.2)
     refine⟨(some a,len,cap,l),rfl,bl_pc hl,?_⟩
     have h9:=hwe ((elems.length+rest.length)*Try.prog.bytesOf 5) (.inl (by
      rw[h2]
      show _∈DataW.weights _ _ (DataW.slice _ _)
      rw[DataW.weights,Try.underlying23]
      simp only[List.length_map]
      exact List.mem_cons_self))
     rw[bytes8] at h9
     unfold reachBytes at h9
     show len≤_
     omega
   -- the values
   obtain⟨A,c,ks,hv3,hs,hm,hc,h0,hk⟩:∃(A:Option Addr) (c:Nat) (ks:List Tv),p3=.slice A ks.length c∧Sl w A (4*ks.length) (flat ks)∧ks.length≤140737488355328∧ks.length≤c∧(A=none→c=0)∧∀t∈ks,Ok0 w t:=by
    rcases DataW.trod_slice Try.underlying24 g3 with⟨h1,-⟩|⟨a,len,cap,elems,rest,n2,hn2,h1,h2,hba,hlc,-, hel,hget,-⟩
    ·have e:p3=.slice none 0 0:=by simpa using h1
     exact⟨none,0,[],e,Sl.nil_ w none,Nat.zero_le _,Nat.le_refl _,fun _=>rfl,fun t ht=>(List.not_mem_nil ht).elim⟩
    ·have e:p3=.slice (some a) len cap:=by simpa using h1
     subst e
     have hall:∀i,i < len→∃t:Tv,w.cells? base (a.add (i*4)) 4=some t.row∧Ok0 w t:=by
      intro i hi
      have h:=hget i hi
      rw[cellsN] at h
      obtain⟨y,hy⟩:∃y,elems[i]?=some y:=⟨_,List.getElem?_eq_getElem (by omega)⟩
      rw[hy] at h
      obtain⟨ci,hci,htr⟩:=Option.bind_eq_some_iff.1 h
      obtain⟨t,ht,hok⟩:=IH n2 (by omega) ci y htr (fun z hz=>hwe z (.inr (by
       rw[h2]
       show _∈DataW.weights _ _ (DataW.slice _ _)
       rw[DataW.weights,Try.underlying24]
       refine List.mem_cons_of_mem _ (List.mem_append_left _ ?_)
       exact weights_mem hz _ (List.mem_map.2 ⟨y,List.mem_of_getElem? hy,rfl⟩))))
      exact⟨t,by rw[hci,ht],hok⟩
     obtain⟨ks,hkl,hkp⟩:=choose_list len hall
     have h9:=hwe ((elems.length+rest.length)*Try.prog.bytesOf 26) (.inr (by
      rw[h2]
      show _∈DataW.weights _ _ (DataW.slice _ _)
      rw[DataW.weights,Try.underlying24]
      simp only[List.length_map]
      exact List.mem_cons_self))
     rw[bytesN] at h9
     unfold reachBytes at h9
     refine⟨some a,cap,ks,by rw[hkl],⟨flat_len ks,fun q v hq=>⟨a,rfl,?_⟩⟩,by omega,by omega,(fun e=>by cases e),fun t ht=>?_⟩
     ·rw[flat_length_get] at hq
      obtain⟨t,ht,hv⟩:=Option.bind_eq_some_iff.1 hq
      obtain⟨-, -, h3⟩:=World.cells?_some (hkp _ t ht).1
      have h4:q%4 < 4:=Nat.mod_lt _ (by decide)
      have h5:=h3 (q%4) h4
      rw[hv,Gn.add_add] at h5
      rw[←h5,show q / 4*4+q%4=q by omega]
     ·obtain⟨i,hi⟩:=List.getElem?_of_mem ht
      exact(hkp i t hi).2
   refine⟨.mk K N.toNat rr A c ks,?_,.mk (by omega) hrp hrl hs hm hc h0 hk⟩
   rw[hrv,hv3,Tv.row,Int.toNat_of_nonneg hN2.1]
end Go.Proofs.Ytkahelhoaihajaa.Wr
