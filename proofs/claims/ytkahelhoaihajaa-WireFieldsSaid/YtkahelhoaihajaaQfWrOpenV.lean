/- Joined texts. -/
import Derived.ProofKit
import Derived.OpenShut
import Derived.ChangeOld
import Derived.Handed
import Derived.Test.YtkahelhoaihajaaQfWrOpen
import Derived.Test.YtkahelhoaihajaaQfWrIv
set_option linter.unusedVariables false
namespace Go.Proofs.Ytkahelhoaihajaa.Wr
open Go.RowKit Go.Proofs.Ytkahelhoaihajaa.Gn Go.Proofs.Ytkahelhoaihajaa.Fd Go.Deep Go.ChangeShapes Go.WideShapes
set_option maxRecDepth 100000 in
theorem node_val{w:World}{r:Reach}{b0:Nat}{v:Value}{t:Tv}(hv:Value.okWide Try.prog w r b0 26 v)(h:v.cells.toList=t.row):v=t.val:=by
 have hv':∃cs,v=.agg cs:=by
  have h:=hv
  unfold Value.okWide at h
  rw[Try.underlying26] at h
  obtain⟨cs,rfl,-⟩:=h
  exact⟨cs,rfl⟩
 obtain⟨cs,rfl⟩:=hv'
 have h2:cs.toList=t.row:=by simpa[Value.cells] using h
 show Value.agg cs=.agg t.row.toArray
 rw[←h2]
set_option maxRecDepth 100000 in
theorem handed6{H:Type}{a:Assume}{C:Checked}{os:Os}{f:FuncId}{s:ChangeSpec}{enc:TypeId × Value→H}{fn:Func}{conds:List PathCond}{apart:Bool}{Post:World→Array Value→Value→World→Prop}
  (h:ReturnsInHanded a C os f .any (fun w args=>(s.pre enc C.prog fn conds apart w args∧True)∧sizedMet enc C.prog fn (OpenSpec.ofChange s) apart w args) Post):ReturnsInHanded a C os f .any (s.pre6 enc C.prog fn conds apart) Post:=by
 simp only[and_true] at h
 exact h
set_option maxRecDepth 100000 in
theorem witness_true{H:Type}{a:Assume}{C:Checked}{os:Os}{f:FuncId}{s:ChangeSpec}{enc:TypeId × Value→H}{fn:Func}{conds:List PathCond}{apart:Bool}
  (h:∃(w:World) (tape:Tape) (i:Input),w.os=os∧(w.forCall tape i).Shaped C.prog∧i.vars=[]∧Input.okWide C.prog (w.forCall tape i) .any w.heap.size f i∧s.pre6 enc C.prog fn conds apart (w.forCall tape i).memory i.args∧a.holds C.prog (lone (Frame.enter C.prog f i.args .normal) [] (w.forCall tape i))) :
  ∃(w:World) (tape:Tape) (i:Input),w.os=os∧(w.forCall tape i).Shaped C.prog∧i.vars=[]∧Input.okWide C.prog (w.forCall tape i) .any w.heap.size f i∧((s.pre enc C.prog fn conds apart (w.forCall tape i).memory i.args∧True)∧sizedMet enc C.prog fn (OpenSpec.ofChange s) apart (w.forCall tape i).memory i.args)∧a.holds C.prog (lone (Frame.enter C.prog f i.args .normal) [] (w.forCall tape i)) :=
 let⟨w,t,i,h1,h2,h3,h4,h5,h6⟩:=h
 ⟨w,t,i,h1,h2,h3,h4,⟨⟨h5.1,trivial⟩,h5.2⟩,h6⟩
end Go.Proofs.Ytkahelhoaihajaa.Wr
namespace Go.Proofs.Ytkahelhoaihajaa.Wr
open Go.RowKit Go.Proofs.Ytkahelhoaihajaa.Gn Go.Proofs.Ytkahelhoaihajaa.Fd Go.Deep Go.ChangeShapes Go.WideShapes
set_option maxRecDepth 100000
theorem asks_at(l:List (Int × Int × Int))(k:Nat):(asks l)[k]?=(l[k / 3]?).bind fun x=>([.int .i64 x.1,.int .i64 x.2.1,.int .i64 x.2.2]:List Value)[k%3]?:=by
 induction l generalizing k with
 |nil=>simp[asks]
 |cons y l ih =>
  have e:asks (y :: l)=[.int .i64 y.1,.int .i64 y.2.1,.int .i64 y.2.2] ++ asks l:=rfl
  rw[e]
  rcases Nat.lt_or_ge k 3 with h|h
  ·rw[List.getElem?_append_left (by simpa using h),show k / 3=0 by omega,show k%3=k by omega];rfl
  ·rw[List.getElem?_append_right (by simpa using h),show k / 3=(k - 3) / 3+1 by omega,show k%3=(k - 3)%3 by omega,List.getElem?_cons_succ,←ih]
   rfl
theorem cellsA:Try.prog.cellsOf 57=3:=by kernel_rfl
theorem open_asks{H:Type}{enc:TypeId × Value→H}{w:World}{base:Nat}{spare:Nat→Bool}{held:Bool}{a:Option Addr}{len cap:Nat}{d:DataW H}{ps:List MemPlace}
  (h:DataW.Trod enc Try.prog w base spare held 50 (.slice a len cap) d ps):∃l:List (Int × Int × Int),Sl w a (3*l.length) (asks l)∧len=l.length:=by
 obtain⟨fuel,hf⟩:=h
 rcases DataW.trod_slice Try.underlying50 hf with⟨h1,-⟩|⟨a1,len1,cap1,elems,rest,n2,hn2,h1,h2,hba,hlc,-, hel,hget,-⟩
 ·have e:Value.slice a len cap=.slice none 0 0:=by simpa[Value.cells] using h1
  cases e
  exact⟨[],Sl.nil_ w none,rfl⟩
 ·have e:Value.slice a len cap=.slice (some a1) len1 cap1:=by simpa[Value.cells] using h1
  cases e
  have hall:∀i,i < len→∃x:Int × Int × Int,w.cells? base (a1.add (i*3)) 3=some [.int .i64 x.1,.int .i64 x.2.1,.int .i64 x.2.2]:=by
   intro i hi
   have h:=hget i hi
   rw[cellsA] at h
   obtain⟨y,hy⟩:∃y,elems[i]?=some y:=⟨_,List.getElem?_eq_getElem (by omega)⟩
   rw[hy] at h
   obtain⟨ci,hci,htr⟩:=Option.bind_eq_some_iff.1 h
   obtain⟨xs,n,rfl,rfl,hcl,hx,hg⟩:=DataW.trod_struct Try.underlying57 htr
   rw[cellsA] at hcl
   match ci,hcl with
   | [p0,p1,p2],_ =>
    match xs,hx with
    | [y0,y1,y2],_ =>
     have key:∀(p:Value) (y:DataW H × List MemPlace),DataW.trod enc Try.prog w base spare held n 3 [p]=some y→∃n:Int,p=.int .i64 n:=by
      intro p y hp
      obtain⟨n,hn,-, -⟩:=DataW.trod_int Try.underlying3 hp
      exact⟨n,by simpa using hn⟩
     obtain⟨u0,rfl⟩:=key p0 y0 (by have:=hg 0 _ rfl;simpa[Value.cells,cellsI] using this)
     obtain⟨u1,rfl⟩:=key p1 y1 (by have:=hg 1 _ rfl;simpa[Value.cells,cellsI] using this)
     obtain⟨u2,rfl⟩:=key p2 y2 (by have:=hg 2 _ rfl;simpa[Value.cells,cellsI] using this)
     exact⟨(u0,u1,u2),hci⟩
  obtain⟨l,hl,hp⟩:=choose_list len hall
  refine⟨l,⟨asks_len l,fun q v hq=>⟨a1,rfl,?_⟩⟩,hl.symm⟩
  rw[asks_at] at hq
  obtain⟨t,ht,hv⟩:=Option.bind_eq_some_iff.1 hq
  obtain⟨-, -, h3⟩:=World.cells?_some (hp _ t ht)
  have h4:q%3 < 3:=Nat.mod_lt _ (by decide)
  have h5:=h3 (q%3) h4
  rw[hv,Gn.add_add] at h5
  rw[←h5,show q / 3*3+q%3=q by omega]
end Go.Proofs.Ytkahelhoaihajaa.Wr
