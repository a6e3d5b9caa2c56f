/- Joined texts. -/
import Derived.OpenShut
import Derived.WideShapes
import Derived.ChangeArms
import Derived.Test.YtkahelhoaihajaaQwWrPu
set_option linter.unusedVariables false
namespace Go.Proofs.Ytkahelhoaihajaa.Wr
open Go.RowKit Go.Proofs.Ytkahelhoaihajaa.Gn Go.Proofs.Ytkahelhoaihajaa.Fd Go.Deep Go.ChangeShapes Go.WideShapes
theorem cellsI:Try.prog.cellsOf 3=1:=by kernel_rfl
theorem cellsL:Try.prog.cellsOf 28=4:=by kernel_rfl
set_option maxRecDepth 100000 in
theorem open_lim{H:Type}{enc:TypeId × Value→H}{w:World}{base:Nat}{spare:Nat→Bool}{held:Bool}{r:Reach}{b0:Nat}{v:Value}{d:DataW H}{ps:List MemPlace}
  (hv:Value.okWide Try.prog w r b0 28 v) (h:DataW.Trod enc Try.prog w base spare held 28 v d ps) :
  ∃x y z u:Int,v=.agg #[.int .i64 x,.int .i64 y,.int .i64 z,.int .i64 u]∧(Lit.int .i64 x).wf∧(Lit.int .i64 y).wf∧(Lit.int .i64 z).wf∧(Lit.int .i64 u).wf:=by
 have hv':∃cs,v=.agg cs∧cs.size=Try.prog.cellsOf 28∧Row.okWide Try.prog w r b0 28 cs:=by
  have h:=hv
  unfold Value.okWide at h
  rw[Try.underlying28] at h
  exact h
 obtain⟨cs,rfl,hsz,-⟩:=hv'
 obtain⟨l⟩:=cs
 have hl:l.length=4:=hsz.trans cellsL
 match l,hl with
 | [p0,p1,p2,p3],_ =>
  obtain⟨fuel,hf⟩:=h
  obtain⟨xs,m,-, -, -, hx,hg⟩:=DataW.trod_struct Try.underlying28 hf
  match xs,hx with
  | [y0,y1,y2,y3],_ =>
   have key:∀(p:Value) (y:DataW H × List MemPlace),DataW.trod enc Try.prog w base spare held m 3 [p]=some y→∃n:Int,p=.int .i64 n∧(Lit.int .i64 n).wf=true:=by
    intro p y hp
    obtain⟨n,hn,-, hw⟩:=DataW.trod_int Try.underlying3 hp
    exact⟨n,by simpa using hn,hw⟩
   obtain⟨a,ha,la⟩:=key p0 y0 (by have:=hg 0 _ rfl;simpa[Value.cells,cellsI] using this)
   obtain⟨b,hb,lb⟩:=key p1 y1 (by have:=hg 1 _ rfl;simpa[Value.cells,cellsI] using this)
   obtain⟨c,hc,lc⟩:=key p2 y2 (by have:=hg 2 _ rfl;simpa[Value.cells,cellsI] using this)
   obtain⟨e,he,le⟩:=key p3 y3 (by have:=hg 3 _ rfl;simpa[Value.cells,cellsI] using this)
   exact⟨a,b,c,e,by rw[ha,hb,hc,he],la,lb,lc,le⟩
end Go.Proofs.Ytkahelhoaihajaa.Wr
