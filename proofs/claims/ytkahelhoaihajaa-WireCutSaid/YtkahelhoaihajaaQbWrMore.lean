/- Joined texts. -/
import Derived.Test.YtkahelhoaihajaaQbWrDeep
import Derived.Test.YtkahelhoaihajaaQbWrTread
import Derived.OpenShut
import Derived.WideShapes
import Derived.ChangeArms
import Derived.Test.YtkahelhoaihajaaQbWrPu
set_option linter.unusedVariables false
namespace Go.Proofs.Ytkahelhoaihajaa.Wr
open Go.RowKit Go.Proofs.Ytkahelhoaihajaa.Gn Go.Proofs.Ytkahelhoaihajaa.Fd Go.Deep
mutual
theorem rdv_more{b c d b' c' d':Int}(hb:b≤b')(hc:c≤c')(hd:d≤d')(d0:0≤d)(l:List Nat):∀(f:Nat) (deep:Int) (p:Nat) (k:Int) {v:Nd} {p':Nat} {k':Int},k≤c→rdv b c d l f deep p k=.good v p' k'→rdv b' c' d' l f deep p k=.good v p' k'
 |0,deep,p,k,v,p',k',_,h=>by rw[rdv] at h;cases h
 |f+1,deep,p,k,v,p',k',hk,h=>by
  rw[rdv] at h ⊢
  split at h
  ·cases h
  rename_i h1
  rw[if_neg h1]
  split at h
  ·cases h
  rename_i h2
  rw[if_neg (show ¬b' < deep by omega)]
  split at h
  ·cases h
  rename_i h3
  rw[if_neg (show ¬k=c' by omega)]
  split at h
  ·rename_i h4
   rw[if_pos h4];exact h
  rename_i h4
  rw[if_neg h4]
  split at h
  ·rename_i h5
   rw[if_pos h5]
   split at h
   ·rename_i h6
    rw[if_pos h6]
    split at h
    ·cases h
    rename_i h7
    rw[if_neg (show ¬d' < ((rcl (l.drop (p+1))).1:Int) by omega)]
    exact h
   ·cases h
  rename_i h5
  rw[if_neg h5]
  split at h
  ·rename_i h6
   rw[if_pos h6]
   split at h
   ·rename_i h7
    rw[if_pos h7]
    split at h
    ·cases h
    ·rename_i vs q k2 h8
     rw[rds_more hb hc hd d0 l f _ _ _ _ _ (by omega) h8]
     exact h
   ·cases h
  ·cases h
theorem rds_more{b c d b' c' d':Int}(hb:b≤b')(hc:c≤c')(hd:d≤d')(d0:0≤d)(l:List Nat):∀(f n:Nat) (deep:Int) (p:Nat) (k:Int) (acc:List Nd) {v:List Nd} {p':Nat} {k':Int},k≤c→rds b c d l f n deep p k acc=.good v p' k'→rds b' c' d' l f n deep p k acc=.good v p' k'
 |0,n,deep,p,k,acc,v,p',k',_,h=>by rw[rds] at h;cases h
 |f+1,n,deep,p,k,acc,v,p',k',hk,h=>by
  rw[rds] at h ⊢
  split at h
  ·rename_i h1
   rw[if_pos h1];exact h
  ·rename_i h1
   rw[if_neg h1]
   split at h
   ·cases h
   ·rename_i v2 q k2 h2
    have h3:=rdv_in b c d l d0 f _ _ _ hk h2
    rw[rdv_more hb hc hd d0 l f _ _ _ hk h2]
    exact rds_more hb hc hd d0 l f _ _ _ _ _ h3.2.2.1 h
end
theorem rdw_more{a b c d a' b' c' d':Int}(ha:a≤a')(hb:b≤b')(hc:c≤c')(hd:d≤d')(c0:0≤c)(d0:0≤d){l:List Nat}{v:Nd}{p:Nat}{k:Int}(h:rdw a b c d l=.good v p k):rdw a' b' c' d' l=.good v p k:=by
 unfold rdw at h ⊢
 split at h
 ·cases h
 rename_i h1
 rw[if_neg (show ¬a' < (l.length:Int) by omega)]
 split at h
 ·cases h
 ·rename_i v2 p2 k2 h2
  rw[rdv_more hb hc hd d0 l _ _ _ _ c0 h2]
  exact h
end Go.Proofs.Ytkahelhoaihajaa.Wr
namespace Go.Proofs.Ytkahelhoaihajaa.Wr
open Go.RowKit Go.Proofs.Ytkahelhoaihajaa.Gn Go.Proofs.Ytkahelhoaihajaa.Fd Go.Deep Go.ChangeShapes Go.WideShapes
theorem slice_in{P:Program}{w:World}{r:Reach}{b0:Nat}{t e:TypeId}{A:Option Addr}{n c:Nat}(ht:P.underlying t=some (.slice e))(h:Value.okWide P w r b0 t (.slice A n c)):∀ad,A=some ad→ad.block < w.heap.size:=by
 intro ad e
 subst e
 simp only[Value.okWide,ht,Cell.okWide,Cell.ok] at h
 obtain⟨-, -, -, -, row,cells,hs,-⟩:=h
 rcases Nat.lt_or_ge ad.block w.heap.size with h1|h1
 ·exact h1
 ·unfold World.shape? at hs
  rw[Array.getElem?_eq_none h1] at hs
  cases hs
theorem cellsI:Try.prog.cellsOf 3=1:=by kernel_rfl
theorem cellsL:Try.prog.cellsOf 28=4:=by kernel_rfl
set_option maxRecDepth 100000 in
theorem open_lim{H:Type}{enc:TypeId × Value→H}{w:World}{base:Nat}{spare:Nat→Bool}{held:Bool}{r:Reach}{b0:Nat}{v:Value}{d:DataW H}{ps:List MemPlace}
  (hv:Value.okWide Try.prog w r b0 28 v) (h:DataW.Trod enc Try.prog w base spare held 28 v d ps) :
  ∃x y z u:Int,v=.agg #[.int .i64 x,.int .i64 y,.int .i64 z,.int .i64 u]∧(Lit.int .i64 x).wf∧(Lit.int .i64 y).wf∧(Lit.int .i64 z).wf∧(Lit.int .i64 u).wf:=by
 have hv':∃cs,v=.agg cs∧cs.size=Try.prog.cellsOf 28∧Row.okWide Try.prog w r b0 28 cs:=by
  have h:=hv
  unfold Value.okWide at h
  rw[Try.underlying28] at h
  exact h
 obtain⟨cs,rfl,hsz,-⟩:=hv'
 obtain⟨l⟩:=cs
 have hl:l.length=4:=hsz.trans cellsL
 match l,hl with
 | [p0,p1,p2,p3],_ =>
  obtain⟨fuel,hf⟩:=h
  obtain⟨xs,m,-, -, -, hx,hg⟩:=DataW.trod_struct Try.underlying28 hf
  match xs,hx with
  | [y0,y1,y2,y3],_ =>
   have key:∀(p:Value) (y:DataW H × List MemPlace),DataW.trod enc Try.prog w base spare held m 3 [p]=some y→∃n:Int,p=.int .i64 n∧(Lit.int .i64 n).wf=true:=by
    intro p y hp
    obtain⟨n,hn,-, hw⟩:=DataW.trod_int Try.underlying3 hp
    exact⟨n,by simpa using hn,hw⟩
   obtain⟨a,ha,la⟩:=key p0 y0 (by have:=hg 0 _ rfl;simpa[Value.cells,cellsI] using this)
   obtain⟨b,hb,lb⟩:=key p1 y1 (by have:=hg 1 _ rfl;simpa[Value.cells,cellsI] using this)
   obtain⟨c,hc,lc⟩:=key p2 y2 (by have:=hg 2 _ rfl;simpa[Value.cells,cellsI] using this)
   obtain⟨e,he,le⟩:=key p3 y3 (by have:=hg 3 _ rfl;simpa[Value.cells,cellsI] using this)
   exact⟨a,b,c,e,by rw[ha,hb,hc,he],la,lb,lc,le⟩
end Go.Proofs.Ytkahelhoaihajaa.Wr
