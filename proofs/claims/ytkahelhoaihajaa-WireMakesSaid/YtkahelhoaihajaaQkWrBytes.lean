/- Joined texts. -/
import Derived.Test.YtkahelhoaihajaaQkWrTree
import Derived.Test.YtkahelhoaihajaaQkWrCount
set_option linter.unusedVariables false
namespace Go.Proofs.Ytkahelhoaihajaa.Wr
open Go.RowKit Go.Proofs.Ytkahelhoaihajaa.Gn Go.Proofs.Ytkahelhoaihajaa.Fd Go.Deep
mutual
def wb:Tv→List Nat
 |.mk k n r _ _ ks=>k.toNat :: (if k=1 then cb n else if k=2 then cb r.2.1 ++ r.2.2.2 else cb ks.length ++ wbs ks)
def wbs:List Tv→List Nat
 | []=>[]
 |t :: ts=>wb t ++ wbs ts
end
theorem below_one(u:World)(o:Obj):Below u.heap.size u (u.alloc o):=(Below.refl u.heap.size u).alloc (Nat.le_refl _) o
end Go.Proofs.Ytkahelhoaihajaa.Wr
namespace Go.Proofs.Ytkahelhoaihajaa.Wr
open Go.RowKit Go.Proofs.Ytkahelhoaihajaa.Gn Go.Proofs.Ytkahelhoaihajaa.Fd Go.Deep
theorem wbs_append(a b:List Tv):wbs (a ++ b)=wbs a ++ wbs b:=by
 induction a with
 |nil=>simp[wbs]
 |cons t a ih=>rw[List.cons_append,wbs,wbs,ih,List.append_assoc]
theorem wbs_snoc{ks:List Tv}{k:Nat}{t:Tv}(h:ks[k]?=some t):wbs (ks.take (k+1))=wbs (ks.take k) ++ wb t:=by
 rw[List.take_add_one,h,wbs_append];simp[wbs]
theorem rights_mem:∀ {ks:List Tv},rights ks=true→∀t∈ks,right t=true:=by
 intro ks
 induction ks with
 |nil=>intro _ t h;cases h
 |cons a ks ih =>
  intro h t ht
  rw[rights,Bool.and_eq_true] at h
  rcases List.mem_cons.1 ht with rfl|ht
  ·exact h.1
  ·exact ih h.2 t ht
end Go.Proofs.Ytkahelhoaihajaa.Wr
namespace Go.Proofs.Ytkahelhoaihajaa.Wr
open Go.RowKit Go.Proofs.Ytkahelhoaihajaa.Gn Go.Proofs.Ytkahelhoaihajaa.Fd Go.Deep
theorem kid_at{ks:List Tv}{A:Option Addr}{w wr:World}{k:Nat}{t:Tv}(hs:Sl w A (4*ks.length) (flat ks))(ht:ks[k]?=some t)(hb:Below w.heap.size w wr):∃ad,A=some ad∧∀j v,t.row[j]?=some v→wr.cell? ((ad.add (4*k)).add j)=some v:=by
 have h0:t.row[0]?=some t.row[0]!:=by cases t;rfl
 obtain⟨ad,e,-⟩:=hs.2 _ _ (flat_get ks k 0 t _ ht h0)
 refine⟨ad,e,fun j v hv=>?_⟩
 obtain⟨ad',e',hc⟩:=hs.2 _ _ (flat_get ks k j t v ht hv)
 obtain rfl:ad=ad':=by rw[e] at e';injection e'
 rw[ad_add]
 exact(hb.cell (cell_lt hc)).trans hc
end Go.Proofs.Ytkahelhoaihajaa.Wr
