/- Joined texts. -/
import Derived.Test.YtkahelhoaihajaaQnWrBytes
set_option linter.unusedVariables false
namespace Go.Proofs.Ytkahelhoaihajaa.Wr
open Go.RowKit Go.Proofs.Ytkahelhoaihajaa.Gn Go.Proofs.Ytkahelhoaihajaa.Fd Go.Deep
theorem wbs_append(a b:List Tv):wbs (a ++ b)=wbs a ++ wbs b:=by
 induction a with
 |nil=>simp[wbs]
 |cons t a ih=>rw[List.cons_append,wbs,wbs,ih,List.append_assoc]
theorem wbs_snoc{ks:List Tv}{k:Nat}{t:Tv}(h:ks[k]?=some t):wbs (ks.take (k+1))=wbs (ks.take k) ++ wb t:=by
 rw[List.take_add_one,h,wbs_append];simp[wbs]
theorem rights_mem:∀ {ks:List Tv},rights ks=true→∀t∈ks,right t=true:=by
 intro ks
 induction ks with
 |nil=>intro _ t h;cases h
 |cons a ks ih =>
  intro h t ht
  rw[rights,Bool.and_eq_true] at h
  rcases List.mem_cons.1 ht with rfl|ht
  ·exact h.1
  ·exact ih h.2 t ht
end Go.Proofs.Ytkahelhoaihajaa.Wr
