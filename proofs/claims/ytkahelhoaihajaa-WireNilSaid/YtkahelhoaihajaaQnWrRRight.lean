/- Joined texts. -/
import Derived.Test.YtkahelhoaihajaaQnWrBytesB
set_option linter.unusedVariables false
namespace Go.Proofs.Ytkahelhoaihajaa.Wr
open Go.RowKit Go.Proofs.Ytkahelhoaihajaa.Gn Go.Proofs.Ytkahelhoaihajaa.Fd Go.Deep
theorem kid_at{ks:List Tv}{A:Option Addr}{w wr:World}{k:Nat}{t:Tv}(hs:Sl w A (4*ks.length) (flat ks))(ht:ks[k]?=some t)(hb:Below w.heap.size w wr):∃ad,A=some ad∧∀j v,t.row[j]?=some v→wr.cell? ((ad.add (4*k)).add j)=some v:=by
 have h0:t.row[0]?=some t.row[0]!:=by cases t;rfl
 obtain⟨ad,e,-⟩:=hs.2 _ _ (flat_get ks k 0 t _ ht h0)
 refine⟨ad,e,fun j v hv=>?_⟩
 obtain⟨ad',e',hc⟩:=hs.2 _ _ (flat_get ks k j t v ht hv)
 obtain rfl:ad=ad':=by rw[e] at e';injection e'
 rw[ad_add]
 exact(hb.cell (cell_lt hc)).trans hc
end Go.Proofs.Ytkahelhoaihajaa.Wr
