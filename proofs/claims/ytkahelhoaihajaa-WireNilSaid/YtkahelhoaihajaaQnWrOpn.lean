/- Joined texts. -/
import Derived.Test.YtkahelhoaihajaaQnWrNext
set_option linter.unusedVariables false
namespace Go.Proofs.Ytkahelhoaihajaa.Wr
open Go.RowKit Go.Proofs.Ytkahelhoaihajaa.Gn Go.Proofs.Ytkahelhoaihajaa.Fd Go.Deep
structure Fl (w:World) (g:Nat) (ks:List Tv):Prop where
 mk' ::
 row:∃A c,Bl w g 107 #[.bool true,.slice A ks.length c]∧Sl w A (4*ks.length) (flat ks)∧(A=none→c=0)∧ks.length≤c∧(∀ad,A=some ad→0 < ks.length→ad.block < g)
 ok:∀t∈ks,Ok w t
 away:liess (fun k=>k < g) ks
set_option maxHeartbeats 4000000 in
set_option maxRecDepth 100000 in
theorem Open_list{w0:World}{N:Nat}{r:Rw}{A:Option Addr}{c:Nat}{ks:List Tv}(hv:Ok w0 (.mk 3 N r A c ks))(hz:sz (.mk 3 N r A c ks)≤1000000)(w:World)(hu:Below w0.heap.size w0 w) :
  Calls Try.prog 30 #[.agg #[.int .i64 3,.int .u64 (N:Int),.slice r.1 r.2.1 r.2.2.1,.slice A ks.length c]] w fun e w'=>∃g us,e=.returned (.pointer (some ⟨g,0,none⟩))∧nds us=nds ks∧Fl w' g us∧w.heap.size≤g∧g < w'.heap.size∧Below w.heap.size w w':=by
 have B0:=Lib.hid (below_one w (.cells #[.int .i64 3,.int .u64 (N:Int),.slice r.1 r.2.1 r.2.2.1,.slice A ks.length c] 26))
 have CC:=Lib.hid (copies_any hv 3 N r A c ks rfl hz _ (hu.trans (B0.out.mono hu.size)))
 clear hv hz hu
 go_enter Try.func30,Try.ntmps30
 go_wp2_with (go_at_call 61;(refine CC.out.mono ?_);rintro e w1 ⟨us,A',c',rfl,h1,h2,h3,h4,h5,h6,h7,h8,h9⟩;have Y:=Lib.hid (And.intro h1 (And.intro h3 (And.intro h4 (And.intro h5 (And.intro h6 (And.intro h7 h9))))));clear h1 h2 h3 h4 h5 h6 h7 h8 h9)
 go_ret
 obtain⟨h1,h3,h4,h5,h6,h7,h9⟩:=Y.out
 have hb:=below_one w1 (.cells #[.bool true,.slice A' us.length c'] 107)
 refine⟨_,us,rfl,h1,⟨⟨A',c',Bl.new_ w1 _ _,h3.below hb,h4,h5,fun ad e hp=>?_⟩,fun t ht=>(h6 t ht).keep hb,?_⟩,?_,by simp,B0.out.trans ((h9.trans (hb.mono h9.size)).mono B0.out.size)⟩
 ·obtain⟨ad',e',hc⟩:=h3.at_ (show 0 < 4*us.length by omega)
  rw[e] at e';cases e'
  have:=cell_lt (v:=(flat us)[0]'(by rw[flat_len];omega)) (by rw[hc];exact List.getElem?_eq_getElem _)
  rwa [add_block] at this
 ·exact liess.mono (fun k h=>h.2) (liess.lt h6 h7)
 ·have h:=h9.size;simp at h;omega
end Go.Proofs.Ytkahelhoaihajaa.Wr
