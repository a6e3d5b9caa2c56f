/- Joined texts. -/
import Derived.Test.YtcnlmekjcffohaaDoorQoMpTop
set_option linter.unusedVariables false
namespace Go.Proofs.YtcnlmekjcffohaaDoor.Mk
open Go.RowKit Go.Proofs.YtcnlmekjcffohaaDoor.Gn Go.Proofs.YtcnlmekjcffohaaDoor.Fd Go.Deep
def pathL(ps:List (List Nat))(k:Nat):List (List Nat) :=
 if h:2≤ps.length then(if k < half ps.length then pathL (ps.take (half ps.length)) k ++ [topL (ps.drop (half ps.length))] else pathL (ps.drop (half ps.length)) (k - half ps.length) ++ [topL (ps.take (half ps.length))]) else[]
termination_by ps.length
decreasing_by
 ·have:=half_spec h;rw[List.length_take];omega
 ·have:=half_spec h;rw[List.length_drop];omega
theorem pathL_one{ps:List (List Nat)}(h:ps.length < 2)(k:Nat):pathL ps k=[]:=by rw[pathL,dif_neg (by omega)]
theorem pathL_first{ps:List (List Nat)}{k:Nat}(h:2≤ps.length)(hk:k < half ps.length):pathL ps k=pathL (ps.take (half ps.length)) k ++ [topL (ps.drop (half ps.length))]:=by rw[pathL,dif_pos h,if_pos hk]
theorem pathL_second{ps:List (List Nat)}{k:Nat}(h:2≤ps.length)(hk:¬k < half ps.length):pathL ps k=pathL (ps.drop (half ps.length)) (k - half ps.length) ++ [topL (ps.take (half ps.length))]:=by rw[pathL,dif_pos h,if_neg hk]
theorem path_tops:∀(N:Nat) (ps:List (List Nat)) (k:Nat),ps.length≤N→k < ps.length→tops (way ps.length k) (ps.getD k []) (pathL ps k)=topL ps∧(pathL ps k).length=(way ps.length k).length:=by
 intro N
 induction N with
 |zero=>intro ps k h1 h2;omega
 |succ N ih =>
  intro ps k hN hk
  by_cases h2:2≤ps.length
  ·have hs:=half_spec h2
   by_cases hc:k < half ps.length
   ·have e:=ih (ps.take (half ps.length)) k (by rw[List.length_take];omega) (by rw[List.length_take];omega)
    rw[show(ps.take (half ps.length)).length=half ps.length by rw[List.length_take];omega] at e
    have e3:(ps.take (half ps.length)).getD k []=ps.getD k []:=by
     rw[List.getD_eq_getElem?_getD,List.getD_eq_getElem?_getD,List.getElem?_take_of_lt hc]
    rw[e3] at e
    rw[pathL_first h2 hc,way_first h2 (by omega),tops_step,e.1,topL_step h2,List.length_append,List.length_cons,e.2]
    exact⟨rfl,rfl⟩
   ·have e:=ih (ps.drop (half ps.length)) (k - half ps.length) (by rw[List.length_drop];omega) (by rw[List.length_drop];omega)
    rw[show(ps.drop (half ps.length)).length=ps.length - half ps.length by rw[List.length_drop]] at e
    have e3:(ps.drop (half ps.length)).getD (k - half ps.length) []=ps.getD k []:=by
     rw[List.getD_eq_getElem?_getD,List.getD_eq_getElem?_getD,List.getElem?_drop,show half ps.length+(k - half ps.length)=k by omega]
    rw[e3] at e
    rw[pathL_second h2 hc,way_second h2 (by omega),tops_step,e.1,topL_step h2,List.length_append,List.length_cons,e.2]
    exact⟨rfl,rfl⟩
  ·rw[pathL_one (by omega),way_one (by omega)]
   match ps,hk with
   | [x],hk =>
    have:k=0:=by simp at hk;exact hk
    subst this
    rw[topL_one]
    exact⟨rfl,rfl⟩
   | [],hk=>simp at hk
   |x :: y :: l,_=>simp at h2
def At0(w:World)(r:Rw):Prop:=Pc w r∧r.2.2.2.length=32∧∃g,r.1=some ⟨g,0,none⟩
theorem At0.below{w w':World}{r:Rw}(h:At0 w r)(hb:Below w.heap.size w w'):At0 w' r:=⟨h.1.below hb,h.2⟩
structure OwnP0 (b1:Nat) (w:World) (T:Value) (us:List Rw):Prop where
 own:w.ownsRow b1 22 1 T us.length (us.map rwv)
 nil:T=.slice none 0 0∨1≤us.length
 pcs:∀r∈us,At0 w r
theorem OwnP0.below{b1:Nat}{w w':World}{T:Value}{us:List Rw}(h:OwnP0 b1 w T us)(hb:Below w.heap.size w w'):OwnP0 b1 w' T us:=⟨own_below h.own hb,h.nil,fun r hr=>(h.pcs r hr).below hb⟩
theorem At0.grown{b1:Nat}{w w':World}{T:Value}{us:List Rw}{r:Rw}(h:At0 w r)(ho:w.ownsRow b1 22 1 T us.length (us.map rwv))(hn:T=.slice none 0 0∨1≤us.length)(hg:w.grownBy w' T.ownBlock):At0 w' r:=by
 obtain⟨hp,hl,g,hr⟩:=h
 refine⟨⟨hp.len,hp.row.only hg ?_,hp.lt,hp.cap,hp.nil⟩,hl,g,hr⟩
 intro ad had e
 rw[hr] at had
 injection had with had
 subst had
 rcases hn with hn|hn
 ·rw[hn] at e;simp[Value.ownBlock] at e
 ·obtain⟨-, h3⟩:=ho
  rcases h3 with⟨rfl,h4⟩|⟨g2,cap,cur,rfl,-, hh,hlc,-, -, hx⟩
  ·simp[Value.ownBlock] at e
  ·simp[Value.ownBlock] at e
   subst e
   obtain⟨ad,e1,hc⟩:=hp.row.at_ (k:=0) (by omega)
   rw[hr] at e1
   injection e1 with e1
   subst e1
   rw[add_at,cell_of_row _ _ _ _ _ _ hh] at hc
   obtain⟨u,us',rfl⟩:∃u us',us=u :: us':=by
    cases us with
    |nil=>simp at hn
    |cons u us'=>exact⟨u,us',rfl⟩
   have h5:(cur.toList.take ((u :: us').length*1))[0]?=some (rwv u):=by first|(rw[hx];rfl)|(rw[←hx];rfl)
   rw[List.getElem?_take_of_lt (by simp)] at h5
   rw[Array.getElem?_toList] at h5
   rw[h5] at hc
   obtain⟨z,hz⟩:∃z:Nat,(bl r.2.2.2)[0]?=some (.int .u8 (z:Int)):=by
    rw[bl_get]
    have:0 < r.2.2.2.length:=by omega
    rw[List.getElem?_eq_getElem this]
    exact⟨_,rfl⟩
   rw[hz] at hc
   injection hc with hc
   unfold rwv at hc
   cases hc
end Go.Proofs.YtcnlmekjcffohaaDoor.Mk
