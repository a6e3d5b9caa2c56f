/- Joined texts. -/
import Derived.Test.YtcnlmekjcffohaaDoorQmMpWay
set_option linter.unusedVariables false
namespace Go.Proofs.YtcnlmekjcffohaaDoor.Mk
open Go.RowKit Go.Proofs.YtcnlmekjcffohaaDoor.Gn Go.Proofs.YtcnlmekjcffohaaDoor.Fd Go.Deep
theorem infobb:(Tryd.prog.info? 22).map (fun i=>(i.zero,i.size,i.bytes))=some (some (.slice none 0 0),1,24):=by kernel_rfl
structure P32 (w:World) (B:Option Addr) (m c:Nat) (P:List Rw):Prop where
 row:Sl w B m (P.map rwv)
 pcs:∀r∈P,Pc w r∧r.2.2.2.length=32
 cap:m≤c
 few:m≤1000000
theorem P32.below{w w':World}{B:Option Addr}{m c:Nat}{P:List Rw}(h:P32 w B m c P)(hb:Below w.heap.size w w'):P32 w' B m c P:=⟨h.row.below hb,fun r hr=>⟨(h.pcs r hr).1.below hb,(h.pcs r hr).2⟩,h.cap,h.few⟩
theorem P32.len{w:World}{B:Option Addr}{m c:Nat}{P:List Rw}(h:P32 w B m c P):P.length=m:=by have:=h.row.1;rwa [List.length_map] at this
theorem P32.take{w:World}{B:Option Addr}{m c:Nat}{P:List Rw}(h:P32 w B m c P){k:Nat}(hk:k≤m):P32 w B k c (P.take k) :=
 ⟨by have:=h.row.take_ k hk;rwa [←List.map_take] at this,fun r hr=>h.pcs r (List.mem_of_mem_take hr),by have:=h.cap;omega,by have:=h.few;omega⟩
def Po(w:World)(r:Rw):Prop:=Pc w r∧w.ownsRow 0 5 1 (rwv r) r.2.2.2.length (bl r.2.2.2)
theorem Po.below{w w':World}{r:Rw}(h:Po w r)(hb:Below w.heap.size w w'):Po w' r:=⟨h.1.below hb,own_below h.2 hb⟩
theorem Po.alloc{w:World}{r:Rw}(h:Po w r)(o:Obj):Po (w.alloc o) r:=h.below ((Below.refl _ _).alloc (Nat.le_refl _) o)
theorem own_other{w w':World}{base base2:Nat}{E1 E2:TypeId}{v v2:Value}{n n2:Nat}{xs xs2:List Value}(h:w.ownsRow base E1 1 v n xs)(h2:w.ownsRow base2 E2 1 v2 n2 xs2)(hE:E1≠E2)(hg:w.grownBy w' v2.ownBlock):w'.ownsRow base E1 1 v n xs:=by
 obtain⟨hl,h3⟩:=h
 refine⟨hl,?_⟩
 rcases h3 with h3|⟨g,cap,cur,hv,hb,hh,r⟩
 ·exact .inl h3
 ·refine .inr ⟨g,cap,cur,hv,hb,(hg.block g ?_ ?_).trans hh,r⟩
  ·rcases Nat.lt_or_ge g w.heap.size with h|h
   ·exact h
   ·rw[Array.getElem?_eq_none h] at hh;cases hh
  ·intro e
   obtain⟨-, h4⟩:=h2
   rcases h4 with⟨rfl,-⟩|⟨g2,cap2,cur2,rfl,-, hh2,-⟩
   ·simp[Value.ownBlock] at e
   ·simp[Value.ownBlock] at e
    subst e
    rw[hh] at hh2
    injection hh2 with h5
    injection h5 with h6 h7 h8
    exact hE h7
theorem Po.grown{w w':World}{r:Rw}{base:Nat}{v2:Value}{n2:Nat}{xs2:List Value}(h:Po w r)(h2:w.ownsRow base 22 1 v2 n2 xs2)(hg:w.grownBy w' v2.ownBlock):Po w' r:=by
 have h3:=own_other h.2 h2 (by decide) hg
 obtain⟨A,c,e,hp⟩:=own_any h3 rfl h.1.lt
 have he:rwv r=.slice r.1 r.2.1 r.2.2.1:=rfl
 rw[he] at e
 injection e with e1 e2 e3
 refine⟨?_,h3⟩
 have:r=(A,r.2.2.2.length,c,r.2.2.2):=by rw[←e1,←e2,←e3]
 rw[this]
 exact hp
structure OwnT (base:Nat) (w:World) (T:Value) (ts:List Rw):Prop where
 own:w.ownsRow base 22 1 T ts.length (ts.map rwv)
 pcs:∀r∈ts,Po w r∧r.2.2.2.length≤100
abbrev con(P:List Rw):List (List Nat):=P.map (·.2.2.2)
def UpQ(ws:List Bool)(x:List Nat)(ps:List (List Nat))(w:World)(e:Ending)(w':World):Prop :=
 ∃(r:Rw) (T:Value) (ts:List Rw) (fb:Bool),e=.returned (.tuple #[rwv r,T,.bool fb])∧fb=decide (ps.length=ws.length)∧Pc w' r∧r.2.2.2.length≤32∧OwnT w.heap.size w' T ts∧ts.length≤ws.length∧(ps.length=ws.length→r.2.2.2=tops ws x ps∧con ts=texts ws x ps)∧Below w.heap.size w w'
theorem con_len(P:List Rw):(con P).length=P.length:=by simp[con]
theorem up_last{ws:List Bool}{x:List Nat}{s:Bool}{P:List Rw}{last:Rw}{w w1:World}{r:Rw}{T:Value}{ts:List Rw}
  (hq:Pc w1 r∧r.2.2.2.length≤32∧OwnT w.heap.size w1 T ts∧ts.length≤ws.length∧((con P).length=ws.length→r.2.2.2=tops ws x (con P)∧con ts=texts ws x (con P)))
  {w3:World} {t d:Rw} {T':Value} (ht:Po w3 t) (htc:t.2.2.2=node s r.2.2.2 last.2.2.2) (hlast:last.2.2.2.length=32) (hd:Pc w3 d) (hdc:d.2.2.2=Sh.dg false t.2.2.2)
  (hown:w3.ownsRow w.heap.size 22 1 T' (ts.length+1) (ts.map rwv ++ [rwv t])) (hts:∀y∈ts,Po w3 y) (hb:Below w.heap.size w w3) {fb:Bool} (hfb:fb=decide ((con P).length=ws.length)) {ps:List (List Nat)} (hps:ps=con (P ++ [last])) :
  UpQ (s :: ws) x ps w (.returned (.tuple #[rwv d,T',.bool fb])) w3:=by
 subst hps
 obtain⟨h1,h2,h3,h4,h5⟩:=hq
 have e1:decide ((con (P ++ [last])).length=(s :: ws).length)=decide ((con P).length=ws.length):=by
  rw[con_len,con_len,List.length_append,List.length_cons]
  simp
 have e2:con (P ++ [last])=con P ++ [last.2.2.2]:=by simp[con]
 refine⟨d,T',ts ++ [t],fb,rfl,by rw[e1];exact hfb,hd,by rw[hdc,dg32_len];exact Nat.le_refl _,⟨?_,?_⟩,?_,?_,hb⟩
 ·rw[List.length_append,List.map_append];exact hown
 ·intro y hy
  rcases List.mem_append.1 hy with h|h
  ·exact⟨hts y h,(h3.pcs y h).2⟩
  ·have:y=t:=by simpa using h
   subst this
   refine⟨ht,?_⟩
   rw[htc]
   unfold node
   cases s <;> simp <;> omega
 ·rw[List.length_append,List.length_cons];simp;exact h4
 ·intro hl
  have hl':(con P).length=ws.length:=by
   rw[con_len,List.length_append,List.length_cons] at hl
   rw[con_len]
   simpa using hl
  obtain⟨g1,g2⟩:=h5 hl'
  rw[e2,tops_step,texts_step,hdc,htc,g1]
  refine⟨rfl,?_⟩
  show(ts ++ [t]).map (·.2.2.2)=_
  rw[List.map_append,show ts.map (·.2.2.2)=con ts from rfl,g2,List.map_cons,htc,g1]
  rfl
end Go.Proofs.YtcnlmekjcffohaaDoor.Mk
