/- Joined texts. -/
import Derived.Test.YtcnlmekjcffohaaDoorQpMpHalf
import Derived.Test.YtcnlmekjcffohaaDoorQpMpDoc
set_option linter.unusedVariables false
namespace Go.Proofs.YtcnlmekjcffohaaDoor.Mk
open Go.RowKit Go.Proofs.YtcnlmekjcffohaaDoor.Gn Go.Proofs.YtcnlmekjcffohaaDoor.Fd Go.Deep
theorem infobb:(Tryd.prog.info? 22).map (fun i=>(i.zero,i.size,i.bytes))=some (some (.slice none 0 0),1,24):=by kernel_rfl
structure P32 (w:World) (B:Option Addr) (m c:Nat) (P:List Rw):Prop where
 row:Sl w B m (P.map rwv)
 pcs:∀r∈P,Pc w r∧r.2.2.2.length=32
 cap:m≤c
 few:m≤1000000
theorem P32.below{w w':World}{B:Option Addr}{m c:Nat}{P:List Rw}(h:P32 w B m c P)(hb:Below w.heap.size w w'):P32 w' B m c P:=⟨h.row.below hb,fun r hr=>⟨(h.pcs r hr).1.below hb,(h.pcs r hr).2⟩,h.cap,h.few⟩
theorem P32.len{w:World}{B:Option Addr}{m c:Nat}{P:List Rw}(h:P32 w B m c P):P.length=m:=by have:=h.row.1;rwa [List.length_map] at this
theorem P32.take{w:World}{B:Option Addr}{m c:Nat}{P:List Rw}(h:P32 w B m c P){k:Nat}(hk:k≤m):P32 w B k c (P.take k) :=
 ⟨by have:=h.row.take_ k hk;rwa [←List.map_take] at this,fun r hr=>h.pcs r (List.mem_of_mem_take hr),by have:=h.cap;omega,by have:=h.few;omega⟩
def Po(w:World)(r:Rw):Prop:=Pc w r∧w.ownsRow 0 5 1 (rwv r) r.2.2.2.length (bl r.2.2.2)
theorem Po.below{w w':World}{r:Rw}(h:Po w r)(hb:Below w.heap.size w w'):Po w' r:=⟨h.1.below hb,own_below h.2 hb⟩
theorem Po.alloc{w:World}{r:Rw}(h:Po w r)(o:Obj):Po (w.alloc o) r:=h.below ((Below.refl _ _).alloc (Nat.le_refl _) o)
theorem own_other{w w':World}{base base2:Nat}{E1 E2:TypeId}{v v2:Value}{n n2:Nat}{xs xs2:List Value}(h:w.ownsRow base E1 1 v n xs)(h2:w.ownsRow base2 E2 1 v2 n2 xs2)(hE:E1≠E2)(hg:w.grownBy w' v2.ownBlock):w'.ownsRow base E1 1 v n xs:=by
 obtain⟨hl,h3⟩:=h
 refine⟨hl,?_⟩
 rcases h3 with h3|⟨g,cap,cur,hv,hb,hh,r⟩
 ·exact .inl h3
 ·refine .inr ⟨g,cap,cur,hv,hb,(hg.block g ?_ ?_).trans hh,r⟩
  ·rcases Nat.lt_or_ge g w.heap.size with h|h
   ·exact h
   ·rw[Array.getElem?_eq_none h] at hh;cases hh
  ·intro e
   obtain⟨-, h4⟩:=h2
   rcases h4 with⟨rfl,-⟩|⟨g2,cap2,cur2,rfl,-, hh2,-⟩
   ·simp[Value.ownBlock] at e
   ·simp[Value.ownBlock] at e
    subst e
    rw[hh] at hh2
    injection hh2 with h5
    injection h5 with h6 h7 h8
    exact hE h7
theorem Po.grown{w w':World}{r:Rw}{base:Nat}{v2:Value}{n2:Nat}{xs2:List Value}(h:Po w r)(h2:w.ownsRow base 22 1 v2 n2 xs2)(hg:w.grownBy w' v2.ownBlock):Po w' r:=by
 have h3:=own_other h.2 h2 (by decide) hg
 obtain⟨A,c,e,hp⟩:=own_any h3 rfl h.1.lt
 have he:rwv r=.slice r.1 r.2.1 r.2.2.1:=rfl
 rw[he] at e
 injection e with e1 e2 e3
 refine⟨?_,h3⟩
 have:r=(A,r.2.2.2.length,c,r.2.2.2):=by rw[←e1,←e2,←e3]
 rw[this]
 exact hp
structure OwnT (base:Nat) (w:World) (T:Value) (ts:List Rw):Prop where
 own:w.ownsRow base 22 1 T ts.length (ts.map rwv)
 pcs:∀r∈ts,Po w r∧r.2.2.2.length≤100
theorem OwnT.below{base:Nat}{w w':World}{T:Value}{ts:List Rw}(h:OwnT base w T ts)(hb:Below w.heap.size w w'):OwnT base w' T ts:=⟨own_below h.own hb,fun r hr=>⟨(h.pcs r hr).1.below hb,(h.pcs r hr).2⟩⟩
abbrev con(P:List Rw):List (List Nat):=P.map (·.2.2.2)
theorem con_len(P:List Rw):(con P).length=P.length:=by simp[con]
end Go.Proofs.YtcnlmekjcffohaaDoor.Mk
namespace Go.Proofs.YtcnlmekjcffohaaDoor.Mk
open Go.RowKit Go.Proofs.YtcnlmekjcffohaaDoor.Gn Go.Proofs.YtcnlmekjcffohaaDoor.Fd Go.Deep
def OwnP(l:List Nat)(w:World)(e:Ending)(w':World):Prop:=∃A n c,e=.returned (.slice A n c)∧Po w' (A,n,c,l)∧Below w.heap.size w w'
theorem OwnB.p{l:List Nat}{w:World}{e:Ending}{w':World}(h:OwnB l w e w')(hl:∀x∈l,x < 256):OwnP l w e w':=by
 obtain⟨v,rfl,ho,hb⟩:=h
 obtain⟨A,c,rfl,hp⟩:=own_any ho rfl hl
 exact⟨A,_,c,rfl,⟨hp,own_base ho (Nat.zero_le _)⟩,hb⟩
theorem rnode_p{A B:Option Addr}{n m c d:Nat}{x y:List Nat}{w:World}(h1:Pc w (A,n,c,x))(h2:Pc w (B,m,d,y))(hmax:n+m≤900000) :
  Calls Tryd.prog 64 #[.slice A n c,.slice B m d] w (OwnP (1 :: (x ++ y)) w) :=
 (rnode_any h1 h2 hmax).mono fun e w' h=>OwnB.p h fun z hz=>by
  rcases List.mem_cons.1 hz with rfl|hz
  ·decide
  ·rcases List.mem_append.1 hz with h|h
   ·exact h1.lt z h
   ·exact h2.lt z h
theorem rhash_p{A:Option Addr}{n c:Nat}{l:List Nat}{w:World}(h:Pc w (A,n,c,l))(hn:n≤1048576) :
  Calls Tryd.prog 33 #[.slice A n c] w (OwnP (Sh.dg false l) w):=(rhash_any h hn).mono fun e w' h=>OwnB.p h (dg32_lt l)
end Go.Proofs.YtcnlmekjcffohaaDoor.Mk
