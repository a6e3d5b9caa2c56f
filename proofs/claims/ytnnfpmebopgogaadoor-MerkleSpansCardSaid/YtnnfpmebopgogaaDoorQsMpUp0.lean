/- Joined texts. -/
import Derived.Test.YtnnfpmebopgogaaDoorQsMpHalf
import Derived.Test.YtnnfpmebopgogaaDoorQsMpDoc
import Derived.WalkMore
import Derived.Test.YtnnfpmebopgogaaDoorQsPuA
set_option linter.unusedVariables false
namespace Go.Proofs.YtnnfpmebopgogaaDoor.Mk
open Go.RowKit Go.Proofs.YtnnfpmebopgogaaDoor.Gn Go.Proofs.YtnnfpmebopgogaaDoor.Fd Go.Deep
theorem infobb:(Tryd.prog.info? 22).map (fun i=>(i.zero,i.size,i.bytes))=some (some (.slice none 0 0),1,24):=by kernel_rfl
structure P32 (w:World) (B:Option Addr) (m c:Nat) (P:List Rw):Prop where
 row:Sl w B m (P.map rwv)
 pcs:∀r∈P,Pc w r∧r.2.2.2.length=32
 cap:m≤c
 few:m≤1000000
theorem P32.below{w w':World}{B:Option Addr}{m c:Nat}{P:List Rw}(h:P32 w B m c P)(hb:Below w.heap.size w w'):P32 w' B m c P:=⟨h.row.below hb,fun r hr=>⟨(h.pcs r hr).1.below hb,(h.pcs r hr).2⟩,h.cap,h.few⟩
theorem P32.len{w:World}{B:Option Addr}{m c:Nat}{P:List Rw}(h:P32 w B m c P):P.length=m:=by have:=h.row.1;rwa [List.length_map] at this
theorem P32.take{w:World}{B:Option Addr}{m c:Nat}{P:List Rw}(h:P32 w B m c P){k:Nat}(hk:k≤m):P32 w B k c (P.take k) :=
 ⟨by have:=h.row.take_ k hk;rwa [←List.map_take] at this,fun r hr=>h.pcs r (List.mem_of_mem_take hr),by have:=h.cap;omega,by have:=h.few;omega⟩
def Po(w:World)(r:Rw):Prop:=Pc w r∧w.ownsRow 0 5 1 (rwv r) r.2.2.2.length (bl r.2.2.2)
theorem Po.below{w w':World}{r:Rw}(h:Po w r)(hb:Below w.heap.size w w'):Po w' r:=⟨h.1.below hb,own_below h.2 hb⟩
theorem Po.alloc{w:World}{r:Rw}(h:Po w r)(o:Obj):Po (w.alloc o) r:=h.below ((Below.refl _ _).alloc (Nat.le_refl _) o)
theorem own_other{w w':World}{base base2:Nat}{E1 E2:TypeId}{v v2:Value}{n n2:Nat}{xs xs2:List Value}(h:w.ownsRow base E1 1 v n xs)(h2:w.ownsRow base2 E2 1 v2 n2 xs2)(hE:E1≠E2)(hg:w.grownBy w' v2.ownBlock):w'.ownsRow base E1 1 v n xs:=by
 obtain⟨hl,h3⟩:=h
 refine⟨hl,?_⟩
 rcases h3 with h3|⟨g,cap,cur,hv,hb,hh,r⟩
 ·exact .inl h3
 ·refine .inr ⟨g,cap,cur,hv,hb,(hg.block g ?_ ?_).trans hh,r⟩
  ·rcases Nat.lt_or_ge g w.heap.size with h|h
   ·exact h
   ·rw[Array.getElem?_eq_none h] at hh;cases hh
  ·intro e
   obtain⟨-, h4⟩:=h2
   rcases h4 with⟨rfl,-⟩|⟨g2,cap2,cur2,rfl,-, hh2,-⟩
   ·simp[Value.ownBlock] at e
   ·simp[Value.ownBlock] at e
    subst e
    rw[hh] at hh2
    injection hh2 with h5
    injection h5 with h6 h7 h8
    exact hE h7
theorem Po.grown{w w':World}{r:Rw}{base:Nat}{v2:Value}{n2:Nat}{xs2:List Value}(h:Po w r)(h2:w.ownsRow base 22 1 v2 n2 xs2)(hg:w.grownBy w' v2.ownBlock):Po w' r:=by
 have h3:=own_other h.2 h2 (by decide) hg
 obtain⟨A,c,e,hp⟩:=own_any h3 rfl h.1.lt
 have he:rwv r=.slice r.1 r.2.1 r.2.2.1:=rfl
 rw[he] at e
 injection e with e1 e2 e3
 refine⟨?_,h3⟩
 have:r=(A,r.2.2.2.length,c,r.2.2.2):=by rw[←e1,←e2,←e3]
 rw[this]
 exact hp
structure OwnT (base:Nat) (w:World) (T:Value) (ts:List Rw):Prop where
 own:w.ownsRow base 22 1 T ts.length (ts.map rwv)
 pcs:∀r∈ts,Po w r∧r.2.2.2.length≤100
theorem OwnT.below{base:Nat}{w w':World}{T:Value}{ts:List Rw}(h:OwnT base w T ts)(hb:Below w.heap.size w w'):OwnT base w' T ts:=⟨own_below h.own hb,fun r hr=>⟨(h.pcs r hr).1.below hb,(h.pcs r hr).2⟩⟩
abbrev con(P:List Rw):List (List Nat):=P.map (·.2.2.2)
theorem con_len(P:List Rw):(con P).length=P.length:=by simp[con]
end Go.Proofs.YtnnfpmebopgogaaDoor.Mk
namespace Go.Proofs.YtnnfpmebopgogaaDoor.Mk
open Go.RowKit Go.Proofs.YtnnfpmebopgogaaDoor.Gn Go.Proofs.YtnnfpmebopgogaaDoor.Fd Go.Deep
def OwnP(l:List Nat)(w:World)(e:Ending)(w':World):Prop:=∃A n c,e=.returned (.slice A n c)∧Po w' (A,n,c,l)∧Below w.heap.size w w'
theorem OwnB.p{l:List Nat}{w:World}{e:Ending}{w':World}(h:OwnB l w e w')(hl:∀x∈l,x < 256):OwnP l w e w':=by
 obtain⟨v,rfl,ho,hb⟩:=h
 obtain⟨A,c,rfl,hp⟩:=own_any ho rfl hl
 exact⟨A,_,c,rfl,⟨hp,own_base ho (Nat.zero_le _)⟩,hb⟩
theorem rnode_p{A B:Option Addr}{n m c d:Nat}{x y:List Nat}{w:World}(h1:Pc w (A,n,c,x))(h2:Pc w (B,m,d,y))(hmax:n+m≤900000) :
  Calls Tryd.prog 56 #[.slice A n c,.slice B m d] w (OwnP (1 :: (x ++ y)) w) :=
 (rnode_any h1 h2 hmax).mono fun e w' h=>OwnB.p h fun z hz=>by
  rcases List.mem_cons.1 hz with rfl|hz
  ·decide
  ·rcases List.mem_append.1 hz with h|h
   ·exact h1.lt z h
   ·exact h2.lt z h
theorem rhash_p{A:Option Addr}{n c:Nat}{l:List Nat}{w:World}(h:Pc w (A,n,c,l))(hn:n≤1048576) :
  Calls Tryd.prog 36 #[.slice A n c] w (OwnP (Sh.dg false l) w):=(rhash_any h hn).mono fun e w' h=>OwnB.p h (dg32_lt l)
theorem nil_pc'(w:World):Pc w (none,0,0,[]):=⟨rfl,Sl.nil_ _ _,fun x hx=>by simp at hx,Nat.zero_le _,fun _=>rfl⟩
end Go.Proofs.YtnnfpmebopgogaaDoor.Mk
namespace Go.Proofs.YtnnfpmebopgogaaDoor.Mk
open Go.RowKit Go.Proofs.YtnnfpmebopgogaaDoor.Gn Go.Proofs.YtnnfpmebopgogaaDoor.Fd Go.Deep
abbrev Lw:=Option Addr × Nat × Nat × List Rw
def lwv(r:Lw):Value:=.slice r.1 r.2.1 r.2.2.1
def all32(r:List Rw):Bool:=r.all fun x=>decide (x.2.1=32)
def allAll(L:List Lw):Bool:=L.all fun x=>all32 x.2.2.2
theorem all32_no{r:List Rw}{x:Rw}(hx:x∈r)(h:x.2.1≠32):all32 r=false:=by
 unfold all32
 rw[List.all_eq_false]
 exact⟨x,hx,by simpa using h⟩
theorem allAll_no{L:List Lw}{x:Lw}(hx:x∈L)(h:all32 x.2.2.2=false):allAll L=false:=by
 unfold allAll
 rw[List.all_eq_false]
 exact⟨x,hx,by rw[h];decide⟩
theorem take_all{α:Type}{l:List α}{p:α→Prop}{k:Nat}{x:α}(h:∀y∈l.take k,p y)(hx:l[k]?=some x)(hp:p x):∀y∈l.take (k+1),p y:=by
 intro y hy
 rw[List.take_add_one,hx] at hy
 rcases List.mem_append.1 hy with h1|h1
 ·exact h y h1
 ·have:y=x:=by simpa using h1
  rw[this];exact hp
def DoRel(L:List Lw)(n:Nat)(w:World)(a i:Value)(wr:World):Prop :=
 a=.bool true∧∃k,k≤n∧i=.int .i64 (k:Int)∧(∀y∈L.take k,all32 y.2.2.2=true)∧wr=w
def DiRel(r:List Rw)(n:Nat)(w:World)(a i:Value)(wr:World):Prop :=
 a=.bool true∧∃k,k≤n∧i=.int .i64 (k:Int)∧(∀y∈r.take k,y.2.1=32)∧wr=w
structure Lc (w:World) (r:Lw):Prop where
 len:r.2.1=r.2.2.2.length
 row:Sl w r.1 r.2.1 (r.2.2.2.map rwv)
 few:r.2.1≤1000000
set_option maxRecDepth 100000 in
set_option maxHeartbeats 2000000 in
theorem digests_any(L:List Lw)(A:Option Addr)(len c:Nat)(w:World)(hs:Sl w A len (L.map lwv))(hp:∀l∈L,Lc w l)(hq:∀l∈L,∀r∈l.2.2.2,r.2.1≤1099511627776)(hlen:len≤1000000) :
  Calls Tryd.prog 45 #[.slice A len c] w fun e w'=>e=.returned (.bool (allAll L))∧w=w':=by
 have hll:L.length=len:=by have:=hs.1;rwa [List.length_map] at this
 have RL:=Lib.hid hll
 have HP:=Lib.hid hp
 have HQ:=Lib.hid hq
 have S0:=Lib.hid hs
 clear hs hp hq hll
 go_enter Tryd.func45,Tryd.ntmps45
 go_wp2_with fail
 go_step3
 go_wp2_with fail
 go_step3
 go_wp2_with fail
 go_loopw [3,10] (fun a i wr=>DoRel L len w a i wr) (fun _ i _=>len - (intOf i).toNat)
 case atStart=>exact⟨rfl,0,Nat.zero_le _,rfl,fun y hy=>by simp at hy,rfl⟩
 case round =>
  obtain⟨rfl,k,hk,rfl,hall,rfl⟩:=hrel
  have HA:=Lib.hid hall
  clear hall
  by_cases hlt:k < len
  ·obtain⟨ad,rfl,hcell⟩:=S0.out.at_ hlt
   obtain⟨l,hl⟩:∃l,L[k]?=some l:=⟨L[k]'(by have:=RL.out;omega),List.getElem?_eq_getElem _⟩
   have hm:=List.mem_of_getElem? hl
   have P1:=HP.out l hm
   have Q1:=Lib.hid (HQ.out l hm)
   have HL:=Lib.hid hl
   have HM:=Lib.hid hm
   obtain⟨B,n,d,rows⟩:=l
   have hc:wr.cell? (ad.add k)=some (.slice B n d):=by rw[hcell,List.getElem?_map,hl];rfl
   have hn:n≤1000000:=P1.few
   have P2:=Lib.hid (show Sl wr B n (rows.map rwv) from P1.row)
   have PL:=Lib.hid (show rows.length=n from P1.len.symm)
   clear hcell hl hm P1
   go_wp2_with fail
   go_loopw [3,16] (fun a i w2=>DiRel rows n wr a i w2) (fun _ i _=>n - (intOf i).toNat)
   case atStart=>exact⟨rfl,0,Nat.zero_le _,rfl,fun y hy=>by simp at hy,rfl⟩
   case round =>
    obtain⟨rfl,j,hj,rfl,hin,rfl⟩:=hrel
    have HI:=Lib.hid hin
    clear hin
    by_cases hlt2:j < n
    ·obtain⟨ae,rfl,hcell⟩:=P2.out.at_ hlt2
     obtain⟨r,hr⟩:∃r,rows[j]?=some r:=⟨rows[j]'(by have:=PL.out;omega),List.getElem?_eq_getElem _⟩
     have hm2:=List.mem_of_getElem? hr
     have hmax:=Q1.out r hm2
     have HR:=Lib.hid hr
     have HM2:=Lib.hid hm2
     obtain⟨C,m,f,s⟩:=r
     have hc2:wr.cell? (ae.add j)=some (.slice C m f):=by rw[hcell,List.getElem?_map,hr];rfl
     clear hcell hr hm2
     change m≤1099511627776 at hmax
     by_cases h32:m=32
     ·have HT:=Lib.hid (take_all (p:=fun y=>y.2.1=32) HI.out HR.out h32)
      go_wp2_with fail
      exact⟨⟨rfl,j+1,by omega,by go_num,HT.out,rfl⟩,by simp[intOf];omega⟩
     ·have HN:=Lib.hid (show allAll L=false from allAll_no HM.out (all32_no HM2.out h32))
      go_wp2_with fail
      try rw[Exit.noGoto_ret]
      go_ret
      exact⟨by rw[HN.out];rfl,rfl⟩
    ·obtain rfl:j=n:=by omega
     have HT:=Lib.hid (take_all (p:=fun y=>all32 y.2.2.2=true) HA.out HL.out (by
      have h1:=HI.out
      rw[List.take_of_length_le (by rw[PL.out];exact Nat.le_refl _)] at h1
      unfold all32
      rw[List.all_eq_true]
      intro x hx
      exact decide_eq_true (h1 x hx)))
     go_wp2_with fail
     exact⟨⟨rfl,k+1,by omega,by go_num,HT.out,rfl⟩,by simp[intOf];omega⟩
  ·obtain rfl:k=len:=by omega
   have HN:=Lib.hid (show allAll L=true by
    have h1:=HA.out
    rw[List.take_of_length_le (by rw[RL.out];exact Nat.le_refl _)] at h1
    unfold allAll
    rw[List.all_eq_true]
    exact h1)
   go_wp2_with fail
   try rw[Exit.noGoto_ret]
   go_ret
   exact⟨by rw[HN.out];rfl,rfl⟩
end Go.Proofs.YtnnfpmebopgogaaDoor.Mk
