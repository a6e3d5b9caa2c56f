/- Joined texts. -/
import Derived.Test.YtnnfpmebopgogaaDoorQsMpTop
import Derived.Test.YtnnfpmebopgogaaDoorQsMpRTop
set_option linter.unusedVariables false
namespace Go.Proofs.YtnnfpmebopgogaaDoor.Mk
open Go.RowKit Go.Proofs.YtnnfpmebopgogaaDoor.Gn Go.Proofs.YtnnfpmebopgogaaDoor.Fd Go.Deep
def At0(w:World)(r:Rw):Prop:=Pc w r∧r.2.2.2.length=32∧∃g,r.1=some ⟨g,0,none⟩
theorem At0.below{w w':World}{r:Rw}(h:At0 w r)(hb:Below w.heap.size w w'):At0 w' r:=⟨h.1.below hb,h.2⟩
structure OwnP0 (b1:Nat) (w:World) (T:Value) (us:List Rw):Prop where
 own:w.ownsRow b1 22 1 T us.length (us.map rwv)
 nil:T=.slice none 0 0∨1≤us.length
 pcs:∀r∈us,At0 w r
theorem OwnP0.below{b1:Nat}{w w':World}{T:Value}{us:List Rw}(h:OwnP0 b1 w T us)(hb:Below w.heap.size w w'):OwnP0 b1 w' T us:=⟨own_below h.own hb,h.nil,fun r hr=>(h.pcs r hr).below hb⟩
theorem At0.grown{b1:Nat}{w w':World}{T:Value}{us:List Rw}{r:Rw}(h:At0 w r)(ho:w.ownsRow b1 22 1 T us.length (us.map rwv))(hn:T=.slice none 0 0∨1≤us.length)(hg:w.grownBy w' T.ownBlock):At0 w' r:=by
 obtain⟨hp,hl,g,hr⟩:=h
 refine⟨⟨hp.len,hp.row.only hg ?_,hp.lt,hp.cap,hp.nil⟩,hl,g,hr⟩
 intro ad had e
 rw[hr] at had
 injection had with had
 subst had
 rcases hn with hn|hn
 ·rw[hn] at e;simp[Value.ownBlock] at e
 ·obtain⟨-, h3⟩:=ho
  rcases h3 with⟨rfl,h4⟩|⟨g2,cap,cur,rfl,-, hh,hlc,-, -, hx⟩
  ·simp[Value.ownBlock] at e
  ·simp[Value.ownBlock] at e
   subst e
   obtain⟨ad,e1,hc⟩:=hp.row.at_ (k:=0) (by omega)
   rw[hr] at e1
   injection e1 with e1
   subst e1
   rw[add_at,cell_of_row _ _ _ _ _ _ hh] at hc
   obtain⟨u,us',rfl⟩:∃u us',us=u :: us':=by
    cases us with
    |nil=>simp at hn
    |cons u us'=>exact⟨u,us',rfl⟩
   have h5:(cur.toList.take ((u :: us').length*1))[0]?=some (rwv u):=by first|(rw[hx];rfl)|(rw[←hx];rfl)
   rw[List.getElem?_take_of_lt (by simp)] at h5
   rw[Array.getElem?_toList] at h5
   rw[h5] at hc
   obtain⟨z,hz⟩:∃z:Nat,(bl r.2.2.2)[0]?=some (.int .u8 (z:Int)):=by
    rw[bl_get]
    have:0 < r.2.2.2.length:=by omega
    rw[List.getElem?_eq_getElem this]
    exact⟨_,rfl⟩
   rw[hz] at hc
   injection hc with hc
   unfold rwv at hc
   cases hc
end Go.Proofs.YtnnfpmebopgogaaDoor.Mk
namespace Go.Proofs.YtnnfpmebopgogaaDoor.Mk
open Go.Proofs.YtnnfpmebopgogaaDoor.Fd
def Cl(xs:List (List Nat)):Prop:=∃a∈xs,∃b∈xs,a≠b∧Sh.dg false a=Sh.dg false b
theorem Cl.mono{xs ys:List (List Nat)}(h:Cl xs)(hs:∀a∈xs,a∈ys):Cl ys:=by
 obtain⟨a,ha,b,hb,h1,h2⟩:=h
 exact⟨a,hs a ha,b,hs b hb,h1,h2⟩
theorem eight_inj{n m:Nat}(hn:n≤9223372036854775807)(hm:m≤9223372036854775807)(h:eight n=eight m):n=m:=by
 have h1:by_ n 8=by_ m 8:=List.reverse_inj.1 h
 have h2:=congrArg le h1
 rw[le_by,le_by] at h2
 have h3:(256:Nat) ^ 8=18446744073709551616:=by decide
 rw[h3] at h2
 omega
end Go.Proofs.YtnnfpmebopgogaaDoor.Mk
namespace Go.Proofs.YtnnfpmebopgogaaDoor.Mk
open Go.Proofs.YtnnfpmebopgogaaDoor.Fd
def bes(f t a n:Nat):List (Nat × Nat) :=
 if a+n≤f∨t≤a then[(a,a+n)]
 else if f≤a∧a+n≤t then[]
 else if h:2≤n then bes f t a (half n) ++ bes f t (a+half n) (n - half n) else[]
termination_by n
decreasing_by
 ·have:=half_spec h;omega
 ·have:=half_spec h;omega
theorem bes_apart{f t a n:Nat}(h:a+n≤f∨t≤a):bes f t a n=[(a,a+n)]:=by rw[bes,if_pos h]
theorem bes_in{f t a n:Nat}(h:¬(a+n≤f∨t≤a))(h2:f≤a∧a+n≤t):bes f t a n=[]:=by rw[bes,if_neg h,if_pos h2]
theorem bes_step{f t a n:Nat}(h:¬(a+n≤f∨t≤a))(h2:2≤n):bes f t a n=bes f t a (half n) ++ bes f t (a+half n) (n - half n):=by
 have hs:=half_spec h2
 by_cases hw:f≤a∧a+n≤t
 ·rw[bes_in h hw,bes_in (by omega) (by omega),bes_in (by omega) (by omega)]
  rfl
 ·rw[bes,if_neg h,if_neg hw,dif_pos h2]
theorem bes_one{f t a n:Nat}(h:¬(a+n≤f∨t≤a))(h1:n=1):bes f t a n=[]:=bes_in h (by omega)
theorem bes_len:∀(N n:Nat),n≤N→1≤n→∀(f t a:Nat),(bes f t a n).length≤n:=by
 intro N
 induction N with
 |zero=>intro n h1 h2;omega
 |succ N ih =>
  intro n hN h1 f t a
  by_cases h:a+n≤f∨t≤a
  ·rw[bes_apart h];simpa using h1
  ·by_cases h2:2≤n
   ·have hs:=half_spec h2
    rw[bes_step h h2,List.length_append]
    have e1:=ih (half n) (by omega) (by omega) f t a
    have e2:=ih (n - half n) (by omega) (by omega) f t (a+half n)
    omega
   ·rw[bes_one h (by omega)];exact Nat.zero_le _
theorem bes_mem:∀(N n:Nat),n≤N→1≤n→∀(f t a:Nat),∀p∈bes f t a n,a≤p.1∧p.1 < p.2∧p.2≤a+n:=by
 intro N
 induction N with
 |zero=>intro n h1 h2;omega
 |succ N ih =>
  intro n hN h1 f t a p hp
  by_cases h:a+n≤f∨t≤a
  ·rw[bes_apart h] at hp
   have:p=(a,a+n):=by simpa using hp
   subst this
   exact⟨Nat.le_refl _,by show a < a+n;omega,Nat.le_refl _⟩
  ·by_cases h2:2≤n
   ·have hs:=half_spec h2
    rw[bes_step h h2] at hp
    rcases List.mem_append.1 hp with hp|hp
    ·have e1:=ih (half n) (by omega) (by omega) f t a p hp
     omega
    ·have e2:=ih (n - half n) (by omega) (by omega) f t (a+half n) p hp
     omega
   ·rw[bes_one h (by omega)] at hp;cases hp
def sub(ps:List (List Nat))(x y:Nat):List (List Nat):=(ps.drop x).take (y - x)
def outs(ps:List (List Nat))(f t a n:Nat):List (List Nat):=(bes f t a n).map fun p=>topL (sub ps p.1 p.2)
theorem outs_apart{ps:List (List Nat)}{f t a n:Nat}(h:a+n≤f∨t≤a):outs ps f t a n=[topL (sub ps a (a+n))]:=by rw[outs,bes_apart h];rfl
theorem outs_in{ps:List (List Nat)}{f t a n:Nat}(h:¬(a+n≤f∨t≤a))(h2:f≤a∧a+n≤t):outs ps f t a n=[]:=by rw[outs,bes_in h h2];rfl
theorem outs_step{ps:List (List Nat)}{f t a n:Nat}(h:¬(a+n≤f∨t≤a))(h2:2≤n):outs ps f t a n=outs ps f t a (half n) ++ outs ps f t (a+half n) (n - half n):=by rw[outs,bes_step h h2,List.map_append];rfl
theorem outs_len(ps:List (List Nat)){n:Nat}(h:1≤n)(f t a:Nat):(outs ps f t a n).length≤n:=by rw[outs,List.length_map];exact bes_len n n (Nat.le_refl _) h f t a
def upv(lv pr:List (List Nat))(f t a n j:Nat):List Nat :=
 if a+n≤f∨t≤a then pr.getD j []
 else if f≤a∧a+n≤t then topL (sub lv (a - f) (a+n - f))
 else if h:2≤n then Sh.dg false (1 :: (upv lv pr f t a (half n) j ++ upv lv pr f t (a+half n) (n - half n) (j+(bes f t a (half n)).length))) else[]
termination_by n
decreasing_by
 ·have:=half_spec h;omega
 ·have:=half_spec h;omega
theorem upv_apart{lv pr:List (List Nat)}{f t a n j:Nat}(h:a+n≤f∨t≤a):upv lv pr f t a n j=pr.getD j []:=by rw[upv,if_pos h]
theorem upv_in{lv pr:List (List Nat)}{f t a n j:Nat}(h:¬(a+n≤f∨t≤a))(h2:f≤a∧a+n≤t):upv lv pr f t a n j=topL (sub lv (a - f) (a+n - f)):=by rw[upv,if_neg h,if_pos h2]
theorem upv_step{lv pr:List (List Nat)}{f t a n j:Nat}(h:¬(a+n≤f∨t≤a))(h2:2≤n)(hl:lv.length=t - f) :
  upv lv pr f t a n j=Sh.dg false (1 :: (upv lv pr f t a (half n) j ++ upv lv pr f t (a+half n) (n - half n) (j+(bes f t a (half n)).length))):=by
 have hs:=half_spec h2
 by_cases hw:f≤a∧a+n≤t
 ·have e:(sub lv (a - f) (a+n - f)).length=n:=by unfold sub;rw[List.length_take,List.length_drop];omega
  have e1:(sub lv (a - f) (a+n - f)).take (half n)=sub lv (a - f) (a+half n - f):=by
   unfold sub
   rw[List.take_take]
   congr 1
   omega
  have e2:(sub lv (a - f) (a+n - f)).drop (half n)=sub lv (a+half n - f) (a+half n+(n - half n) - f):=by
   unfold sub
   rw[List.drop_take,List.drop_drop]
   congr 1
   ·omega
   ·congr 1
    omega
  rw[upv_in h hw,topL_step (by rw[e];exact h2),e,e1,e2,upv_in (a:=a) (n:=half n) (by omega) (by omega),upv_in (a:=a+half n) (n:=n - half n) (by omega) (by omega)]
 ·rw[upv,if_neg h,if_neg hw,dif_pos h2]
theorem upv_one{lv pr:List (List Nat)}{f t a n j:Nat}(h:¬(a+n≤f∨t≤a))(h1:n=1)(hl:lv.length=t - f):upv lv pr f t a n j=lv.getD (a - f) []:=by
 subst h1
 rw[upv_in h (by omega)]
 have hk:a - f < lv.length:=by omega
 have e:sub lv (a - f) (a+1 - f)=[lv.getD (a - f) []]:=by
  unfold sub
  rw[show a+1 - f - (a - f)=1 by omega,List.drop_eq_getElem_cons hk,List.take_succ_cons,List.take_zero,List.getD_eq_getElem?_getD,List.getElem?_eq_getElem hk]
  rfl
 rw[e,topL_one]
theorem upv_len{lv pr:List (List Nat)}{f t:Nat}(hl:lv.length=t - f)(h32:∀x∈lv,x.length=32)(hp:∀x∈pr,x.length=32){a n j:Nat}(hn:1≤n)(hj:j+(bes f t a n).length≤pr.length):(upv lv pr f t a n j).length=32:=by
 by_cases h:a+n≤f∨t≤a
 ·rw[bes_apart h,List.length_singleton] at hj
  rw[upv_apart h,List.getD_eq_getElem?_getD,List.getElem?_eq_getElem (by omega)]
  exact hp _ (List.getElem_mem _)
 ·by_cases h2:2≤n
  ·rw[upv_step h h2 hl];exact dg32_len _
  ·rw[upv_one h (by omega) hl,List.getD_eq_getElem?_getD,List.getElem?_eq_getElem (by omega)]
   exact h32 _ (List.getElem_mem _)
def clt(lv pr:List (List Nat))(f t a n j:Nat):List (List Nat) :=
 if a+n≤f∨t≤a then[]
 else if h:2≤n then clt lv pr f t a (half n) j ++ clt lv pr f t (a+half n) (n - half n) (j+(bes f t a (half n)).length) ++ [1 :: (upv lv pr f t a (half n) j ++ upv lv pr f t (a+half n) (n - half n) (j+(bes f t a (half n)).length))] else[]
termination_by n
decreasing_by
 ·have:=half_spec h;omega
 ·have:=half_spec h;omega
theorem clt_apart{lv pr:List (List Nat)}{f t a n j:Nat}(h:a+n≤f∨t≤a):clt lv pr f t a n j=[]:=by rw[clt,if_pos h]
theorem clt_one{lv pr:List (List Nat)}{f t a n j:Nat}(h1:n < 2):clt lv pr f t a n j=[]:=by
 rw[clt]
 split
 ·rfl
 ·rw[dif_neg (by omega)]
theorem clt_step{lv pr:List (List Nat)}{f t a n j:Nat}(h:¬(a+n≤f∨t≤a))(h2:2≤n):clt lv pr f t a n j=clt lv pr f t a (half n) j ++ clt lv pr f t (a+half n) (n - half n) (j+(bes f t a (half n)).length) ++ [1 :: (upv lv pr f t a (half n) j ++ upv lv pr f t (a+half n) (n - half n) (j+(bes f t a (half n)).length))]:=by
 rw[clt,if_neg h,dif_pos h2]
end Go.Proofs.YtnnfpmebopgogaaDoor.Mk
