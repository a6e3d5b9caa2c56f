/- Joined texts. -/
import Derived.Test.YtoibhnpmemnlfaaGreatDoorQtEdA
set_option linter.unusedVariables false
namespace Go.Proofs.YtoibhnpmemnlfaaGreatDoor.Ed
open Go.RowKit Go.Proofs.YtoibhnpmemnlfaaGreatDoor.Gn Go.Proofs.YtoibhnpmemnlfaaGreatDoor.Fd Go.Deep
theorem rr_scale{a u v:Nat}(hv:v < pp)(hv0:v≠0)(h:cg (a*a*v) u):rr u v=rr (a*a%pp) 1:=by
 have hvc:=not_cg_lt hv0 hv
 have key:u*v ^ (pp - 2)%pp=a*a%pp:=by
  have h1:cg (u*v ^ (pp - 2)) (a*a*v*v ^ (pp - 2)):=(h.mul (cg.rfl' (v ^ (pp - 2)))).symm
  have h2:cg (v*v ^ (pp - 2)) 1:=by
   have:=inv_gen pp_prime (by rw[pp_eq];decide) (n:=v) (by rw[Nat.mod_eq_of_lt hv];exact hv0)
   unfold cg;rw[this,Nat.mod_eq_of_lt pp_one]
  have h3:cg (a*a*v*v ^ (pp - 2)) (a*a*1):=by
   rw[Nat.mul_assoc];exact(cg.rfl' (a*a)).mul h2
  have:=h1.trans h3
  rw[Nat.mul_one] at this
  exact this
 unfold rr
 rw[if_neg hv0,if_neg (by decide:¬(1:Nat)=0),key]
 have e1:a*a%pp*1 ^ (pp - 2)%pp=a*a%pp:=by rw[Nat.one_pow,Nat.mul_one,Nat.mod_mod]
 rw[e1]
def au(y:K):K:=ksub (kmul y y) (kof 1)
def av(y:K):K:=kadd (kmul kd (kmul y y)) (kof 1)
def acr(y:K):Option Nat:=rt (au y).n (av y).n
theorem kof_lt(n:Nat):(kof n).n < pp:=by rw[kof_n];exact mod_lt n
theorem au_lt(y:K):(au y).n < pp:=by unfold au ksub;exact kof_lt _
theorem av_lt(y:K):(av y).n < pp:=by unfold av kadd;exact kof_lt _
theorem acr_rr(y:K):acr y=rr (au y).n (av y).n:=rt_eq _ _ (au_lt y) (av_lt y)
theorem au_f(y:K):fe (au y).n=y.f*y.f - 1:=by
 show(au y).f=_
 unfold au;rw[ksub_f,kmul_f,kof_f,fe_one]
theorem av_f(y:K):fe (av y).n=fe dn*(y.f*y.f)+1:=by
 show(av y).f=_
 unfold av;rw[kadd_f,kmul_f,kmul_f,kof_f,fe_one,kd_f];rfl
theorem av_ne(y:K):(av y).n≠0:=by
 intro h
 have:=av_f y
 rw[h,fe_zero] at this
 exact cv.den_ne y.f this.symm
theorem acr_lt{y:K}{r:Nat}(h:acr y=some r):r < pp∧r%2=0:=by
 rw[acr_rr] at h
 obtain⟨h1,h2,-⟩:=rr_root (av_lt y) (av_ne y) h
 exact⟨h1,h2⟩
def sx(s r:Nat):K:=if s=1 then kneg (kof r) else kof r
theorem sx_f(s r:Nat):(sx s r).f=fe (if s=1 then ng r else r):=by
 unfold sx
 split
 ·rw[kneg_f,kof_f,fe_ng]
 ·rw[kof_f]
def dpt(m s:Nat):Option KP :=
 if m < pp then(match acr (kof m) with
  |none=>none
  |some r=>if s=1∧r=0 then none else some (kheld (sx s r) (kof m))) else none
theorem dpt_has{m s:Nat}{p:KP}(hs:s < 2)(h:dpt m s=some p):∃g,Hp p g∧gb g=m+s*57896044618658097711785492504343953926634992332820282019728792003956564819968:=by
 unfold dpt at h
 split at h
 ·rename_i hm
  cases ha:acr (kof m) with
  |none=>rw[ha] at h;cases h
  |some r =>
   rw[ha] at h
   dsimp only at h
   split at h
   ·cases h
   ·rename_i hn
    obtain rfl:=Option.some.inj h
    have hrr:=ha
    rw[acr_rr] at hrr
    have hmf:(kof m).f=fe m:=kof_f m
    obtain⟨g,gy,gx,gs,gg⟩:=read_some (y:=m) (s:=s) hm (av_lt (kof m)) (by rw[au_f,hmf]) (by rw[av_f,hmf]) hrr hs (fun h1 h2=>hn ⟨h1,h2⟩)
    refine⟨g,?_,gg⟩
    unfold Hp Has kheld KP.pt
    simp only[kmul_f,sx_f,kof_f,fe_one]
    rw[←gx,←gy]
    exact Crv.rep_flat g.on
 ·cases h
theorem dpt_of(g:G):∃p,dpt (fv g.y) (fv g.x%2)=some p∧Hp p g:=by
 have hy:=fv_lt g.y
 have hyf:(kof (fv g.y)).f=g.y:=by rw[kof_f,fe_fv]
 have on:=Crv.on_iff.1 g.on
 have hc:cg (fv g.x*fv g.x*(av (kof (fv g.y))).n) (au (kof (fv g.y))).n:=by
  rw[←fe_eq,fe_mul,fe_mul,fe_fv,au_f,av_f,hyf]
  exact on
 have hrr:=rr_scale (av_lt _) (av_ne _) hc
 obtain⟨r,h1,h2,h3,h4⟩:=rr_square (a:=fv g.x)
 rw[h1] at hrr
 have ha:acr (kof (fv g.y))=some r:=by rw[acr_rr];exact hrr
 have hs:fv g.x%2 < 2:=Nat.mod_lt _ (by decide)
 have hx:=fv_lt g.x
 have h5:cg r (fv g.x)∨cg r (ng (fv g.x)):=h4.imp id fun h=>h.trans (ng_cg _).symm
 have hne:¬(fv g.x%2=1∧r=0):=by
  rintro⟨e1,e2⟩
  subst e2
  have z:fv g.x=0:=by
   rcases h5 with h5|h5
   ·exact(cg_eq h5 h2 hx).symm
   ·have:=cg_eq h5 h2 (ng_lt _)
    by_cases e:fv g.x=0
    ·exact e
    ·rw[ng_of hx e] at this;omega
  rw[z] at e1
  cases e1
 have hd:dpt (fv g.y) (fv g.x%2)=some (kheld (sx (fv g.x%2) r) (kof (fv g.y))):=by
  unfold dpt
  rw[if_pos hy,ha]
  dsimp only
  rw[if_neg hne]
 refine⟨_,hd,?_⟩
 obtain⟨q,hq,hqb⟩:=dpt_has hs hd
 have:q=g:=gb_inj hqb
 subst this
 exact hq
end Go.Proofs.YtoibhnpmemnlfaaGreatDoor.Ed
