/- Joined texts. -/
import Derived.IntWalk
import Derived.Test.YtjimhjfjfpeojaaGreatDoorQvEdH
import Derived.Test.YtjimhjfjfpeojaaGreatDoorQvEdA
set_option maxRecDepth 100000
set_option maxHeartbeats 8000000
set_option linter.unusedVariables false
namespace Go.Proofs.YtjimhjfjfpeojaaGreatDoor.Ed
open Go.RowKit Go.Proofs.YtjimhjfjfpeojaaGreatDoor.Gn Go.Proofs.YtjimhjfjfpeojaaGreatDoor.Fd Go.Deep
theorem K.sz(x y:K):x.v.size=y.v.size:=by
 show 5=5
 rfl
theorem Z6k(y yy u dy v k rk:K)(b:Bool)(w0:World)(tab:TabE w0)
  (SQ:∀w,Calls Tryz.prog 59 #[.agg (K.v y)] w fun e w'=>e=.returned (.agg (K.v yy))∧Below w.heap.size w w') (SB:∀w,Calls Tryz.prog 58 #[.agg (K.v yy),.agg (K.v (kof 1))] w fun e w'=>e=.returned (.agg (K.v u))∧Below w.heap.size w w') (ML:∀w,Calls Tryz.prog 56 #[.agg (K.v k),.agg (K.v yy)] w fun e w'=>e=.returned (.agg (K.v dy))∧Below w.heap.size w w') (AD:∀w,Calls Tryz.prog 60 #[.agg (K.v dy),.agg (K.v (kof 1))] w fun e w'=>e=.returned (.agg (K.v v))∧Below w.heap.size w w')
  (RT:∀w,TabE w→Calls Tryz.prog 85 #[.agg (K.v u),.agg (K.v v)] w fun e w'=>e=.returned (.tuple #[.agg (K.v rk),.bool b])∧Below w.heap.size w w')
  (hr:∀z,Below w0.heap.size w0 z→z.rangeAt 0 0 k.v.toList) :
  Calls Tryz.prog 44 #[.agg y.v] w0 fun e w'=>e=.returned (.tuple #[.agg (K.v rk),.bool b])∧Below w0.heap.size w0 w':=by
 have hl1:0 < w0.heap.size:=Z0h tab.d.1
 go_enter Tryz.func44,Tryz.ntmps44
 go_upto_region 1 with(fail)
 refine Z50 _ _ _ _ _ ?_
 intro W0 B0 B1 D0 hs
 refine Z02 (sp:=[some (.agg (K.v (kof 1))),some (.agg (K.v y)),some (.agg (K.v yy)),none,none,none,none]) (vs:=[⟨3,5,26,z5,(K.v (kof 1))⟩,⟨4,6,26,z5,(K.v yy)⟩]) (out:=none) (by kernel_rfl) (by kernel_rfl) (by kernel_rfl) (by kernel_rfl) (by kernel_rfl) (by simp) ?_ ?_
 ·refine Each.cons ?_<|Each.cons ?_<|Each.cons ?_<|Each.cons ?_<|Each.cons ?_<|Each.cons ?_<|Each.cons ?_<|Each.nil
  ·exact OV.call 82 #[.int .u64 1] (.agg (K.v (kof 1))) (by kernel_rfl) (fun γ=>by kernel_rfl) (by kernel_rfl) (fun γ w=>by kernel_rfl) (fun w _=>Zaq w)
  ·exact OV.load w0.heap.size 0 5 26 (K.v y) B0 (by simp) ((K.v y)) 26 (.tmp 1) _ (by kernel_rfl) (fun γ=>by kernel_rfl) (by kernel_rfl) rfl (fun γ=>by kernel_rfl) (by kernel_rfl) (by kernel_rfl) Tryz.underlying26 rfl Z0b
  ·exact OV.call 59 #[.agg (K.v y)] (.agg (K.v yy)) (by kernel_rfl) (fun γ=>by kernel_rfl) (by kernel_rfl) (fun γ w=>by kernel_rfl) (fun w _=>SQ w)
  ·exact OV.new_ ⟨3,5,26,z5,(K.v (kof 1))⟩ (List.Mem.head _) rfl (by kernel_rfl) (by simp) (by kernel_rfl) (fun γ=>by kernel_rfl) (fun γ w=>by kernel_rfl)
  ·exact OV.new_ ⟨4,6,26,z5,(K.v yy)⟩ (List.Mem.tail _ (List.Mem.head _)) rfl (by kernel_rfl) (by simp) (by kernel_rfl) (fun γ=>by kernel_rfl) (fun γ w=>by kernel_rfl)
  ·exact OV.put_ ⟨3,5,26,z5,(K.v (kof 1))⟩ (List.Mem.head _) rfl (by kernel_rfl) (by simp) (by kernel_rfl) (fun γ=>by kernel_rfl) (by kernel_rfl) 26 (.tmp 4) (.tmp 6) rfl (fun γ=>by kernel_rfl) (fun γ=>by kernel_rfl) (by kernel_rfl) Z0b (K.ones _)
  ·exact OV.put_ ⟨4,6,26,z5,(K.v yy)⟩ (List.Mem.tail _ (List.Mem.head _)) rfl (by kernel_rfl) (by simp) (by kernel_rfl) (fun γ=>by kernel_rfl) (by kernel_rfl) 26 (.tmp 5) (.tmp 8) rfl (fun γ=>by kernel_rfl) (fun γ=>by kernel_rfl) (by kernel_rfl) Z0b (K.ones _)
 intro γ W1 hgr1 hat hx2 hres
 clear hx2
 have B2:=B0.grown hgr1 (by simp)
 have B3:=B1.grown hgr1 (by simp)
 obtain⟨h1_0,eh1_0,lh1_0,B4⟩:=hat _ (List.Mem.head _)
 obtain⟨h1_1,eh1_1,lh1_1,B5⟩:=hat _ (List.Mem.tail _ (List.Mem.head _))
 have D1:=Z0j D0 hgr1
 have z1:=hgr1.size
 dsimp only at eh1_0 eh1_1
 clear hat hres hgr1 D0 B0 B1
 simp only[fr,fill,exa,spx,List.map_cons,List.map_nil,List.getElem?_cons_zero,List.getElem?_cons_succ,List.setIfInBounds_toArray,List.set_cons_zero,List.set_cons_succ,eh1_0,eh1_1]
 go_upto_region 2 with(fail)
 have DX:=D1
 refine Z02 (sp:=[some (.agg (K.v yy)),some (.agg (K.v (kof 1))),some (.agg (K.v u)),some (.agg (K.v k)),some (.agg (K.v yy)),some (.agg (K.v dy)),some (.agg (K.v (kof 1))),some (.agg (K.v v)),some (.tuple #[.agg (K.v rk),.bool b]),some (.agg (K.v rk)),some (.bool b),none,some (.bool b)]) (vs:=[]) (out:=(some ⟨11,w0.heap.size+1,26,z5,(K.v rk)⟩)) (by kernel_rfl) (by kernel_rfl) (by kernel_rfl) (by kernel_rfl) (by kernel_rfl) (fun r hr=>by obtain rfl:_=r:=Option.some.inj hr;exact⟨show w0.heap.size+1 < _ from by omega,B3,Nat.le_of_ble_eq_true (by kernel_rfl)⟩) ?_ ?_
 ·refine Each.cons ?_<|Each.cons ?_<|Each.cons ?_<|Each.cons ?_<|Each.cons ?_<|Each.cons ?_<|Each.cons ?_<|Each.cons ?_<|Each.cons ?_<|Each.cons ?_<|Each.cons ?_<|Each.cons ?_<|Each.cons ?_<|Each.nil
  ·exact OV.load h1_1 0 5 26 (K.v yy) B5 (by simp only[Option.map_some,ne_eq,Option.some.injEq];omega) ((K.v yy)) 26 (.tmp 5) _ (by kernel_rfl) (fun γ=>by kernel_rfl) (by kernel_rfl) rfl (fun γ=>by kernel_rfl) (by kernel_rfl) (by kernel_rfl) Tryz.underlying26 rfl Z0b
  ·exact OV.load h1_0 0 5 26 (K.v ((kof 1))) B4 (by simp only[Option.map_some,ne_eq,Option.some.injEq];omega) ((K.v (kof 1))) 26 (.tmp 4) _ (by kernel_rfl) (fun γ=>by kernel_rfl) (by kernel_rfl) rfl (fun γ=>by kernel_rfl) (by kernel_rfl) (by kernel_rfl) Tryz.underlying26 rfl Z0b
  ·exact OV.call 58 #[.agg (K.v yy),.agg (K.v (kof 1))] (.agg (K.v u)) (by kernel_rfl) (fun γ=>by kernel_rfl) (by kernel_rfl) (fun γ w=>by kernel_rfl) (fun w _=>SB w)
  ·exact OV.range 0 _ (hr _ D1) (by simp only[Option.map_some,ne_eq,Option.some.injEq];omega) 26 (.global 0) (by kernel_rfl) (fun γ=>by kernel_rfl) (by kernel_rfl) rfl (fun γ=>by kernel_rfl) Tryz.underlying26 rfl Z0b
  ·exact OV.load h1_1 0 5 26 (K.v yy) B5 (by simp only[Option.map_some,ne_eq,Option.some.injEq];omega) ((K.v yy)) 26 (.tmp 5) _ (by kernel_rfl) (fun γ=>by kernel_rfl) (by kernel_rfl) rfl (fun γ=>by kernel_rfl) (by kernel_rfl) (by kernel_rfl) Tryz.underlying26 rfl Z0b
  ·exact OV.call 56 #[.agg (K.v k),.agg (K.v yy)] (.agg (K.v dy)) (by kernel_rfl) (fun γ=>by kernel_rfl) (by kernel_rfl) (fun γ w=>by kernel_rfl) (fun w _=>ML w)
  ·exact OV.load h1_0 0 5 26 (K.v ((kof 1))) B4 (by simp only[Option.map_some,ne_eq,Option.some.injEq];omega) ((K.v (kof 1))) 26 (.tmp 4) _ (by kernel_rfl) (fun γ=>by kernel_rfl) (by kernel_rfl) rfl (fun γ=>by kernel_rfl) (by kernel_rfl) (by kernel_rfl) Tryz.underlying26 rfl Z0b
  ·exact OV.call 60 #[.agg (K.v dy),.agg (K.v (kof 1))] (.agg (K.v v)) (by kernel_rfl) (fun γ=>by kernel_rfl) (by kernel_rfl) (fun γ w=>by kernel_rfl) (fun w _=>AD w)
  ·exact OV.call 85 #[.agg (K.v u),.agg (K.v v)] (.tuple #[.agg (K.v rk),.bool b]) (by kernel_rfl) (fun γ=>by kernel_rfl) (by kernel_rfl) (fun γ w=>by kernel_rfl) (fun w _=>RT w (tab.below (Z01 (g:=w0.heap.size+1) DX ‹_› (by omega))))
  ·exact OV.val (.agg (K.v rk)) (by kernel_rfl) (fun γ=>by kernel_rfl) (by kernel_rfl) (fun γ w=>by kernel_rfl)
  ·exact OV.val (.bool b) (by kernel_rfl) (fun γ=>by kernel_rfl) (by kernel_rfl) (fun γ w=>by kernel_rfl)
  ·exact OV.res_ rfl (by kernel_rfl) (by kernel_rfl) (fun γ=>by kernel_rfl) 26 (.tmp 2) (.tmp 18) rfl (fun γ=>by kernel_rfl) (fun γ=>by kernel_rfl) (by kernel_rfl) Z0b (K.ones _)
  ·exact OV.val (.bool b) (by kernel_rfl) (fun γ=>by kernel_rfl) (by kernel_rfl) (fun γ w=>by kernel_rfl)
 intro γ w' hgr hx1 hx2 hres
 clear hx1 hx2
 have hb:=hres _ rfl
 have hz:=Z01 (g:=w0.heap.size+1) D1 hgr (by omega)
 rename_i hk0
 refine hk0 _ _ (wp_ret ?_)
 refine bodyPost_ret (v:=.tuple #[.agg (K.v rk),.bool b]) (Gn.results_cell_tmp 2 26 3 (.bool b) (w0.heap.size+1) 26 (K.v rk) Tryz.results44 (by kernel_rfl) (by kernel_rfl) hb Tryz.underlying26 rfl Z0b) rfl ⟨rfl,hz⟩
def au(y:K):K:=ksub (kmul y y) (kof 1)
def av(y:K):K:=kadd (kmul kd (kmul y y)) (kof 1)
def acr(y:K):Option Nat:=rt (au y).n (av y).n
theorem Zkd(n:Nat):(kof n).n < pp:=by rw[Zq5];exact mod_lt n
theorem Zqc(y:K):(au y).n < pp:=by unfold au ksub;exact Zkd _
theorem Zio(y:K):(av y).n < pp:=by unfold av kadd;exact Zkd _
theorem Zft(y:K):acr y=rr (au y).n (av y).n:=rt_eq _ _ (Zqc y) (Zio y)
theorem au_f(y:K):fe (au y).n=y.f*y.f - 1:=by
 show(au y).f=_
 unfold au;rw[Zfl,Z3h,Z21,Z38]
theorem av_f(y:K):fe (av y).n=fe dn*(y.f*y.f)+1:=by
 show(av y).f=_
 unfold av;rw[Zfk,Z3h,Z3h,Z21,Z38,kd_f];rfl
theorem Zqd(y:K):(av y).n≠0:=by
 intro h
 have:=av_f y
 rw[h,Z1e] at this
 exact cv.den_ne y.f this.symm
theorem Z7b{y:K}{r:Nat}(h:acr y=some r):r < pp∧r%2=0:=by
 rw[Zft] at h
 obtain⟨h1,h2,-⟩:=Za9 (Zio y) (Zqd y) h
 exact⟨h1,h2⟩
def sx(s r:Nat):K:=if s=1 then kneg (kof r) else kof r
theorem sx_f(s r:Nat):(sx s r).f=fe (if s=1 then ng r else r):=by
 unfold sx
 split
 ·rw[Zc4,Z21,Zd2]
 ·rw[Z21]
def dpt(m s:Nat):Option KP :=
 if m < pp then(match acr (kof m) with
  |none=>none
  |some r=>if s=1∧r=0 then none else some (Z2i (sx s r) (kof m))) else none
theorem Zmt{m s:Nat}{p:KP}(hs:s < 2)(h:dpt m s=some p):∃g,Hp p g∧gb g=m+s*57896044618658097711785492504343953926634992332820282019728792003956564819968:=by
 unfold dpt at h
 split at h
 ·rename_i hm
  cases ha:acr (kof m) with
  |none=>rw[ha] at h;cases h
  |some r =>
   rw[ha] at h
   dsimp only at h
   split at h
   ·cases h
   ·rename_i hn
    obtain rfl:=Option.some.inj h
    have hrr:=ha
    rw[Zft] at hrr
    have hmf:(kof m).f=fe m:=Z21 m
    obtain⟨g,gy,gx,gs,gg⟩:=Zfj (y:=m) (s:=s) hm (Zio (kof m)) (by rw[au_f,hmf]) (by rw[av_f,hmf]) hrr hs (fun h1 h2=>hn ⟨h1,h2⟩)
    refine⟨g,?_,gg⟩
    unfold Hp Has Z2i KP.pt
    simp only[Z3h,sx_f,Z21,Z38]
    rw[←gx,←gy]
    exact Crv.rep_flat g.on
 ·cases h
end Go.Proofs.YtjimhjfjfpeojaaGreatDoor.Ed
