/- Joined texts. -/
import Derived.Test.YtjimhjfjfpeojaaGreatDoorQvAvP
import Derived.Test.YtjimhjfjfpeojaaGreatDoorQvEdI
set_option maxRecDepth 100000
set_option maxHeartbeats 8000000
set_option linter.unusedVariables false
namespace Go.Proofs.YtjimhjfjfpeojaaGreatDoor.Av
open Go.RowKit Go.Proofs.YtjimhjfjfpeojaaGreatDoor.Gn Go.Proofs.YtjimhjfjfpeojaaGreatDoor.Fd Go.Proofs.YtjimhjfjfpeojaaGreatDoor.Ed Go.Deep
def ru(y:Nat):Nat:=(y*y%pp+(pp - 1))%pp
def rv(y:Nat):Nat:=(dn*(y*y%pp)%pp+1)%pp
def rof(y:Nat)(odd:Bool):Option Nat:=match rr (ru y) (rv y) with
 |none=>none
 |some r=>if odd=true∧r=0 then none else some (if odd=true then(0+(pp - r))%pp else r)
theorem Zgh:dn < pp:=by rw[Z1b];decide
theorem Z3l:DV.le (.sq true 1 [.lit (.int .u64 1)]) (num 1):=Zb1▸Z7q _
theorem le_zero:DV.le (.lit (.slice none 0 0)) (num 0):=Zcc▸le_nil _ _
theorem Znd{n:Nat}{l:List Nat}(h:dg n=l):DV.le (.sq true 1 ((nl l).map .lit)) (num n):=by subst h;exact Z7q _
theorem Zqr{xs ys:List DV}(hl:xs.length=ys.length)(h:∀(j:Nat) (x y:DV),xs[j]?=some x→ys[j]?=some y→DV.le x y):DV.le (.tup xs) (.tup ys):=fun O w v ⟨vs,h1,h2,h3⟩=>⟨vs,h1,by omega,Za4 hl h h3⟩
theorem Z54{a b x y:DV}(h1:DV.le a x)(h2:DV.le b y):DV.le (.tup [a,b]) (.tup [x,y]):=Zqr rfl fun j u v hu hv=>by
 match j with
 |0=>simp at hu hv;subst hu hv;exact h1
 |1=>simp at hu hv;subst hu hv;exact h2
 |j+2=>simp at hu
theorem Z6q{x y:DV}(h:x=y):DV.le x y:=h▸le_refl _
theorem Zgi{a b:Bool}(h:a=b):DV.le (.lit (.bool a)) (.lit (.bool b)):=h▸le_refl _
theorem num_len(n:Nat):((nl (dg n)).map DV.lit).length=(dg n).length:=by simp[nl]
theorem Zne(n:Nat):(dg n).length=0↔n=0:=by
 constructor
 ·intro h
  have h1:=Z0l n
  rw[List.length_eq_zero_iff.1 h] at h1
  exact h1.symm
 ·intro h;rw[h,Z0r];rfl
theorem same_iff{a b:Nat}:a%pp=b%pp↔fe a=fe b:=Z2s.symm
theorem Z8d{a b:Nat}(ha:a < pp)(hb:b < pp):a=b↔fe a=fe b:=by
 rw[←same_iff,Nat.mod_eq_of_lt ha,Nat.mod_eq_of_lt hb]
theorem Zth(m:Nat):ru m=(au (kof m)).n:=by
 refine(Z8d (Z0c _) (Zqc _)).2 ?_
 rw[au_f,Z21]
 rw[fe_mod,Z8c Z19,fe_mod,Z10,Z38]
theorem Zqs(m:Nat):rv m=(av (kof m)).n:=by
 refine(Z8d (Z0c _) (Zio _)).2 ?_
 rw[av_f,Z21]
 rw[fe_mod,Z37,fe_mod,Z10,fe_mod,Z10,Z38]
theorem Zkl(m:Nat):rr (ru m) (rv m)=acr (kof m):=by rw[Zft,Zth,Zqs]
theorem Zti(y:Nat):rv y≠0:=by rw[Zqs];exact Zqd _
theorem Ztj{u v r:Nat}(h:rr u v=some r)(hv:v < pp)(h0:v≠0):r < pp:=(Za9 hv h0 h).1
def ofD(o:Option Nat)(y:Nat):DV:=.tup [pt (o.getD 0) (if o.isSome then y else 0) (if o.isSome then 1 else 0),.lit (.bool o.isSome)]
theorem c_D(w:World):FnAt Tryz.prog [.u64] w 23 [] (num dn):=by
 refine FnAt.of Tryz.f23 _ _ Tryz.func23 Tryz.ntmps23 rfl (by kernel_rfl) (fun _ _=>by kernel_rfl) fun O=>?_
 show PW _ _ _ ⟨[],[]⟩
 refine(PW.seq ?_:PW _ _ _ _)
 refine(PW.region ?_:PW _ _ _ _)
 refine PL.mu rfl rfl rfl rfl rfl ?_
 refine PL.nil ?_
 refine(PW.seq ?_:PW _ _ _ _)
 refine(PW.region ?_:PW _ _ _ _)
 refine PL.step rfl rfl rfl (PS.buildSlice (parts:=[(0,_),(1,_),(2,_),(3,_),(4,_),(5,_),(6,_),(7,_),(8,_),(9,_),(10,_),(11,_),(12,_),(13,_),(14,_),(15,_)]) (xs:=[_,_,_,_,_,_,_,_,_,_,_,_,_,_,_,_]) (z:=(.int .u64 0)) (bytes:=8) rfl rfl rfl Tryz.underlying32 (by kernel_rfl) rfl (by kernel_rfl) (by kernel_rfl)) ?_
 refine PL.mu rfl rfl rfl rfl rfl ?_
 refine PL.nil ?_
 refine(PW.ret ?_:PW _ _ _ _)
 exact Rt.as (Rt.one Tryz.results23 rfl) (Znd (l:=[30883,4953,19914,30187,55467,16705,2637,112,59544,30585,16505,36039,65139,11119,27886,20995]) (by decide +kernel))
theorem c_Of{y:Nat}(odd:Bool)(hy:y < pp)(w:World):FnAt Tryz.prog [.u64] w 49 [num y,.lit (.bool odd)] (ofD (rof y odd) y):=by
 refine FnAt.of Tryz.f49 _ _ Tryz.func49 Tryz.ntmps49 rfl (by kernel_rfl) (fun _ _=>by kernel_rfl) fun O=>?_
 show PW _ _ _ ⟨[(0,.c (.dv _)),(1,.c (.dv _))],[]⟩
 refine(PW.seq ?_:PW _ _ _ _)
 refine(PW.region ?_:PW _ _ _ _)
 refine PL.full rfl (Fa.alloc 1 (z:=(.agg #[.slice none 0 0,.slice none 0 0,.slice none 0 0])) rfl (by kernel_rfl) (by kernel_rfl) rfl rfl ?_)
 refine PL.mu rfl rfl rfl rfl rfl ?_
 refine PL.nil ?_
 refine(PW.seq ?_:PW _ _ _ _)
 refine(PW.region ?_:PW _ _ _ _)
 refine PL.mv rfl rfl rfl rfl rfl ?_
 refine PL.mv rfl rfl rfl rfl rfl ?_
 refine PL.call (xs:=[_,_]) rfl rfl rfl rfl rfl rfl rfl (fun w hw=>Z33 hy hy w) ?_
 refine PL.mu rfl rfl rfl rfl rfl ?_
 refine PL.nil ?_
 refine(PW.seq ?_:PW _ _ _ _)
 rcases ho:rr (ru y) (rv y) with _|r
 rotate_left
 have hr:=Ztj ho (Z0c _) (Zti y)
 cases odd
 rotate_left
 by_cases h0:r=0
 ·skip
  refine(PW.region ?_:PW _ _ _ _)
  refine PL.mv rfl rfl rfl rfl rfl ?_
  refine PL.step rfl rfl rfl (PS.buildSlice (parts:=[(0,_)]) (xs:=[_]) (z:=(.int .u64 0)) (bytes:=8) rfl rfl rfl Tryz.underlying32 (by kernel_rfl) rfl (by kernel_rfl) (by kernel_rfl)) ?_
  refine PL.call (xs:=[_,_]) rfl rfl rfl rfl rfl rfl rfl (fun w hw=>FnAt.le2 (Z4l (Z0c _) Z19 w) (le_refl _) Z3l) ?_
  refine PL.call (xs:=[]) rfl rfl rfl rfl rfl rfl rfl (fun w hw=>c_D w) ?_
  refine PL.mv rfl rfl rfl rfl rfl ?_
  refine PL.call (xs:=[_,_]) rfl rfl rfl rfl rfl rfl rfl (fun w hw=>Z33 Zgh (Z0c _) w) ?_
  refine PL.step rfl rfl rfl (PS.buildSlice (parts:=[(0,_)]) (xs:=[_]) (z:=(.int .u64 0)) (bytes:=8) rfl rfl rfl Tryz.underlying32 (by kernel_rfl) rfl (by kernel_rfl) (by kernel_rfl)) ?_
  refine PL.call (xs:=[_,_]) rfl rfl rfl rfl rfl rfl rfl (fun w hw=>FnAt.le2 (Z5e (Z0c _) Z19 w) (le_refl _) Z3l) ?_
  refine PL.call (xs:=[_,_]) rfl rfl rfl rfl rfl rfl rfl (fun w hw=>ho▸Zc3 (u:=ru y) (v:=rv y) (Z0c _) (Z0c _) w) ?_
  refine PL.mv rfl rfl rfl rfl rfl ?_
  refine PL.step rfl rfl rfl (PS.ext rfl rfl rfl) ?_
  refine PL.step rfl rfl rfl (PS.ext rfl rfl rfl) ?_
  refine PL.mu rfl rfl rfl rfl rfl ?_
  refine PL.mu rfl rfl rfl rfl rfl ?_
  refine PL.nil ?_
  refine(PW.seq ?_:PW _ _ _ _)
  refine(PW.seq ?_:PW _ _ _ _)
  refine(PW.region ?_:PW _ _ _ _)
  refine PL.mv rfl rfl rfl rfl rfl ?_
  refine PL.step rfl rfl rfl (PS.not rfl rfl) ?_
  refine PL.mv rfl rfl rfl rfl rfl ?_
  refine PL.stepW rfl rfl rfl rfl rfl (PS.moved (r:=.c _) rfl rfl) ?_
  refine PL.stepW rfl rfl rfl rfl rfl (PS.moved (r:=.c _) rfl rfl) ?_
  refine PL.stepW rfl rfl rfl rfl rfl (PS.moved (r:=.c _) rfl rfl) ?_
  refine PL.stepW rfl rfl rfl rfl rfl (PS.len (n:=0) rfl rfl Tryz.underlying32 (by decide) (by rw[num_len];show 0*1=(dg r).length;rw[h0,Z0r];rfl)) ?_
  refine PL.stepW rfl rfl rfl rfl rfl (PS.eql rfl rfl rfl) ?_
  refine PL.stepW rfl rfl rfl rfl rfl (PS.pickT (r:=.c _) rfl rfl rfl) ?_
  refine PL.pF rfl rfl rfl rfl rfl rfl ?_
  refine PL.nil ?_
  show PW _ _ _ _
  refine PW.cond (b:=true) (by rfl) (fun _=>?_) (fun h=>nomatch h)
  refine(PW.seq ?_:PW _ _ _ _)
  refine(PW.region ?_:PW _ _ _ _)
  refine PL.step rfl rfl rfl (PS.build (xs:=[]) (zs:=[.slice none 0 0,.slice none 0 0,.slice none 0 0]) [] _ rfl rfl Tryz.underlying34 (by kernel_rfl) (by kernel_rfl) (by kernel_rfl) rfl (by kernel_rfl) rfl) ?_
  refine PL.full rfl (Fa.storeR rfl rfl rfl rfl rfl rfl (by kernel_rfl) rfl ?_)
  refine PL.mu rfl rfl rfl rfl rfl ?_
  refine PL.nil ?_
  refine(PW.ret ?_:PW _ _ _ _)
  exact Rt.as (Rt.cellTwo Tryz.results49 rfl rfl rfl Tryz.underlying34 rfl (by kernel_rfl)) (by unfold rof;rw[ho];dsimp only;rw[if_pos ⟨rfl,h0⟩];exact Z54 (Z9k le_zero le_zero le_zero) (le_refl _))
 ·skip
  refine(PW.region ?_:PW _ _ _ _)
  refine PL.mv rfl rfl rfl rfl rfl ?_
  refine PL.step rfl rfl rfl (PS.buildSlice (parts:=[(0,_)]) (xs:=[_]) (z:=(.int .u64 0)) (bytes:=8) rfl rfl rfl Tryz.underlying32 (by kernel_rfl) rfl (by kernel_rfl) (by kernel_rfl)) ?_
  refine PL.call (xs:=[_,_]) rfl rfl rfl rfl rfl rfl rfl (fun w hw=>FnAt.le2 (Z4l (Z0c _) Z19 w) (le_refl _) Z3l) ?_
  refine PL.call (xs:=[]) rfl rfl rfl rfl rfl rfl rfl (fun w hw=>c_D w) ?_
  refine PL.mv rfl rfl rfl rfl rfl ?_
  refine PL.call (xs:=[_,_]) rfl rfl rfl rfl rfl rfl rfl (fun w hw=>Z33 Zgh (Z0c _) w) ?_
  refine PL.step rfl rfl rfl (PS.buildSlice (parts:=[(0,_)]) (xs:=[_]) (z:=(.int .u64 0)) (bytes:=8) rfl rfl rfl Tryz.underlying32 (by kernel_rfl) rfl (by kernel_rfl) (by kernel_rfl)) ?_
  refine PL.call (xs:=[_,_]) rfl rfl rfl rfl rfl rfl rfl (fun w hw=>FnAt.le2 (Z5e (Z0c _) Z19 w) (le_refl _) Z3l) ?_
  refine PL.call (xs:=[_,_]) rfl rfl rfl rfl rfl rfl rfl (fun w hw=>ho▸Zc3 (u:=ru y) (v:=rv y) (Z0c _) (Z0c _) w) ?_
  refine PL.mv rfl rfl rfl rfl rfl ?_
  refine PL.step rfl rfl rfl (PS.ext rfl rfl rfl) ?_
  refine PL.step rfl rfl rfl (PS.ext rfl rfl rfl) ?_
  refine PL.mu rfl rfl rfl rfl rfl ?_
  refine PL.mu rfl rfl rfl rfl rfl ?_
  refine PL.nil ?_
  refine(PW.seq ?_:PW _ _ _ _)
  refine(PW.seq ?_:PW _ _ _ _)
  refine(PW.region ?_:PW _ _ _ _)
  refine PL.mv rfl rfl rfl rfl rfl ?_
  refine PL.step rfl rfl rfl (PS.not rfl rfl) ?_
  refine PL.mv rfl rfl rfl rfl rfl ?_
  refine PL.stepW rfl rfl rfl rfl rfl (PS.moved (r:=.c _) rfl rfl) ?_
  refine PL.stepW rfl rfl rfl rfl rfl (PS.moved (r:=.c _) rfl rfl) ?_
  refine PL.stepW rfl rfl rfl rfl rfl (PS.moved (r:=.c _) rfl rfl) ?_
  refine PL.stepW rfl rfl rfl rfl rfl (PS.len (n:=(dg r).length) rfl rfl Tryz.underlying32 (by decide) ((Nat.mul_one _).trans (num_len _).symm)) ?_
  refine PL.stepW rfl rfl rfl rfl rfl (PS.decF (PS.eql rfl rfl rfl) (by have:=Zne r;omega)) ?_
  refine PL.stepW rfl rfl rfl rfl rfl (PS.pickT (r:=.c _) rfl rfl rfl) ?_
  refine PL.pF rfl rfl rfl rfl rfl rfl ?_
  refine PL.nil ?_
  show PW _ _ _ _
  refine PW.cond (b:=false) (by rfl) (fun h=>nomatch h) (fun _=>?_)
  refine(PW.skip ?_:PW _ _ _ _)
  refine(PW.seq ?_:PW _ _ _ _)
  refine(PW.seq ?_:PW _ _ _ _)
  refine(PW.region ?_:PW _ _ _ _)
  refine PL.mv rfl rfl rfl rfl rfl ?_
  refine PL.nil ?_
  show PW _ _ _ _
  refine PW.cond (b:=true) (by rfl) (fun _=>?_) (fun h=>nomatch h)
  refine(PW.region ?_:PW _ _ _ _)
  refine PL.mv rfl rfl rfl rfl rfl ?_
  refine PL.call (xs:=[_,_]) rfl rfl rfl rfl rfl rfl rfl (fun w hw=>FnAt.le2 (Z4l (a:=0) Z1y hr w) le_zero (le_refl _)) ?_
  refine PL.mu rfl rfl rfl rfl rfl ?_
  refine PL.nil ?_
  refine(PW.seq ?_:PW _ _ _ _)
  refine(PW.region ?_:PW _ _ _ _)
  refine PL.mv rfl rfl rfl rfl rfl ?_
  refine PL.mv rfl rfl rfl rfl rfl ?_
  refine PL.step rfl rfl rfl (PS.buildSlice (parts:=[(0,_)]) (xs:=[_]) (z:=(.int .u64 0)) (bytes:=8) rfl rfl rfl Tryz.underlying32 (by kernel_rfl) rfl (by kernel_rfl) (by kernel_rfl)) ?_
  refine PL.step rfl rfl rfl (PS.build (xs:=[_,_,_]) (zs:=[.slice none 0 0,.slice none 0 0,.slice none 0 0]) [0,1,2] _ rfl rfl Tryz.underlying34 (by kernel_rfl) (by kernel_rfl) (by kernel_rfl) rfl (by kernel_rfl) rfl) ?_
  refine PL.full rfl (Fa.storeR rfl rfl rfl rfl rfl rfl (by kernel_rfl) rfl ?_)
  refine PL.mu rfl rfl rfl rfl rfl ?_
  refine PL.nil ?_
  refine(PW.ret ?_:PW _ _ _ _)
  exact Rt.as (Rt.cellTwo Tryz.results49 rfl rfl rfl Tryz.underlying34 rfl (by kernel_rfl)) (by unfold rof;rw[ho];dsimp only;rw[if_neg (fun h=>h0 h.2),if_pos rfl];exact Z54 (Z9k (le_refl _) (le_refl _) Z3l) (le_refl _))
 ·skip
  refine(PW.region ?_:PW _ _ _ _)
  refine PL.mv rfl rfl rfl rfl rfl ?_
  refine PL.step rfl rfl rfl (PS.buildSlice (parts:=[(0,_)]) (xs:=[_]) (z:=(.int .u64 0)) (bytes:=8) rfl rfl rfl Tryz.underlying32 (by kernel_rfl) rfl (by kernel_rfl) (by kernel_rfl)) ?_
  refine PL.call (xs:=[_,_]) rfl rfl rfl rfl rfl rfl rfl (fun w hw=>FnAt.le2 (Z4l (Z0c _) Z19 w) (le_refl _) Z3l) ?_
  refine PL.call (xs:=[]) rfl rfl rfl rfl rfl rfl rfl (fun w hw=>c_D w) ?_
  refine PL.mv rfl rfl rfl rfl rfl ?_
  refine PL.call (xs:=[_,_]) rfl rfl rfl rfl rfl rfl rfl (fun w hw=>Z33 Zgh (Z0c _) w) ?_
  refine PL.step rfl rfl rfl (PS.buildSlice (parts:=[(0,_)]) (xs:=[_]) (z:=(.int .u64 0)) (bytes:=8) rfl rfl rfl Tryz.underlying32 (by kernel_rfl) rfl (by kernel_rfl) (by kernel_rfl)) ?_
  refine PL.call (xs:=[_,_]) rfl rfl rfl rfl rfl rfl rfl (fun w hw=>FnAt.le2 (Z5e (Z0c _) Z19 w) (le_refl _) Z3l) ?_
  refine PL.call (xs:=[_,_]) rfl rfl rfl rfl rfl rfl rfl (fun w hw=>ho▸Zc3 (u:=ru y) (v:=rv y) (Z0c _) (Z0c _) w) ?_
  refine PL.mv rfl rfl rfl rfl rfl ?_
  refine PL.step rfl rfl rfl (PS.ext rfl rfl rfl) ?_
  refine PL.step rfl rfl rfl (PS.ext rfl rfl rfl) ?_
  refine PL.mu rfl rfl rfl rfl rfl ?_
  refine PL.mu rfl rfl rfl rfl rfl ?_
  refine PL.nil ?_
  refine(PW.seq ?_:PW _ _ _ _)
  refine(PW.seq ?_:PW _ _ _ _)
  refine(PW.region ?_:PW _ _ _ _)
  refine PL.mv rfl rfl rfl rfl rfl ?_
  refine PL.step rfl rfl rfl (PS.not rfl rfl) ?_
  refine PL.mv rfl rfl rfl rfl rfl ?_
  refine PL.stepP rfl rfl rfl (by decide) rfl rfl ?_
  refine PL.stepP rfl rfl rfl (by decide) rfl rfl ?_
  refine PL.stepU rfl rfl rfl rfl rfl ?_
  refine PL.stepU rfl rfl rfl rfl rfl ?_
  refine PL.stepU rfl rfl rfl rfl rfl ?_
  refine PL.stepP rfl rfl rfl (by decide) rfl rfl ?_
  refine PL.pT rfl rfl rfl rfl rfl rfl ?_
  refine PL.nil ?_
  show PW _ _ _ _
  refine PW.cond (b:=true) (by rfl) (fun _=>?_) (fun h=>nomatch h)
  refine(PW.seq ?_:PW _ _ _ _)
  refine(PW.region ?_:PW _ _ _ _)
  refine PL.step rfl rfl rfl (PS.build (xs:=[]) (zs:=[.slice none 0 0,.slice none 0 0,.slice none 0 0]) [] _ rfl rfl Tryz.underlying34 (by kernel_rfl) (by kernel_rfl) (by kernel_rfl) rfl (by kernel_rfl) rfl) ?_
  refine PL.full rfl (Fa.storeR rfl rfl rfl rfl rfl rfl (by kernel_rfl) rfl ?_)
  refine PL.mu rfl rfl rfl rfl rfl ?_
  refine PL.nil ?_
  refine(PW.ret ?_:PW _ _ _ _)
  exact Rt.as (Rt.cellTwo Tryz.results49 rfl rfl rfl Tryz.underlying34 rfl (by kernel_rfl)) (by unfold rof;rw[ho];exact Z54 (Z9k le_zero le_zero le_zero) (le_refl _))
 ·skip
  refine(PW.region ?_:PW _ _ _ _)
  refine PL.mv rfl rfl rfl rfl rfl ?_
  refine PL.step rfl rfl rfl (PS.buildSlice (parts:=[(0,_)]) (xs:=[_]) (z:=(.int .u64 0)) (bytes:=8) rfl rfl rfl Tryz.underlying32 (by kernel_rfl) rfl (by kernel_rfl) (by kernel_rfl)) ?_
  refine PL.call (xs:=[_,_]) rfl rfl rfl rfl rfl rfl rfl (fun w hw=>FnAt.le2 (Z4l (Z0c _) Z19 w) (le_refl _) Z3l) ?_
  refine PL.call (xs:=[]) rfl rfl rfl rfl rfl rfl rfl (fun w hw=>c_D w) ?_
  refine PL.mv rfl rfl rfl rfl rfl ?_
  refine PL.call (xs:=[_,_]) rfl rfl rfl rfl rfl rfl rfl (fun w hw=>Z33 Zgh (Z0c _) w) ?_
  refine PL.step rfl rfl rfl (PS.buildSlice (parts:=[(0,_)]) (xs:=[_]) (z:=(.int .u64 0)) (bytes:=8) rfl rfl rfl Tryz.underlying32 (by kernel_rfl) rfl (by kernel_rfl) (by kernel_rfl)) ?_
  refine PL.call (xs:=[_,_]) rfl rfl rfl rfl rfl rfl rfl (fun w hw=>FnAt.le2 (Z5e (Z0c _) Z19 w) (le_refl _) Z3l) ?_
  refine PL.call (xs:=[_,_]) rfl rfl rfl rfl rfl rfl rfl (fun w hw=>ho▸Zc3 (u:=ru y) (v:=rv y) (Z0c _) (Z0c _) w) ?_
  refine PL.mv rfl rfl rfl rfl rfl ?_
  refine PL.step rfl rfl rfl (PS.ext rfl rfl rfl) ?_
  refine PL.step rfl rfl rfl (PS.ext rfl rfl rfl) ?_
  refine PL.mu rfl rfl rfl rfl rfl ?_
  refine PL.mu rfl rfl rfl rfl rfl ?_
  refine PL.nil ?_
  refine(PW.seq ?_:PW _ _ _ _)
  refine(PW.seq ?_:PW _ _ _ _)
  refine(PW.region ?_:PW _ _ _ _)
  refine PL.mv rfl rfl rfl rfl rfl ?_
  refine PL.step rfl rfl rfl (PS.not rfl rfl) ?_
  refine PL.mv rfl rfl rfl rfl rfl ?_
  refine PL.stepW rfl rfl rfl rfl rfl (PS.moved (r:=.c _) rfl rfl) ?_
  refine PL.stepW rfl rfl rfl rfl rfl (PS.moved (r:=.c _) rfl rfl) ?_
  refine PL.stepP rfl rfl rfl (by decide) rfl rfl ?_
  refine PL.stepP rfl rfl rfl (by decide) rfl rfl ?_
  refine PL.stepP rfl rfl rfl (by decide) rfl rfl ?_
  refine PL.stepW rfl rfl rfl rfl rfl (PS.pickF (r:=.c _) rfl rfl rfl) ?_
  refine PL.pF rfl rfl rfl rfl rfl rfl ?_
  refine PL.nil ?_
  show PW _ _ _ _
  refine PW.cond (b:=false) (by rfl) (fun h=>nomatch h) (fun _=>?_)
  refine(PW.skip ?_:PW _ _ _ _)
  refine(PW.seq ?_:PW _ _ _ _)
  refine(PW.seq ?_:PW _ _ _ _)
  refine(PW.region ?_:PW _ _ _ _)
  refine PL.mv rfl rfl rfl rfl rfl ?_
  refine PL.nil ?_
  show PW _ _ _ _
  refine PW.cond (b:=false) (by rfl) (fun h=>nomatch h) (fun _=>?_)
  refine(PW.skip ?_:PW _ _ _ _)
  refine(PW.seq ?_:PW _ _ _ _)
  refine(PW.region ?_:PW _ _ _ _)
  refine PL.mv rfl rfl rfl rfl rfl ?_
  refine PL.mv rfl rfl rfl rfl rfl ?_
  refine PL.step rfl rfl rfl (PS.buildSlice (parts:=[(0,_)]) (xs:=[_]) (z:=(.int .u64 0)) (bytes:=8) rfl rfl rfl Tryz.underlying32 (by kernel_rfl) rfl (by kernel_rfl) (by kernel_rfl)) ?_
  refine PL.step rfl rfl rfl (PS.build (xs:=[_,_,_]) (zs:=[.slice none 0 0,.slice none 0 0,.slice none 0 0]) [0,1,2] _ rfl rfl Tryz.underlying34 (by kernel_rfl) (by kernel_rfl) (by kernel_rfl) rfl (by kernel_rfl) rfl) ?_
  refine PL.full rfl (Fa.storeR rfl rfl rfl rfl rfl rfl (by kernel_rfl) rfl ?_)
  refine PL.mu rfl rfl rfl rfl rfl ?_
  refine PL.nil ?_
  refine(PW.ret ?_:PW _ _ _ _)
  exact Rt.as (Rt.cellTwo Tryz.results49 rfl rfl rfl Tryz.underlying34 rfl (by kernel_rfl)) (by unfold rof;rw[ho];dsimp only;rw[if_neg (fun h=>by cases h.1),if_neg (fun h=>by cases h)];exact Z54 (Z9k (le_refl _) (le_refl _) Z3l) (le_refl _))
end Go.Proofs.YtjimhjfjfpeojaaGreatDoor.Av
