/- Joined texts. -/
import Derived.Test.YtjimhjfjfpeojaaGreatDoorQbAvEl
import Derived.Test.YtjimhjfjfpeojaaGreatDoorQbEdPts
import Derived.Test.YtjimhjfjfpeojaaGreatDoorQbAvT3
set_option linter.unusedVariables false
namespace Go.Proofs.YtjimhjfjfpeojaaGreatDoor.Av
open Go.RowKit Go.Proofs.YtjimhjfjfpeojaaGreatDoor.Gn Go.Proofs.YtjimhjfjfpeojaaGreatDoor.Fd Go.Proofs.YtjimhjfjfpeojaaGreatDoor.Ed Go.Deep
def rhon(p:KP):Bool:=!decide (p.z.1.val%pp=0) && (decide ((p.x.1.val%pp)*(p.y.1.val%pp)%pp=(p.z.1.val%pp)*(p.t.1.val%pp)%pp) && decide (((p.y.1.val%pp)*(p.y.1.val%pp)%pp+(pp - (p.x.1.val%pp)*(p.x.1.val%pp)%pp))%pp=((p.z.1.val%pp)*(p.z.1.val%pp)%pp+dn*((p.t.1.val%pp)*(p.t.1.val%pp)%pp)%pp)%pp))
def ris(p:KP)(x y z:Nat):Bool:=rhon p && (decide ((p.x.1.val%pp)*z%pp=x*(p.z.1.val%pp)%pp) && decide ((p.y.1.val%pp)*z%pp=y*(p.z.1.val%pp)%pp))
def ru(y:Nat):Nat:=(y*y%pp+(pp - 1))%pp
def rv(y:Nat):Nat:=(dn*(y*y%pp)%pp+1)%pp
def rof(y:Nat)(odd:Bool):Option Nat:=match rr (ru y) (rv y) with
 |none=>none
 |some r=>if odd=true∧r=0 then none else some (if odd=true then(0+(pp - r))%pp else r)
theorem dn_lt:dn < pp:=by rw[pp_eq];decide
theorem le_one:DV.le (.sq true 1 [.lit (.int .u64 1)]) (num 1):=num_one▸le_room _
theorem le_zero:DV.le (.lit (.slice none 0 0)) (num 0):=num_zero▸le_nil _ _
theorem le_dg{n:Nat}{l:List Nat}(h:dg n=l):DV.le (.sq true 1 ((nl l).map .lit)) (num n):=by subst h;exact le_room _
theorem le_tup{xs ys:List DV}(hl:xs.length=ys.length)(h:∀(j:Nat) (x y:DV),xs[j]?=some x→ys[j]?=some y→DV.le x y):DV.le (.tup xs) (.tup ys):=fun O w v ⟨vs,h1,h2,h3⟩=>⟨vs,h1,by omega,reps_le hl h h3⟩
theorem le_tup2{a b x y:DV}(h1:DV.le a x)(h2:DV.le b y):DV.le (.tup [a,b]) (.tup [x,y]):=le_tup rfl fun j u v hu hv=>by
 match j with
 |0=>simp at hu hv;subst hu hv;exact h1
 |1=>simp at hu hv;subst hu hv;exact h2
 |j+2=>simp at hu
theorem le_eq{x y:DV}(h:x=y):DV.le x y:=h▸le_refl _
theorem bool_le{a b:Bool}(h:a=b):DV.le (.lit (.bool a)) (.lit (.bool b)):=h▸le_refl _
theorem num_len(n:Nat):((nl (dg n)).map DV.lit).length=(dg n).length:=by simp[nl]
theorem dg_len0(n:Nat):(dg n).length=0↔n=0:=by
 constructor
 ·intro h
  have h1:=vl_dg n
  rw[List.length_eq_zero_iff.1 h] at h1
  exact h1.symm
 ·intro h;rw[h,dg_zero];rfl
theorem dec_len(n:Nat):decide ((((dg n).length:Nat):Int)=0)=decide (n=0):=decide_eq_decide.2 (by rw[←dg_len0];omega)
theorem kf(x:K):fe x.1.val=x.f:=rfl
theorem same_iff{a b:Nat}:a%pp=b%pp↔fe a=fe b:=fe_eq.symm
theorem same_lt{a b:Nat}(ha:a < pp)(hb:b < pp):a=b↔fe a=fe b:=by
 rw[←same_iff,Nat.mod_eq_of_lt ha,Nat.mod_eq_of_lt hb]
theorem ru_eq(m:Nat):ru m=(au (kof m)).n:=by
 refine(same_lt (lt_mod _) (au_lt _)).2 ?_
 rw[au_f,kof_f]
 rw[fe_mod,fe_less pp_one,fe_mod,fe_mul,fe_one]
theorem rv_eq(m:Nat):rv m=(av (kof m)).n:=by
 refine(same_lt (lt_mod _) (av_lt _)).2 ?_
 rw[av_f,kof_f]
 rw[fe_mod,fe_add,fe_mod,fe_mul,fe_mod,fe_mul,fe_one]
theorem rr_acr(m:Nat):rr (ru m) (rv m)=acr (kof m):=by rw[acr_rr,ru_eq,rv_eq]
theorem rv_ne(y:Nat):rv y≠0:=by rw[rv_eq];exact av_ne _
theorem rr_lt{u v r:Nat}(h:rr u v=some r)(hv:v < pp)(h0:v≠0):r < pp:=(rr_root hv h0 h).1
def ofD(o:Option Nat)(y:Nat):DV:=.tup [pt (o.getD 0) (if o.isSome then y else 0) (if o.isSome then 1 else 0),.lit (.bool o.isSome)]
set_option maxRecDepth 100000 in
theorem c_D(w:World):FnAt Tryz.prog [.u64] w 23 [] (num dn):=by
 refine FnAt.of Tryz.f23 _ _ Tryz.func23 Tryz.ntmps23 rfl (by kernel_rfl) (fun _ _=>by kernel_rfl) fun O=>?_
 show PW _ _ _ ⟨[],[]⟩
 refine(PW.seq ?_:PW _ _ _ _)
 refine(PW.region ?_:PW _ _ _ _)
 refine PL.mu rfl rfl rfl rfl rfl ?_
 refine PL.nil ?_
 refine(PW.seq ?_:PW _ _ _ _)
 refine(PW.region ?_:PW _ _ _ _)
 refine PL.step rfl rfl rfl (PS.buildSlice (parts:=[(0,_),(1,_),(2,_),(3,_),(4,_),(5,_),(6,_),(7,_),(8,_),(9,_),(10,_),(11,_),(12,_),(13,_),(14,_),(15,_)]) (xs:=[_,_,_,_,_,_,_,_,_,_,_,_,_,_,_,_]) (z:=(.int .u64 0)) (bytes:=8) rfl rfl rfl Tryz.underlying32 (by kernel_rfl) rfl (by kernel_rfl) (by kernel_rfl)) ?_
 refine PL.mu rfl rfl rfl rfl rfl ?_
 refine PL.nil ?_
 refine(PW.ret ?_:PW _ _ _ _)
 exact Rt.as (Rt.one Tryz.results23 rfl) (le_dg (l:=[30883,4953,19914,30187,55467,16705,2637,112,59544,30585,16505,36039,65139,11119,27886,20995]) (by decide +kernel))
set_option maxRecDepth 100000 in
theorem c_onk(p:KP)(w:World):FnAt Tryz.prog [.u64] w 20 [pv p] (.lit (.bool (rhon p))):=by
 refine FnAt.of Tryz.f20 _ _ Tryz.func20 Tryz.ntmps20 rfl (by kernel_rfl) (fun _ _=>by kernel_rfl) fun O=>?_
 show PW _ _ _ ⟨[(0,.c (.dv _))],[]⟩
 refine(PW.seq ?_:PW _ _ _ _)
 refine(PW.region ?_:PW _ _ _ _)
 refine PL.full rfl (Fa.boxH 21 rfl rfl (row_agg (kp_row p)) (by kernel_rfl) rfl rfl ?_)
 refine PL.mu rfl rfl rfl rfl rfl ?_
 refine PL.nil ?_
 refine(PW.seq ?_:PW _ _ _ _)
 refine(PW.drawn 16 (by kernel_rfl) (by kernel_rfl) (by kernel_rfl) (by kernel_rfl) (by kernel_rfl) ?_:PW _ _ _ _)
 refine PD.step rfl rfl rfl (PS.fieldAddr 0 rfl rfl (fun _ _=>by kernel_rfl)) ?_
 refine PD.step rfl rfl rfl (PS.part (k:=5) (vs:=KP.v p) (K.v p.x) rfl rfl rfl (by kernel_rfl) Tryz.underlying26 rfl (by kernel_rfl) rfl) ?_
 refine PD.call (xs:=[_]) rfl rfl rfl rfl rfl rfl rfl (fun w hw=>c_ofK p.x w) ?_
 refine PD.step rfl rfl rfl (PS.fieldAddr 5 rfl rfl (fun _ _=>by kernel_rfl)) ?_
 refine PD.step rfl rfl rfl (PS.part (k:=5) (vs:=KP.v p) (K.v p.y) rfl rfl rfl (by kernel_rfl) Tryz.underlying26 rfl (by kernel_rfl) rfl) ?_
 refine PD.call (xs:=[_]) rfl rfl rfl rfl rfl rfl rfl (fun w hw=>c_ofK p.y w) ?_
 refine PD.step rfl rfl rfl (PS.fieldAddr 10 rfl rfl (fun _ _=>by kernel_rfl)) ?_
 refine PD.step rfl rfl rfl (PS.part (k:=5) (vs:=KP.v p) (K.v p.z) rfl rfl rfl (by kernel_rfl) Tryz.underlying26 rfl (by kernel_rfl) rfl) ?_
 refine PD.call (xs:=[_]) rfl rfl rfl rfl rfl rfl rfl (fun w hw=>c_ofK p.z w) ?_
 refine PD.step rfl rfl rfl (PS.fieldAddr 15 rfl rfl (fun _ _=>by kernel_rfl)) ?_
 refine PD.step rfl rfl rfl (PS.part (k:=5) (vs:=KP.v p) (K.v p.t) rfl rfl rfl (by kernel_rfl) Tryz.underlying26 rfl (by kernel_rfl) rfl) ?_
 refine PD.call (xs:=[_]) rfl rfl rfl rfl rfl rfl rfl (fun w hw=>c_ofK p.t w) ?_
 refine PD.mu rfl rfl rfl rfl rfl ?_
 refine PD.mu rfl rfl rfl rfl rfl ?_
 refine PD.mu rfl rfl rfl rfl rfl ?_
 refine PD.mu rfl rfl rfl rfl rfl ?_
 refine PD.nil ?_
 refine(PW.seq ?_:PW _ _ _ _)
 refine(PW.seq ?_:PW _ _ _ _)
 refine(PW.region ?_:PW _ _ _ _)
 refine PL.mv rfl rfl rfl rfl rfl ?_
 refine PL.step rfl rfl rfl (PS.len (n:=(dg (p.z.1.val%pp)).length) rfl rfl Tryz.underlying32 (by decide) ((Nat.mul_one _).trans (num_len _).symm)) ?_
 refine PL.split rfl rfl rfl (PS.eq (PS.eql rfl rfl rfl) (congrArg Bo (dec_len (p.z.1.val%pp)))) (fun hs30=>?_) (fun hs30=>?_)
 ·have hz:=hs30
  refine PL.mv rfl rfl rfl rfl rfl ?_
  refine PL.stepP rfl rfl rfl (by decide) rfl rfl ?_
  refine PL.stepP rfl rfl rfl (by decide) rfl rfl ?_
  refine PL.stepP rfl rfl rfl (by decide) rfl rfl ?_
  refine PL.stepP rfl rfl rfl (by decide) rfl rfl ?_
  refine PL.stepP rfl rfl rfl (by decide) rfl rfl ?_
  refine PL.stepP rfl rfl rfl (by decide) rfl rfl ?_
  refine PL.stepP rfl rfl rfl (by decide) rfl rfl ?_
  refine PL.stepP rfl rfl rfl (by decide) rfl rfl ?_
  refine PL.pT rfl rfl rfl rfl rfl rfl ?_
  refine PL.nil ?_
  show PW _ _ _ _
  refine PW.cond (b:=true) (by rfl) (fun _=>?_) (fun h=>nomatch h)
  refine(PW.seq ?_:PW _ _ _ _)
  refine(PW.region ?_:PW _ _ _ _)
  refine PL.mu rfl rfl rfl rfl rfl ?_
  refine PL.nil ?_
  refine(PW.ret ?_:PW _ _ _ _)
  exact Rt.as (Rt.one Tryz.results20 rfl) (bool_le (by unfold rhon;rw[hz];rfl))
 have hz:=hs30
 refine PL.mv rfl rfl rfl rfl rfl ?_
 refine PL.stepW rfl rfl rfl rfl rfl (PS.moved (r:=.c _) rfl rfl) ?_
 refine PL.stepW rfl rfl rfl rfl rfl (PS.moved (r:=.c _) rfl rfl) ?_
 refine PL.stepW rfl rfl rfl rfl rfl (PS.call (xs:=[_,_]) rfl rfl rfl rfl (fun w hw=>c_mul (lt_mod _) (lt_mod _) w)) ?_
 refine PL.stepW rfl rfl rfl rfl rfl (PS.moved (r:=.c _) rfl rfl) ?_
 refine PL.stepW rfl rfl rfl rfl rfl (PS.moved (r:=.c _) rfl rfl) ?_
 refine PL.stepW rfl rfl rfl rfl rfl (PS.call (xs:=[_,_]) rfl rfl rfl rfl (fun w hw=>c_mul (lt_mod _) (lt_mod _) w)) ?_
 refine PL.stepW rfl rfl rfl rfl rfl (PS.call (xs:=[_,_]) rfl rfl rfl rfl (fun w hw=>c_same (lt_mod _) (lt_mod _) w)) ?_
 refine PL.stepW rfl rfl rfl rfl rfl (PS.not rfl rfl) ?_
 refine PL.pF rfl rfl rfl rfl rfl rfl ?_
 refine PL.nil ?_
 show PW _ _ _ _
 refine PW.cond (by rfl) (fun hc63=>?_) (fun hc63=>?_)
 ·have hs:=hc63
  refine(PW.seq ?_:PW _ _ _ _)
  refine(PW.region ?_:PW _ _ _ _)
  refine PL.mu rfl rfl rfl rfl rfl ?_
  refine PL.nil ?_
  refine(PW.ret ?_:PW _ _ _ _)
  exact Rt.as (Rt.one Tryz.results20 rfl) (bool_le (by unfold rhon;rw[hz];simp only[Bool.not_eq_true'] at hs;rw[hs];rfl))
 have hs:=hc63
 refine(PW.skip ?_:PW _ _ _ _)
 refine(PW.seq ?_:PW _ _ _ _)
 refine(PW.region ?_:PW _ _ _ _)
 refine PL.mv rfl rfl rfl rfl rfl ?_
 refine PL.mv rfl rfl rfl rfl rfl ?_
 refine PL.call (xs:=[_,_]) rfl rfl rfl rfl rfl rfl rfl (fun w hw=>c_mul (lt_mod _) (lt_mod _) w) ?_
 refine PL.mv rfl rfl rfl rfl rfl ?_
 refine PL.mv rfl rfl rfl rfl rfl ?_
 refine PL.call (xs:=[_,_]) rfl rfl rfl rfl rfl rfl rfl (fun w hw=>c_mul (lt_mod _) (lt_mod _) w) ?_
 refine PL.call (xs:=[_,_]) rfl rfl rfl rfl rfl rfl rfl (fun w hw=>c_less (lt_mod _) (lt_mod _) w) ?_
 refine PL.mu rfl rfl rfl rfl rfl ?_
 refine PL.nil ?_
 refine(PW.seq ?_:PW _ _ _ _)
 refine(PW.region ?_:PW _ _ _ _)
 refine PL.mv rfl rfl rfl rfl rfl ?_
 refine PL.mv rfl rfl rfl rfl rfl ?_
 refine PL.call (xs:=[_,_]) rfl rfl rfl rfl rfl rfl rfl (fun w hw=>c_mul (lt_mod _) (lt_mod _) w) ?_
 refine PL.call (xs:=[]) rfl rfl rfl rfl rfl rfl rfl (fun w hw=>c_D w) ?_
 refine PL.mv rfl rfl rfl rfl rfl ?_
 refine PL.mv rfl rfl rfl rfl rfl ?_
 refine PL.call (xs:=[_,_]) rfl rfl rfl rfl rfl rfl rfl (fun w hw=>c_mul (lt_mod _) (lt_mod _) w) ?_
 refine PL.call (xs:=[_,_]) rfl rfl rfl rfl rfl rfl rfl (fun w hw=>c_mul dn_lt (lt_mod _) w) ?_
 refine PL.call (xs:=[_,_]) rfl rfl rfl rfl rfl rfl rfl (fun w hw=>c_plus (lt_mod _) (lt_mod _) w) ?_
 refine PL.mu rfl rfl rfl rfl rfl ?_
 refine PL.nil ?_
 refine(PW.seq ?_:PW _ _ _ _)
 refine(PW.region ?_:PW _ _ _ _)
 refine PL.mv rfl rfl rfl rfl rfl ?_
 refine PL.mv rfl rfl rfl rfl rfl ?_
 refine PL.call (xs:=[_,_]) rfl rfl rfl rfl rfl rfl rfl (fun w hw=>c_same (lt_mod _) (lt_mod _) w) ?_
 refine PL.mu rfl rfl rfl rfl rfl ?_
 refine PL.nil ?_
 refine(PW.ret ?_:PW _ _ _ _)
 exact Rt.as (Rt.one Tryz.results20 rfl) (bool_le (by unfold rhon;rw[hz];simp only[Bool.not_eq_false'] at hs;rw[hs];rfl))
set_option maxRecDepth 100000 in
theorem c_isk(p:KP){x y z:Nat}(hx:x < pp)(hy:y < pp)(hz:z < pp)(w:World):FnAt Tryz.prog [.u64] w 14 [pv p,pt x y z] (.lit (.bool (ris p x y z))):=by
 refine FnAt.of Tryz.f14 _ _ Tryz.func14 Tryz.ntmps14 rfl (by kernel_rfl) (fun _ _=>by kernel_rfl) fun O=>?_
 show PW _ _ _ ⟨[(0,.c (.dv _)),(1,.c (.dv _))],[]⟩
 refine(PW.seq ?_:PW _ _ _ _)
 refine(PW.region ?_:PW _ _ _ _)
 refine PL.full rfl (Fa.boxH 21 rfl rfl (row_agg (kp_row p)) (by kernel_rfl) rfl rfl ?_)
 refine PL.full rfl (Fa.boxR 1 rfl rfl (by kernel_rfl) rfl rfl ?_)
 refine PL.mu rfl rfl rfl rfl rfl ?_
 refine PL.nil ?_
 refine(PW.seq ?_:PW _ _ _ _)
 refine(PW.drawn 12 (by kernel_rfl) (by kernel_rfl) (by kernel_rfl) (by kernel_rfl) (by kernel_rfl) ?_:PW _ _ _ _)
 refine PD.step rfl rfl rfl (PS.fieldAddr 0 rfl rfl (fun _ _=>by kernel_rfl)) ?_
 refine PD.step rfl rfl rfl (PS.part (k:=5) (vs:=KP.v p) (K.v p.x) rfl rfl rfl (by kernel_rfl) Tryz.underlying26 rfl (by kernel_rfl) rfl) ?_
 refine PD.call (xs:=[_]) rfl rfl rfl rfl rfl rfl rfl (fun w hw=>c_ofK p.x w) ?_
 refine PD.step rfl rfl rfl (PS.fieldAddr 5 rfl rfl (fun _ _=>by kernel_rfl)) ?_
 refine PD.step rfl rfl rfl (PS.part (k:=5) (vs:=KP.v p) (K.v p.y) rfl rfl rfl (by kernel_rfl) Tryz.underlying26 rfl (by kernel_rfl) rfl) ?_
 refine PD.call (xs:=[_]) rfl rfl rfl rfl rfl rfl rfl (fun w hw=>c_ofK p.y w) ?_
 refine PD.step rfl rfl rfl (PS.fieldAddr 10 rfl rfl (fun _ _=>by kernel_rfl)) ?_
 refine PD.step rfl rfl rfl (PS.part (k:=5) (vs:=KP.v p) (K.v p.z) rfl rfl rfl (by kernel_rfl) Tryz.underlying26 rfl (by kernel_rfl) rfl) ?_
 refine PD.call (xs:=[_]) rfl rfl rfl rfl rfl rfl rfl (fun w hw=>c_ofK p.z w) ?_
 refine PD.mu rfl rfl rfl rfl rfl ?_
 refine PD.mu rfl rfl rfl rfl rfl ?_
 refine PD.mu rfl rfl rfl rfl rfl ?_
 refine PD.nil ?_
 refine(PW.seq ?_:PW _ _ _ _)
 rcases h1:rhon p with _|_
 rotate_left
 rcases h2:decide ((p.x.1.val%pp)*z%pp=x*(p.z.1.val%pp)%pp) with _|_
 rotate_left
 ·skip
  refine(PW.drawn 25 (by kernel_rfl) (by kernel_rfl) (by kernel_rfl) (by kernel_rfl) (by kernel_rfl) ?_:PW _ _ _ _)
  refine PD.step rfl rfl rfl (PS.loadH (k:=20) rfl rfl rfl (row_sz (kp_row p)) Tryz.underlying28 rfl (by kernel_rfl)) ?_
  refine PD.call (xs:=[_]) rfl rfl rfl rfl rfl rfl rfl (fun w hw=>h1▸c_onk p w) ?_
  refine PD.mv rfl rfl rfl rfl rfl ?_
  refine PD.stepW rfl rfl rfl (by kernel_rfl) rfl rfl (PS.moved (r:=.c _) rfl rfl) ?_
  refine PD.stepW rfl rfl rfl (by kernel_rfl) rfl rfl (PS.fieldAddr 2 rfl rfl (fun _ _=>by kernel_rfl)) ?_
  refine PD.stepW rfl rfl rfl (by kernel_rfl) rfl rfl (PS.load rfl rfl rfl rfl Tryz.underlying32 rfl) ?_
  refine PD.stepW rfl rfl rfl (by kernel_rfl) rfl rfl (PS.call (xs:=[_,_]) rfl rfl rfl rfl (fun w hw=>c_mul (lt_mod _) hz w)) ?_
  refine PD.stepW rfl rfl rfl (by kernel_rfl) rfl rfl (PS.fieldAddr 0 rfl rfl (fun _ _=>by kernel_rfl)) ?_
  refine PD.stepW rfl rfl rfl (by kernel_rfl) rfl rfl (PS.load rfl rfl rfl rfl Tryz.underlying32 rfl) ?_
  refine PD.stepW rfl rfl rfl (by kernel_rfl) rfl rfl (PS.moved (r:=.c _) rfl rfl) ?_
  refine PD.stepW rfl rfl rfl (by kernel_rfl) rfl rfl (PS.call (xs:=[_,_]) rfl rfl rfl rfl (fun w hw=>c_mul hx (lt_mod _) w)) ?_
  refine PD.stepW rfl rfl rfl (by kernel_rfl) rfl rfl (PS.call (xs:=[_,_]) rfl rfl rfl rfl (fun w hw=>FnAt.to (c_same (lt_mod _) (lt_mod _) w) (bool_le h2))) ?_
  refine PD.pT rfl rfl rfl rfl rfl rfl ?_
  refine PD.mv rfl rfl rfl rfl rfl ?_
  refine PD.stepW rfl rfl rfl (by kernel_rfl) rfl rfl (PS.moved (r:=.c _) rfl rfl) ?_
  refine PD.stepW rfl rfl rfl (by kernel_rfl) rfl rfl (PS.fieldAddr 2 rfl rfl (fun _ _=>by kernel_rfl)) ?_
  refine PD.stepW rfl rfl rfl (by kernel_rfl) rfl rfl (PS.load rfl rfl rfl rfl Tryz.underlying32 rfl) ?_
  refine PD.stepW rfl rfl rfl (by kernel_rfl) rfl rfl (PS.call (xs:=[_,_]) rfl rfl rfl rfl (fun w hw=>c_mul (lt_mod _) hz w)) ?_
  refine PD.stepW rfl rfl rfl (by kernel_rfl) rfl rfl (PS.fieldAddr 1 rfl rfl (fun _ _=>by kernel_rfl)) ?_
  refine PD.stepW rfl rfl rfl (by kernel_rfl) rfl rfl (PS.load rfl rfl rfl rfl Tryz.underlying32 rfl) ?_
  refine PD.stepW rfl rfl rfl (by kernel_rfl) rfl rfl (PS.moved (r:=.c _) rfl rfl) ?_
  refine PD.stepW rfl rfl rfl (by kernel_rfl) rfl rfl (PS.call (xs:=[_,_]) rfl rfl rfl rfl (fun w hw=>c_mul hy (lt_mod _) w)) ?_
  refine PD.stepW rfl rfl rfl (by kernel_rfl) rfl rfl (PS.call (xs:=[_,_]) rfl rfl rfl rfl (fun w hw=>c_same (lt_mod _) (lt_mod _) w)) ?_
  refine PD.pT rfl rfl rfl rfl rfl rfl ?_
  refine PD.mu rfl rfl rfl rfl rfl ?_
  refine PD.nil ?_
  refine(PW.ret ?_:PW _ _ _ _)
  exact Rt.as (Rt.one Tryz.results14 rfl) (bool_le (by unfold ris;rw[h1,h2];rfl))
 ·skip
  refine(PW.drawn 25 (by kernel_rfl) (by kernel_rfl) (by kernel_rfl) (by kernel_rfl) (by kernel_rfl) ?_:PW _ _ _ _)
  refine PD.step rfl rfl rfl (PS.loadH (k:=20) rfl rfl rfl (row_sz (kp_row p)) Tryz.underlying28 rfl (by kernel_rfl)) ?_
  refine PD.call (xs:=[_]) rfl rfl rfl rfl rfl rfl rfl (fun w hw=>h1▸c_onk p w) ?_
  refine PD.mv rfl rfl rfl rfl rfl ?_
  refine PD.stepP rfl rfl rfl (by kernel_rfl) (by decide) rfl rfl ?_
  refine PD.stepP rfl rfl rfl (by kernel_rfl) (by decide) rfl rfl ?_
  refine PD.stepP rfl rfl rfl (by kernel_rfl) (by decide) rfl rfl ?_
  refine PD.stepP rfl rfl rfl (by kernel_rfl) (by decide) rfl rfl ?_
  refine PD.stepP rfl rfl rfl (by kernel_rfl) (by decide) rfl rfl ?_
  refine PD.stepP rfl rfl rfl (by kernel_rfl) (by decide) rfl rfl ?_
  refine PD.stepP rfl rfl rfl (by kernel_rfl) (by decide) rfl rfl ?_
  refine PD.stepP rfl rfl rfl (by kernel_rfl) (by decide) rfl rfl ?_
  refine PD.stepP rfl rfl rfl (by kernel_rfl) (by decide) rfl rfl ?_
  refine PD.pF rfl rfl rfl rfl rfl rfl ?_
  refine PD.mv rfl rfl rfl rfl rfl ?_
  refine PD.stepP rfl rfl rfl (by kernel_rfl) (by decide) rfl rfl ?_
  refine PD.stepP rfl rfl rfl (by kernel_rfl) (by decide) rfl rfl ?_
  refine PD.stepP rfl rfl rfl (by kernel_rfl) (by decide) rfl rfl ?_
  refine PD.stepP rfl rfl rfl (by kernel_rfl) (by decide) rfl rfl ?_
  refine PD.stepP rfl rfl rfl (by kernel_rfl) (by decide) rfl rfl ?_
  refine PD.stepP rfl rfl rfl (by kernel_rfl) (by decide) rfl rfl ?_
  refine PD.stepP rfl rfl rfl (by kernel_rfl) (by decide) rfl rfl ?_
  refine PD.stepP rfl rfl rfl (by kernel_rfl) (by decide) rfl rfl ?_
  refine PD.stepP rfl rfl rfl (by kernel_rfl) (by decide) rfl rfl ?_
  refine PD.pF rfl rfl rfl rfl rfl rfl ?_
  refine PD.mu rfl rfl rfl rfl rfl ?_
  refine PD.nil ?_
  refine(PW.ret ?_:PW _ _ _ _)
  exact Rt.as (Rt.one Tryz.results14 rfl) (bool_le (by unfold ris;rw[h1];rfl))
 ·skip
  refine(PW.drawn 25 (by kernel_rfl) (by kernel_rfl) (by kernel_rfl) (by kernel_rfl) (by kernel_rfl) ?_:PW _ _ _ _)
  refine PD.step rfl rfl rfl (PS.loadH (k:=20) rfl rfl rfl (row_sz (kp_row p)) Tryz.underlying28 rfl (by kernel_rfl)) ?_
  refine PD.call (xs:=[_]) rfl rfl rfl rfl rfl rfl rfl (fun w hw=>h1▸c_onk p w) ?_
  refine PD.mv rfl rfl rfl rfl rfl ?_
  refine PD.stepW rfl rfl rfl (by kernel_rfl) rfl rfl (PS.moved (r:=.c _) rfl rfl) ?_
  refine PD.stepW rfl rfl rfl (by kernel_rfl) rfl rfl (PS.fieldAddr 2 rfl rfl (fun _ _=>by kernel_rfl)) ?_
  refine PD.stepW rfl rfl rfl (by kernel_rfl) rfl rfl (PS.load rfl rfl rfl rfl Tryz.underlying32 rfl) ?_
  refine PD.stepW rfl rfl rfl (by kernel_rfl) rfl rfl (PS.call (xs:=[_,_]) rfl rfl rfl rfl (fun w hw=>c_mul (lt_mod _) hz w)) ?_
  refine PD.stepW rfl rfl rfl (by kernel_rfl) rfl rfl (PS.fieldAddr 0 rfl rfl (fun _ _=>by kernel_rfl)) ?_
  refine PD.stepW rfl rfl rfl (by kernel_rfl) rfl rfl (PS.load rfl rfl rfl rfl Tryz.underlying32 rfl) ?_
  refine PD.stepW rfl rfl rfl (by kernel_rfl) rfl rfl (PS.moved (r:=.c _) rfl rfl) ?_
  refine PD.stepW rfl rfl rfl (by kernel_rfl) rfl rfl (PS.call (xs:=[_,_]) rfl rfl rfl rfl (fun w hw=>c_mul hx (lt_mod _) w)) ?_
  refine PD.stepW rfl rfl rfl (by kernel_rfl) rfl rfl (PS.call (xs:=[_,_]) rfl rfl rfl rfl (fun w hw=>FnAt.to (c_same (lt_mod _) (lt_mod _) w) (bool_le h2))) ?_
  refine PD.pT rfl rfl rfl rfl rfl rfl ?_
  refine PD.mv rfl rfl rfl rfl rfl ?_
  refine PD.stepP rfl rfl rfl (by kernel_rfl) (by decide) rfl rfl ?_
  refine PD.stepP rfl rfl rfl (by kernel_rfl) (by decide) rfl rfl ?_
  refine PD.stepP rfl rfl rfl (by kernel_rfl) (by decide) rfl rfl ?_
  refine PD.stepP rfl rfl rfl (by kernel_rfl) (by decide) rfl rfl ?_
  refine PD.stepP rfl rfl rfl (by kernel_rfl) (by decide) rfl rfl ?_
  refine PD.stepP rfl rfl rfl (by kernel_rfl) (by decide) rfl rfl ?_
  refine PD.stepP rfl rfl rfl (by kernel_rfl) (by decide) rfl rfl ?_
  refine PD.stepP rfl rfl rfl (by kernel_rfl) (by decide) rfl rfl ?_
  refine PD.stepP rfl rfl rfl (by kernel_rfl) (by decide) rfl rfl ?_
  refine PD.pF rfl rfl rfl rfl rfl rfl ?_
  refine PD.mu rfl rfl rfl rfl rfl ?_
  refine PD.nil ?_
  refine(PW.ret ?_:PW _ _ _ _)
  exact Rt.as (Rt.one Tryz.results14 rfl) (bool_le (by unfold ris;rw[h1,h2];rfl))
set_option maxRecDepth 100000 in
theorem c_Of{y:Nat}(odd:Bool)(hy:y < pp)(w:World):FnAt Tryz.prog [.u64] w 49 [num y,.lit (.bool odd)] (ofD (rof y odd) y):=by
 refine FnAt.of Tryz.f49 _ _ Tryz.func49 Tryz.ntmps49 rfl (by kernel_rfl) (fun _ _=>by kernel_rfl) fun O=>?_
 show PW _ _ _ ⟨[(0,.c (.dv _)),(1,.c (.dv _))],[]⟩
 refine(PW.seq ?_:PW _ _ _ _)
 refine(PW.region ?_:PW _ _ _ _)
 refine PL.full rfl (Fa.alloc 1 (z:=(.agg #[.slice none 0 0,.slice none 0 0,.slice none 0 0])) rfl (by kernel_rfl) (by kernel_rfl) rfl rfl ?_)
 refine PL.mu rfl rfl rfl rfl rfl ?_
 refine PL.nil ?_
 refine(PW.seq ?_:PW _ _ _ _)
 refine(PW.region ?_:PW _ _ _ _)
 refine PL.mv rfl rfl rfl rfl rfl ?_
 refine PL.mv rfl rfl rfl rfl rfl ?_
 refine PL.call (xs:=[_,_]) rfl rfl rfl rfl rfl rfl rfl (fun w hw=>c_mul hy hy w) ?_
 refine PL.mu rfl rfl rfl rfl rfl ?_
 refine PL.nil ?_
 refine(PW.seq ?_:PW _ _ _ _)
 rcases ho:rr (ru y) (rv y) with _|r
 rotate_left
 have hr:=rr_lt ho (lt_mod _) (rv_ne y)
 cases odd
 rotate_left
 by_cases h0:r=0
 ·skip
  refine(PW.region ?_:PW _ _ _ _)
  refine PL.mv rfl rfl rfl rfl rfl ?_
  refine PL.step rfl rfl rfl (PS.buildSlice (parts:=[(0,_)]) (xs:=[_]) (z:=(.int .u64 0)) (bytes:=8) rfl rfl rfl Tryz.underlying32 (by kernel_rfl) rfl (by kernel_rfl) (by kernel_rfl)) ?_
  refine PL.call (xs:=[_,_]) rfl rfl rfl rfl rfl rfl rfl (fun w hw=>FnAt.le2 (c_less (lt_mod _) pp_one w) (le_refl _) le_one) ?_
  refine PL.call (xs:=[]) rfl rfl rfl rfl rfl rfl rfl (fun w hw=>c_D w) ?_
  refine PL.mv rfl rfl rfl rfl rfl ?_
  refine PL.call (xs:=[_,_]) rfl rfl rfl rfl rfl rfl rfl (fun w hw=>c_mul dn_lt (lt_mod _) w) ?_
  refine PL.step rfl rfl rfl (PS.buildSlice (parts:=[(0,_)]) (xs:=[_]) (z:=(.int .u64 0)) (bytes:=8) rfl rfl rfl Tryz.underlying32 (by kernel_rfl) rfl (by kernel_rfl) (by kernel_rfl)) ?_
  refine PL.call (xs:=[_,_]) rfl rfl rfl rfl rfl rfl rfl (fun w hw=>FnAt.le2 (c_plus (lt_mod _) pp_one w) (le_refl _) le_one) ?_
  refine PL.call (xs:=[_,_]) rfl rfl rfl rfl rfl rfl rfl (fun w hw=>ho▸c_root (u:=ru y) (v:=rv y) (lt_mod _) (lt_mod _) w) ?_
  refine PL.mv rfl rfl rfl rfl rfl ?_
  refine PL.step rfl rfl rfl (PS.ext rfl rfl rfl) ?_
  refine PL.step rfl rfl rfl (PS.ext rfl rfl rfl) ?_
  refine PL.mu rfl rfl rfl rfl rfl ?_
  refine PL.mu rfl rfl rfl rfl rfl ?_
  refine PL.nil ?_
  refine(PW.seq ?_:PW _ _ _ _)
  refine(PW.seq ?_:PW _ _ _ _)
  refine(PW.region ?_:PW _ _ _ _)
  refine PL.mv rfl rfl rfl rfl rfl ?_
  refine PL.step rfl rfl rfl (PS.not rfl rfl) ?_
  refine PL.mv rfl rfl rfl rfl rfl ?_
  refine PL.stepW rfl rfl rfl rfl rfl (PS.moved (r:=.c _) rfl rfl) ?_
  refine PL.stepW rfl rfl rfl rfl rfl (PS.moved (r:=.c _) rfl rfl) ?_
  refine PL.stepW rfl rfl rfl rfl rfl (PS.moved (r:=.c _) rfl rfl) ?_
  refine PL.stepW rfl rfl rfl rfl rfl (PS.len (n:=0) rfl rfl Tryz.underlying32 (by decide) (by rw[num_len];show 0*1=(dg r).length;rw[h0,dg_zero];rfl)) ?_
  refine PL.stepW rfl rfl rfl rfl rfl (PS.eql rfl rfl rfl) ?_
  refine PL.stepW rfl rfl rfl rfl rfl (PS.pickT (r:=.c _) rfl rfl rfl) ?_
  refine PL.pF rfl rfl rfl rfl rfl rfl ?_
  refine PL.nil ?_
  show PW _ _ _ _
  refine PW.cond (b:=true) (by rfl) (fun _=>?_) (fun h=>nomatch h)
  refine(PW.seq ?_:PW _ _ _ _)
  refine(PW.region ?_:PW _ _ _ _)
  refine PL.step rfl rfl rfl (PS.build (xs:=[]) (zs:=[.slice none 0 0,.slice none 0 0,.slice none 0 0]) [] _ rfl rfl Tryz.underlying34 (by kernel_rfl) (by kernel_rfl) (by kernel_rfl) rfl (by kernel_rfl) rfl) ?_
  refine PL.full rfl (Fa.storeR rfl rfl rfl rfl rfl rfl (by kernel_rfl) rfl ?_)
  refine PL.mu rfl rfl rfl rfl rfl ?_
  refine PL.nil ?_
  refine(PW.ret ?_:PW _ _ _ _)
  exact Rt.as (Rt.cellTwo Tryz.results49 rfl rfl rfl Tryz.underlying34 rfl (by kernel_rfl)) (by unfold rof;rw[ho];dsimp only;rw[if_pos ⟨rfl,h0⟩];exact le_tup2 (le_pt le_zero le_zero le_zero) (le_refl _))
 ·skip
  refine(PW.region ?_:PW _ _ _ _)
  refine PL.mv rfl rfl rfl rfl rfl ?_
  refine PL.step rfl rfl rfl (PS.buildSlice (parts:=[(0,_)]) (xs:=[_]) (z:=(.int .u64 0)) (bytes:=8) rfl rfl rfl Tryz.underlying32 (by kernel_rfl) rfl (by kernel_rfl) (by kernel_rfl)) ?_
  refine PL.call (xs:=[_,_]) rfl rfl rfl rfl rfl rfl rfl (fun w hw=>FnAt.le2 (c_less (lt_mod _) pp_one w) (le_refl _) le_one) ?_
  refine PL.call (xs:=[]) rfl rfl rfl rfl rfl rfl rfl (fun w hw=>c_D w) ?_
  refine PL.mv rfl rfl rfl rfl rfl ?_
  refine PL.call (xs:=[_,_]) rfl rfl rfl rfl rfl rfl rfl (fun w hw=>c_mul dn_lt (lt_mod _) w) ?_
  refine PL.step rfl rfl rfl (PS.buildSlice (parts:=[(0,_)]) (xs:=[_]) (z:=(.int .u64 0)) (bytes:=8) rfl rfl rfl Tryz.underlying32 (by kernel_rfl) rfl (by kernel_rfl) (by kernel_rfl)) ?_
  refine PL.call (xs:=[_,_]) rfl rfl rfl rfl rfl rfl rfl (fun w hw=>FnAt.le2 (c_plus (lt_mod _) pp_one w) (le_refl _) le_one) ?_
  refine PL.call (xs:=[_,_]) rfl rfl rfl rfl rfl rfl rfl (fun w hw=>ho▸c_root (u:=ru y) (v:=rv y) (lt_mod _) (lt_mod _) w) ?_
  refine PL.mv rfl rfl rfl rfl rfl ?_
  refine PL.step rfl rfl rfl (PS.ext rfl rfl rfl) ?_
  refine PL.step rfl rfl rfl (PS.ext rfl rfl rfl) ?_
  refine PL.mu rfl rfl rfl rfl rfl ?_
  refine PL.mu rfl rfl rfl rfl rfl ?_
  refine PL.nil ?_
  refine(PW.seq ?_:PW _ _ _ _)
  refine(PW.seq ?_:PW _ _ _ _)
  refine(PW.region ?_:PW _ _ _ _)
  refine PL.mv rfl rfl rfl rfl rfl ?_
  refine PL.step rfl rfl rfl (PS.not rfl rfl) ?_
  refine PL.mv rfl rfl rfl rfl rfl ?_
  refine PL.stepW rfl rfl rfl rfl rfl (PS.moved (r:=.c _) rfl rfl) ?_
  refine PL.stepW rfl rfl rfl rfl rfl (PS.moved (r:=.c _) rfl rfl) ?_
  refine PL.stepW rfl rfl rfl rfl rfl (PS.moved (r:=.c _) rfl rfl) ?_
  refine PL.stepW rfl rfl rfl rfl rfl (PS.len (n:=(dg r).length) rfl rfl Tryz.underlying32 (by decide) ((Nat.mul_one _).trans (num_len _).symm)) ?_
  refine PL.stepW rfl rfl rfl rfl rfl (PS.decF (PS.eql rfl rfl rfl) (by have:=dg_len0 r;omega)) ?_
  refine PL.stepW rfl rfl rfl rfl rfl (PS.pickT (r:=.c _) rfl rfl rfl) ?_
  refine PL.pF rfl rfl rfl rfl rfl rfl ?_
  refine PL.nil ?_
  show PW _ _ _ _
  refine PW.cond (b:=false) (by rfl) (fun h=>nomatch h) (fun _=>?_)
  refine(PW.skip ?_:PW _ _ _ _)
  refine(PW.seq ?_:PW _ _ _ _)
  refine(PW.seq ?_:PW _ _ _ _)
  refine(PW.region ?_:PW _ _ _ _)
  refine PL.mv rfl rfl rfl rfl rfl ?_
  refine PL.nil ?_
  show PW _ _ _ _
  refine PW.cond (b:=true) (by rfl) (fun _=>?_) (fun h=>nomatch h)
  refine(PW.region ?_:PW _ _ _ _)
  refine PL.mv rfl rfl rfl rfl rfl ?_
  refine PL.call (xs:=[_,_]) rfl rfl rfl rfl rfl rfl rfl (fun w hw=>FnAt.le2 (c_less (a:=0) pp_pos hr w) le_zero (le_refl _)) ?_
  refine PL.mu rfl rfl rfl rfl rfl ?_
  refine PL.nil ?_
  refine(PW.seq ?_:PW _ _ _ _)
  refine(PW.region ?_:PW _ _ _ _)
  refine PL.mv rfl rfl rfl rfl rfl ?_
  refine PL.mv rfl rfl rfl rfl rfl ?_
  refine PL.step rfl rfl rfl (PS.buildSlice (parts:=[(0,_)]) (xs:=[_]) (z:=(.int .u64 0)) (bytes:=8) rfl rfl rfl Tryz.underlying32 (by kernel_rfl) rfl (by kernel_rfl) (by kernel_rfl)) ?_
  refine PL.step rfl rfl rfl (PS.build (xs:=[_,_,_]) (zs:=[.slice none 0 0,.slice none 0 0,.slice none 0 0]) [0,1,2] _ rfl rfl Tryz.underlying34 (by kernel_rfl) (by kernel_rfl) (by kernel_rfl) rfl (by kernel_rfl) rfl) ?_
  refine PL.full rfl (Fa.storeR rfl rfl rfl rfl rfl rfl (by kernel_rfl) rfl ?_)
  refine PL.mu rfl rfl rfl rfl rfl ?_
  refine PL.nil ?_
  refine(PW.ret ?_:PW _ _ _ _)
  exact Rt.as (Rt.cellTwo Tryz.results49 rfl rfl rfl Tryz.underlying34 rfl (by kernel_rfl)) (by unfold rof;rw[ho];dsimp only;rw[if_neg (fun h=>h0 h.2),if_pos rfl];exact le_tup2 (le_pt (le_refl _) (le_refl _) le_one) (le_refl _))
 ·skip
  refine(PW.region ?_:PW _ _ _ _)
  refine PL.mv rfl rfl rfl rfl rfl ?_
  refine PL.step rfl rfl rfl (PS.buildSlice (parts:=[(0,_)]) (xs:=[_]) (z:=(.int .u64 0)) (bytes:=8) rfl rfl rfl Tryz.underlying32 (by kernel_rfl) rfl (by kernel_rfl) (by kernel_rfl)) ?_
  refine PL.call (xs:=[_,_]) rfl rfl rfl rfl rfl rfl rfl (fun w hw=>FnAt.le2 (c_less (lt_mod _) pp_one w) (le_refl _) le_one) ?_
  refine PL.call (xs:=[]) rfl rfl rfl rfl rfl rfl rfl (fun w hw=>c_D w) ?_
  refine PL.mv rfl rfl rfl rfl rfl ?_
  refine PL.call (xs:=[_,_]) rfl rfl rfl rfl rfl rfl rfl (fun w hw=>c_mul dn_lt (lt_mod _) w) ?_
  refine PL.step rfl rfl rfl (PS.buildSlice (parts:=[(0,_)]) (xs:=[_]) (z:=(.int .u64 0)) (bytes:=8) rfl rfl rfl Tryz.underlying32 (by kernel_rfl) rfl (by kernel_rfl) (by kernel_rfl)) ?_
  refine PL.call (xs:=[_,_]) rfl rfl rfl rfl rfl rfl rfl (fun w hw=>FnAt.le2 (c_plus (lt_mod _) pp_one w) (le_refl _) le_one) ?_
  refine PL.call (xs:=[_,_]) rfl rfl rfl rfl rfl rfl rfl (fun w hw=>ho▸c_root (u:=ru y) (v:=rv y) (lt_mod _) (lt_mod _) w) ?_
  refine PL.mv rfl rfl rfl rfl rfl ?_
  refine PL.step rfl rfl rfl (PS.ext rfl rfl rfl) ?_
  refine PL.step rfl rfl rfl (PS.ext rfl rfl rfl) ?_
  refine PL.mu rfl rfl rfl rfl rfl ?_
  refine PL.mu rfl rfl rfl rfl rfl ?_
  refine PL.nil ?_
  refine(PW.seq ?_:PW _ _ _ _)
  refine(PW.seq ?_:PW _ _ _ _)
  refine(PW.region ?_:PW _ _ _ _)
  refine PL.mv rfl rfl rfl rfl rfl ?_
  refine PL.step rfl rfl rfl (PS.not rfl rfl) ?_
  refine PL.mv rfl rfl rfl rfl rfl ?_
  refine PL.stepP rfl rfl rfl (by decide) rfl rfl ?_
  refine PL.stepP rfl rfl rfl (by decide) rfl rfl ?_
  refine PL.stepU rfl rfl rfl rfl rfl ?_
  refine PL.stepU rfl rfl rfl rfl rfl ?_
  refine PL.stepU rfl rfl rfl rfl rfl ?_
  refine PL.stepP rfl rfl rfl (by decide) rfl rfl ?_
  refine PL.pT rfl rfl rfl rfl rfl rfl ?_
  refine PL.nil ?_
  show PW _ _ _ _
  refine PW.cond (b:=true) (by rfl) (fun _=>?_) (fun h=>nomatch h)
  refine(PW.seq ?_:PW _ _ _ _)
  refine(PW.region ?_:PW _ _ _ _)
  refine PL.step rfl rfl rfl (PS.build (xs:=[]) (zs:=[.slice none 0 0,.slice none 0 0,.slice none 0 0]) [] _ rfl rfl Tryz.underlying34 (by kernel_rfl) (by kernel_rfl) (by kernel_rfl) rfl (by kernel_rfl) rfl) ?_
  refine PL.full rfl (Fa.storeR rfl rfl rfl rfl rfl rfl (by kernel_rfl) rfl ?_)
  refine PL.mu rfl rfl rfl rfl rfl ?_
  refine PL.nil ?_
  refine(PW.ret ?_:PW _ _ _ _)
  exact Rt.as (Rt.cellTwo Tryz.results49 rfl rfl rfl Tryz.underlying34 rfl (by kernel_rfl)) (by unfold rof;rw[ho];exact le_tup2 (le_pt le_zero le_zero le_zero) (le_refl _))
 ·skip
  refine(PW.region ?_:PW _ _ _ _)
  refine PL.mv rfl rfl rfl rfl rfl ?_
  refine PL.step rfl rfl rfl (PS.buildSlice (parts:=[(0,_)]) (xs:=[_]) (z:=(.int .u64 0)) (bytes:=8) rfl rfl rfl Tryz.underlying32 (by kernel_rfl) rfl (by kernel_rfl) (by kernel_rfl)) ?_
  refine PL.call (xs:=[_,_]) rfl rfl rfl rfl rfl rfl rfl (fun w hw=>FnAt.le2 (c_less (lt_mod _) pp_one w) (le_refl _) le_one) ?_
  refine PL.call (xs:=[]) rfl rfl rfl rfl rfl rfl rfl (fun w hw=>c_D w) ?_
  refine PL.mv rfl rfl rfl rfl rfl ?_
  refine PL.call (xs:=[_,_]) rfl rfl rfl rfl rfl rfl rfl (fun w hw=>c_mul dn_lt (lt_mod _) w) ?_
  refine PL.step rfl rfl rfl (PS.buildSlice (parts:=[(0,_)]) (xs:=[_]) (z:=(.int .u64 0)) (bytes:=8) rfl rfl rfl Tryz.underlying32 (by kernel_rfl) rfl (by kernel_rfl) (by kernel_rfl)) ?_
  refine PL.call (xs:=[_,_]) rfl rfl rfl rfl rfl rfl rfl (fun w hw=>FnAt.le2 (c_plus (lt_mod _) pp_one w) (le_refl _) le_one) ?_
  refine PL.call (xs:=[_,_]) rfl rfl rfl rfl rfl rfl rfl (fun w hw=>ho▸c_root (u:=ru y) (v:=rv y) (lt_mod _) (lt_mod _) w) ?_
  refine PL.mv rfl rfl rfl rfl rfl ?_
  refine PL.step rfl rfl rfl (PS.ext rfl rfl rfl) ?_
  refine PL.step rfl rfl rfl (PS.ext rfl rfl rfl) ?_
  refine PL.mu rfl rfl rfl rfl rfl ?_
  refine PL.mu rfl rfl rfl rfl rfl ?_
  refine PL.nil ?_
  refine(PW.seq ?_:PW _ _ _ _)
  refine(PW.seq ?_:PW _ _ _ _)
  refine(PW.region ?_:PW _ _ _ _)
  refine PL.mv rfl rfl rfl rfl rfl ?_
  refine PL.step rfl rfl rfl (PS.not rfl rfl) ?_
  refine PL.mv rfl rfl rfl rfl rfl ?_
  refine PL.stepW rfl rfl rfl rfl rfl (PS.moved (r:=.c _) rfl rfl) ?_
  refine PL.stepW rfl rfl rfl rfl rfl (PS.moved (r:=.c _) rfl rfl) ?_
  refine PL.stepP rfl rfl rfl (by decide) rfl rfl ?_
  refine PL.stepP rfl rfl rfl (by decide) rfl rfl ?_
  refine PL.stepP rfl rfl rfl (by decide) rfl rfl ?_
  refine PL.stepW rfl rfl rfl rfl rfl (PS.pickF (r:=.c _) rfl rfl rfl) ?_
  refine PL.pF rfl rfl rfl rfl rfl rfl ?_
  refine PL.nil ?_
  show PW _ _ _ _
  refine PW.cond (b:=false) (by rfl) (fun h=>nomatch h) (fun _=>?_)
  refine(PW.skip ?_:PW _ _ _ _)
  refine(PW.seq ?_:PW _ _ _ _)
  refine(PW.seq ?_:PW _ _ _ _)
  refine(PW.region ?_:PW _ _ _ _)
  refine PL.mv rfl rfl rfl rfl rfl ?_
  refine PL.nil ?_
  show PW _ _ _ _
  refine PW.cond (b:=false) (by rfl) (fun h=>nomatch h) (fun _=>?_)
  refine(PW.skip ?_:PW _ _ _ _)
  refine(PW.seq ?_:PW _ _ _ _)
  refine(PW.region ?_:PW _ _ _ _)
  refine PL.mv rfl rfl rfl rfl rfl ?_
  refine PL.mv rfl rfl rfl rfl rfl ?_
  refine PL.step rfl rfl rfl (PS.buildSlice (parts:=[(0,_)]) (xs:=[_]) (z:=(.int .u64 0)) (bytes:=8) rfl rfl rfl Tryz.underlying32 (by kernel_rfl) rfl (by kernel_rfl) (by kernel_rfl)) ?_
  refine PL.step rfl rfl rfl (PS.build (xs:=[_,_,_]) (zs:=[.slice none 0 0,.slice none 0 0,.slice none 0 0]) [0,1,2] _ rfl rfl Tryz.underlying34 (by kernel_rfl) (by kernel_rfl) (by kernel_rfl) rfl (by kernel_rfl) rfl) ?_
  refine PL.full rfl (Fa.storeR rfl rfl rfl rfl rfl rfl (by kernel_rfl) rfl ?_)
  refine PL.mu rfl rfl rfl rfl rfl ?_
  refine PL.nil ?_
  refine(PW.ret ?_:PW _ _ _ _)
  exact Rt.as (Rt.cellTwo Tryz.results49 rfl rfl rfl Tryz.underlying34 rfl (by kernel_rfl)) (by unfold rof;rw[ho];dsimp only;rw[if_neg (fun h=>by cases h.1),if_neg (fun h=>by cases h)];exact le_tup2 (le_pt (le_refl _) (le_refl _) le_one) (le_refl _))
end Go.Proofs.YtjimhjfjfpeojaaGreatDoor.Av
