/- Joined texts. -/
import Derived.Test.YtoibhnpmemnlfaaGreatDoorQtFaE
import Derived.Test.YtoibhnpmemnlfaaGreatDoorQtFaC
import Derived.Test.YtoibhnpmemnlfaaGreatDoorQtPuB
import Derived.Test.YtoibhnpmemnlfaaGreatDoorQtGnB
set_option linter.unusedVariables false
namespace Go.Proofs.YtoibhnpmemnlfaaGreatDoor.Ed
open Go.RowKit Go.Proofs.YtoibhnpmemnlfaaGreatDoor.Gn Go.Proofs.YtoibhnpmemnlfaaGreatDoor.Fd Go.Deep
def K:Type:={x:E5 // x.ok}
def K.v(x:K):Array Value:=x.1.v
def K.n(x:K):Nat:=x.1.val
def K.f(x:K):F:=fe x.n
def kof(n:Nat):K:=⟨el (n%pp),el_ok (mod_lt n)⟩
theorem kof_n(n:Nat):(kof n).n=n%pp:=el_val _
theorem kof_f(n:Nat):(kof n).f=fe n:=by unfold K.f;rw[kof_n,fe_mod]
theorem kof_v(n:Nat):(kof n).v=(el (n%pp)).v:=rfl
def kadd(x y:K):K:=kof (x.n+y.n)
def ksub(x y:K):K:=kof (sb x.n y.n)
def kneg(x:K):K:=kof (ng x.n)
def kmul(x y:K):K:=kof (x.n*y.n)
def kinv(x:K):K:=kof (x.n ^ (pp - 2))
theorem kadd_f(x y:K):(kadd x y).f=x.f+y.f:=by unfold kadd;rw[kof_f,fe_add];rfl
theorem ksub_f(x y:K):(ksub x y).f=x.f - y.f:=by
 unfold ksub;rw[kof_f,show sb x.n y.n=su x.n y.n from rfl,fe_su];rfl
theorem kneg_f(x:K):(kneg x).f=- x.f:=by unfold kneg;rw[kof_f,fe_ng];rfl
theorem kmul_f(x y:K):(kmul x y).f=x.f*y.f:=by unfold kmul;rw[kof_f,fe_mul];rfl
theorem kinv_f(x:K):(kinv x).f=cv.inv x.f:=by
 unfold kinv;rw[kof_f]
 show fe (x.n ^ (pp - 2))=fe (fv (fe x.n) ^ (pp - 2))
 rw[fv_fe,fe_eq]
 exact(Nat.pow_mod x.n (pp - 2) pp)
theorem f_n{x:K}:fv x.f=x.n%pp:=fv_fe _
theorem f_eq{x y:K}:x.f=y.f↔x.n%pp=y.n%pp:=fe_eq
attribute [irreducible] kof
theorem cadd(x y:K)(w:World):Calls Tryz.prog 39 #[.agg x.v,.agg y.v] w fun e w'=>e=.returned (.agg (kadd x y).v)∧Below w.heap.size w w':=by
 unfold kadd;rw[kof_v];exact Add_any x.1 y.1 w x.2 y.2
theorem csub(x y:K)(w:World):Calls Tryz.prog 40 #[.agg x.v,.agg y.v] w fun e w'=>e=.returned (.agg (ksub x y).v)∧Below w.heap.size w w':=by
 unfold ksub;rw[kof_v,Nat.mod_eq_of_lt (show sb x.n y.n < pp from mod_lt _)];exact Sub_any x.1 y.1 w x.2 y.2
theorem cneg(x:K)(w:World):Calls Tryz.prog 31 #[.agg x.v] w fun e w'=>e=.returned (.agg (kneg x).v)∧Below w.heap.size w w':=by
 unfold kneg;rw[kof_v,Nat.mod_eq_of_lt (ng_lt _)];exact Neg_any x.1 w x.2
theorem cmul(x y:K)(w:World):Calls Tryz.prog 38 #[.agg x.v,.agg y.v] w fun e w'=>e=.returned (.agg (kmul x y).v)∧Below w.heap.size w w':=by
 unfold kmul;rw[kof_v];exact Mul_any x.1 y.1 w x.2 y.2
theorem csq(x:K)(w:World):Calls Tryz.prog 58 #[.agg x.v] w fun e w'=>e=.returned (.agg (kmul x x).v)∧Below w.heap.size w w':=by
 unfold kmul;rw[kof_v];exact Square_any x.1 w x.2
theorem cinv(x:K)(w:World):Calls Tryz.prog 42 #[.agg x.v] w fun e w'=>e=.returned (.agg (kinv x).v)∧Below w.heap.size w w':=by
 unfold kinv;rw[kof_v];exact Inv_any x.1 w x.2
theorem csame(x y:K)(w:World):Calls Tryz.prog 37 #[.agg x.v,.agg y.v] w fun e w'=>e=.returned (.bool (decide (x.f=y.f)))∧Below w.heap.size w w':=by
 rw[decide_eq_decide.2 f_eq];exact Same_any x.1 y.1 w x.2 y.2
theorem codd(x:K)(w:World):Calls Tryz.prog 32 #[.agg x.v] w fun e w'=>e=.returned (.bool (decide (fv x.f%2=1)))∧Below w.heap.size w w':=by
 rw[f_n];exact Odd_any x.1 w x.2
theorem csmall0(w:World):Calls Tryz.prog 57 #[.int .u64 0] w fun e w'=>e=.returned (.agg (kof 0).v)∧Below w.heap.size w w':=by
 rw[kof_v,Nat.zero_mod];exact Small_any 0 w (by decide)
theorem csmall1(w:World):Calls Tryz.prog 57 #[.int .u64 1] w fun e w'=>e=.returned (.agg (kof 1).v)∧Below w.heap.size w w':=by
 rw[kof_v,Nat.mod_eq_of_lt pp_one];exact Small_any 1 w (by decide)
attribute [irreducible] kadd ksub kneg kmul kinv
structure KP where
 x:K
 y:K
 z:K
 t:K
def KP.v(p:KP):Array Value:=#[.int .u64 (p.x.1.a:Int),.int .u64 (p.x.1.b:Int),.int .u64 (p.x.1.c:Int),.int .u64 (p.x.1.d:Int),.int .u64 (p.x.1.e:Int),
 .int .u64 (p.y.1.a:Int),.int .u64 (p.y.1.b:Int),.int .u64 (p.y.1.c:Int),.int .u64 (p.y.1.d:Int),.int .u64 (p.y.1.e:Int),
 .int .u64 (p.z.1.a:Int),.int .u64 (p.z.1.b:Int),.int .u64 (p.z.1.c:Int),.int .u64 (p.z.1.d:Int),.int .u64 (p.z.1.e:Int),
 .int .u64 (p.t.1.a:Int),.int .u64 (p.t.1.b:Int),.int .u64 (p.t.1.c:Int),.int .u64 (p.t.1.d:Int),.int .u64 (p.t.1.e:Int)]
def KP.pt(p:KP):Pt pp:=⟨p.x.f,p.y.f,p.z.f,p.t.f⟩
theorem K.ones(x:K):∀u∈x.v.toList,u.oneCell'=true:=by
 intro u hu
 unfold K.v E5.v at hu
 simp at hu
 rcases hu with rfl|rfl|rfl|rfl|rfl <;> rfl
theorem KP.ones(p:KP):∀u∈p.v.toList,u.oneCell'=true:=by
 have h:p.v.toList=p.x.v.toList ++ (p.y.v.toList ++ (p.z.v.toList ++ p.t.v.toList)):=rfl
 intro u hu
 rw[h] at hu
 rcases List.mem_append.1 hu with hu|hu
 ·exact K.ones _ u hu
 rcases List.mem_append.1 hu with hu|hu
 ·exact K.ones _ u hu
 rcases List.mem_append.1 hu with hu|hu
 ·exact K.ones _ u hu
 ·exact K.ones _ u hu
def z20:Array Value:=#[.int .u64 0,.int .u64 0,.int .u64 0,.int .u64 0,.int .u64 0,.int .u64 0,.int .u64 0,.int .u64 0,.int .u64 0,.int .u64 0,.int .u64 0,.int .u64 0,.int .u64 0,.int .u64 0,.int .u64 0,.int .u64 0,.int .u64 0,.int .u64 0,.int .u64 0,.int .u64 0]
theorem sizeE:(Tryz.prog.info? 31).map (·.size)=some 5:=by kernel_rfl
theorem sizeP:(Tryz.prog.info? 33).map (·.size)=some 20:=by kernel_rfl
def kquo(a b u v:K):KP:=⟨kmul a v,kmul u b,kmul b v,kmul a u⟩
theorem kquo_pt(a b u v:K):(kquo a b u v).pt=Crv.quo a.f b.f u.f v.f:=by
 unfold kquo KP.pt Crv.quo;simp only[kmul_f]
def kheld(x y:K):KP:=⟨x,y,kof 1,kmul x y⟩
def nd2:Nat:=16295367250680780974490674513165176452449235426866156013048779062215315747161
def nbx:Nat:=15112221349535400772501151409588531511454012693041857206046113283949847762202
def nby:Nat:=46316835694926478169428394003475163141307993866256225615783033603165251855960
structure TabE (w:World):Prop where
 im:Fd.Tab w
 d:C5 w 3 (el dn)
 d2:C5 w 2 (el nd2)
 bx:C5 w 0 (el nbx)
 by_:C5 w 1 (el nby)
theorem TabE.below{w w':World}(h:TabE w)(hb:Below w.heap.size w w'):TabE w':=⟨h.im.below hb,c5_below h.d hb,c5_below h.d2 hb,c5_below h.bx hb,c5_below h.by_ hb⟩
def kd:K:=kof dn
def kd2:K:=kof nd2
def kbx:K:=kof nbx
def kby:K:=kof nby
theorem nd2_eq:nd2=(dn+dn)%pp:=by rw[pp_eq];decide +kernel
theorem small_lt:dn < pp∧nd2 < pp∧nbx < pp∧nby < pp:=by rw[pp_eq];decide +kernel
theorem kd_v:kd.v=(el dn).v:=by unfold kd;rw[kof_v,Nat.mod_eq_of_lt small_lt.1]
theorem kd2_v:kd2.v=(el nd2).v:=by unfold kd2;rw[kof_v,Nat.mod_eq_of_lt small_lt.2.1]
theorem kbx_v:kbx.v=(el nbx).v:=by unfold kbx;rw[kof_v,Nat.mod_eq_of_lt small_lt.2.2.1]
theorem kby_v:kby.v=(el nby).v:=by unfold kby;rw[kof_v,Nat.mod_eq_of_lt small_lt.2.2.2]
theorem kd_f:kd.f=cv.d:=kof_f _
theorem kd2_f:kd2.f=cv.d+cv.d:=by
 unfold kd2;rw[kof_f,nd2_eq,fe_mod,fe_add];rfl
def KP.add(p q:KP):KP :=
 kquo (ksub (kmul (kadd p.y p.x) (kadd q.y q.x)) (kmul (ksub p.y p.x) (ksub q.y q.x))) (kadd (kmul (kadd p.z p.z) q.z) (kmul (kmul p.t kd2) q.t)) (kadd (kmul (kadd p.y p.x) (kadd q.y q.x)) (kmul (ksub p.y p.x) (ksub q.y q.x))) (ksub (kmul (kadd p.z p.z) q.z) (kmul (kmul p.t kd2) q.t))
theorem KP.add_pt(p q:KP):(p.add q).pt=cv.add p.pt q.pt:=by
 unfold KP.add
 rw[kquo_pt]
 simp only[kadd_f,ksub_f,kmul_f,kd2_f]
 rfl
def KP.twice(p:KP):KP :=
 kquo (kadd (kmul p.x p.y) (kmul p.x p.y)) (ksub (kmul p.y p.y) (kmul p.x p.x)) (kadd (kmul p.y p.y) (kmul p.x p.x)) (ksub (kadd (kmul p.z p.z) (kmul p.z p.z)) (ksub (kmul p.y p.y) (kmul p.x p.x)))
theorem KP.twice_pt(p:KP):p.twice.pt=Crv.twice p.pt:=by
 unfold KP.twice
 rw[kquo_pt]
 simp only[kadd_f,ksub_f,kmul_f]
 rfl
def KP.neg(p:KP):KP:=⟨kneg p.x,p.y,p.z,kneg p.t⟩
theorem KP.neg_pt(p:KP):p.neg.pt=Crv.neg p.pt:=by
 unfold KP.neg KP.pt Crv.neg
 simp only[kneg_f]
def kzero:KP:=kheld (kof 0) (kof 1)
def kbase:KP:=kheld kbx kby
theorem kzero_has:Has kzero.pt gz:=by
 have e:kzero.pt=qz.pt:=by
  unfold kzero kheld KP.pt qz Q.pt
  simp only[kmul_f,kof_f,fe_zero,fe_one,Semiring.zero_mul]
 rw[e];exact qz_has
theorem kbase_pt:kbase.pt=qb.pt:=by
 unfold kbase kheld KP.pt qb Q.pt
 simp only[kmul_f,kof_f,kbx,kby]
 have h:fe nbx*fe nby=fe 46827403850823179245072216630277197565144205554125654976674165829533817101731:=by
  rw[←fe_mul,fe_eq]
  unfold cg
  rw[pp_eq]
  decide +kernel
 rw[h]
 rfl
def Hp(p:KP)(g:G):Prop:=Has p.pt g
theorem Hp.add{p q:KP}{g h:G}(hp:Hp p g)(hq:Hp q h):Hp (p.add q) (ga g h):=by unfold Hp;rw[KP.add_pt];exact Has.add hp hq
theorem Hp.twice{p:KP}{g:G}(hp:Hp p g):Hp p.twice (ga g g):=by unfold Hp;rw[KP.twice_pt];exact Has.twice hp
theorem Hp.neg{p:KP}{g:G}(hp:Hp p g):Hp p.neg (gn g):=by unfold Hp;rw[KP.neg_pt];exact Has.neg hp
end Go.Proofs.YtoibhnpmemnlfaaGreatDoor.Ed
