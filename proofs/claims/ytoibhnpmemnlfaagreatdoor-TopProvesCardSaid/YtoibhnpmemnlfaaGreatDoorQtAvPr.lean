/- Joined texts. -/
import Derived.Test.YtoibhnpmemnlfaaGreatDoorQtAvBr
import Derived.Test.YtoibhnpmemnlfaaGreatDoorQtEdN
import Derived.Test.YtoibhnpmemnlfaaGreatDoorQtAvPd
import Derived.Test.YtoibhnpmemnlfaaGreatDoorQtEdL
import Derived.Test.YtoibhnpmemnlfaaGreatDoorQtAvPg
import Derived.Laws.CopyOwn
import Derived.Deep.Cut
import Derived.Test.YtoibhnpmemnlfaaGreatDoorQtRaA
set_option linter.unusedVariables false
namespace Go.Proofs.YtoibhnpmemnlfaaGreatDoor.Av
open Go.RowKit Go.Proofs.YtoibhnpmemnlfaaGreatDoor.Gn Go.Proofs.YtoibhnpmemnlfaaGreatDoor.Fd Go.Proofs.YtoibhnpmemnlfaaGreatDoor.Ed Go.Deep
def pnt(g:G):DV:=.sat fun u=>∃p:KP,u=.agg p.v∧Hp p g
theorem p_add{g h:G}(w:World)(tab:TabE w):FnAt Tryz.prog [] w 14 [pnt g,pnt h] (pnt (ga g h)) :=
 ⟨fun _ _=>by kernel_rfl,fun O vs hO hk hl hr=>by
  obtain⟨u,v,rfl,⟨p,rfl,hp⟩,⟨q,rfl,hq⟩⟩:=two_args hl hr
  exact(Add_any p q w tab).mono fun e w' ⟨h3,h4⟩=>⟨_,h3,⟨_,rfl,hp.add hq⟩,h4⟩⟩
theorem p_base{b:G}(hb:Hp kbase b)(w:World)(tab:TabE w):FnAt Tryz.prog [] w 12 [] (pnt b) :=
 ⟨fun _ _=>by kernel_rfl,fun O vs hO hk hl hr=>by
  obtain rfl:=no_args hl
  exact(Base_any w tab).mono fun e w' ⟨h3,h4⟩=>⟨_,h3,⟨_,rfl,hb⟩,h4⟩⟩
theorem p_same{g h:G}(w:World)(tab:TabE w)(b:Bool)(hb:b=true↔g=h):FnAt Tryz.prog [] w 13 [pnt g,pnt h] (.lit (.bool b)) :=
 FnAt.sat2 (fun _ _=>by kernel_rfl) fun v u ⟨p,hv,hp⟩ ⟨q,hu,hq⟩=>by
  subst hv hu
  have:=p_samek p q w tab
  rwa [show hsame kd p q=b from Bool.eq_iff_iff.2 ((hsame_has hp hq).trans hb.symm)] at this
theorem p_enc{g:G}(w:World):FnAt Tryz.prog [] w 16 [pnt g] (byt true (by_ (gb g) 32)) :=
 FnAt.sat (fun _ _=>by kernel_rfl) fun v ⟨p,hv,hp⟩=>by subst hv;exact p_enck hp w
theorem p_mul{r:Bool}{l:List Nat}{g:G}(h:l.length≤32)(hl:∀x∈l,x < 256)(w:World)(tab:TabE w):FnAt Tryz.prog [] w 11 [byt r l,pnt g] (.tup [pnt (ti (le l) g),.lit (.int .i64 0)]) :=
 ⟨fun _ _=>by kernel_rfl,fun O vs hO hk hln hr=>by
  obtain⟨u,v,rfl,h1,⟨p,rfl,hp⟩⟩:=two_args hln hr
  obtain⟨A,n,c,rfl,s1,-⟩:=row_sl h1
  exact(Mul_any A n c l p w g tab (by have:=s1.1;simp[bl] at this;omega) hl s1 hp).mono fun e w' ⟨q,h3,h4,h5⟩=>⟨_,h3,⟨_,rfl,rfl,⟨_,rfl,q,rfl,h4⟩,⟨_,rfl,rfl⟩,trivial⟩,h5⟩⟩
theorem three_args{O:Nat→Prop}{w:World}{x y z:DV}{vs:List Value}(hl:vs.length=3)(h:DV.reps O w [x,y,z] 0 (fun i v=>vs[i]?=some v)):∃u v t,vs=[u,v,t]∧x.rep O w u∧y.rep O w v∧z.rep O w t:=by
 obtain⟨⟨u,h1,h2⟩,⟨v,h3,h4⟩,⟨t,h5,h6⟩,-⟩:=h
 match vs,hl with
 | [a,b,c],_=>simp at h1 h3 h5;subst h1 h3 h5;exact⟨_,_,_,rfl,h2,h4,h6⟩
theorem p_decS{l:List Nat}{p:KP}(h32:l.length=32)(hl:∀x∈l,x < 256)(h:dpt (le (low l)) (l.getD 31 0 / 128)=some p)(w:World)(tab:TabE w):FnAt Tryz.prog [] w 10 [byt true l] (.tup [.lit (.agg p.v),.lit (.int .i64 0)]):=by
 have:=p_dec5 h32 hl w tab
 rw[h] at this
 exact this
theorem lit_pnt{p:KP}{g:G}(h:Hp p g):DV.le (.lit (.agg p.v)) (pnt g):=fun O w v e=>by cases e;exact⟨p,rfl,h⟩
theorem pnt_row(g:G):∀O w v,(pnt g).rep O w v→∃us:Array Value,v=.agg us∧us.size=20∧∀u∈us.toList,u.oneCell'=true :=
 fun O w v ⟨p,h,_⟩=>⟨p.v,h,rfl,KP.ones p⟩
end Go.Proofs.YtoibhnpmemnlfaaGreatDoor.Av
namespace Go.Proofs.YtoibhnpmemnlfaaGreatDoor.Av
open Go.RowKit Go.Proofs.YtoibhnpmemnlfaaGreatDoor.Gn Go.Proofs.YtoibhnpmemnlfaaGreatDoor.Fd Go.Proofs.YtoibhnpmemnlfaaGreatDoor.Ed Go.Deep
theorem dec_ref(g:G):∃p,dpt (le (low (by_ (gb g) 32))) ((by_ (gb g) 32).getD 31 0 / 128)=some p∧Hp p g:=dec_of g
end Go.Proofs.YtoibhnpmemnlfaaGreatDoor.Av
namespace Go.Proofs.YtoibhnpmemnlfaaGreatDoor.Av
open Go.RowKit Go.Proofs.YtoibhnpmemnlfaaGreatDoor.Gn Go.Proofs.YtoibhnpmemnlfaaGreatDoor.Fd Go.Proofs.YtoibhnpmemnlfaaGreatDoor.Ed Go.Deep
theorem le_bnil:DV.le (.lit (.slice none 0 0)) (byt true []):=le_nil true 1
section
variable {Γ:Ctx} {σ:St} {fn:Func}
end
theorem p_decG{g:G}(w:World)(tab:TabE w):FnAt Tryz.prog [] w 10 [byt true (by_ (gb g) 32)] (.tup [pnt g,.lit (.int .i64 0)]):=by
 obtain⟨p,h1,h2⟩:=dec_ref g
 exact(p_decS (by_length _ _) (by_lt _ _) h1 w tab).to (le_tup2 (lit_pnt h2) (le_refl _))
end Go.Proofs.YtoibhnpmemnlfaaGreatDoor.Av
namespace Go.Proofs.YtoibhnpmemnlfaaGreatDoor.Av
open Go.RowKit Go.Proofs.YtoibhnpmemnlfaaGreatDoor.Gn Go.Proofs.YtoibhnpmemnlfaaGreatDoor.Fd Go.Proofs.YtoibhnpmemnlfaaGreatDoor.Ed Go.Deep
set_option maxRecDepth 100000 in
theorem c_samebytes{r s:Bool}{l k:List Nat}(hl:∀x∈l,x < 256)(hk:∀x∈k,x < 256)(w:World):FnAt Tryz.prog [] w 15 [byt r l,byt s k] (.lit (.bool (decide (l=k)))):=by
 refine FnAt.of Tryz.f15 _ _ Tryz.func15 Tryz.ntmps15 rfl (by kernel_rfl) (fun _ _=>by kernel_rfl) fun O=>?_
 show PW _ _ _ ⟨[(0,.c (.dv _)),(1,.c (.dv _))],[]⟩
 refine(PW.seq ?_:PW _ _ _ _)
 refine(PW.region ?_:PW _ _ _ _)
 refine PL.mu rfl rfl rfl rfl rfl ?_
 refine PL.nil ?_
 refine(PW.seq ?_:PW _ _ _ _)
 refine(PW.region ?_:PW _ _ _ _)
 refine PL.mv rfl rfl rfl rfl rfl ?_
 refine PL.step rfl rfl rfl (PS.str (l:=l) rfl rfl Tryz.underlying22 Tryz.underlying5 Tryz.underlying9) ?_
 refine PL.mv rfl rfl rfl rfl rfl ?_
 refine PL.step rfl rfl rfl (PS.str (l:=k) rfl rfl Tryz.underlying22 Tryz.underlying5 Tryz.underlying9) ?_
 refine PL.step rfl rfl rfl (PS.seq rfl rfl rfl) ?_
 refine PL.mu rfl rfl rfl rfl rfl ?_
 refine PL.nil ?_
 refine(PW.ret ?_:PW _ _ _ _)
 exact Rt.as (Rt.one Tryz.results15 rfl) (bool_le (txt_dec hl hk))
end Go.Proofs.YtoibhnpmemnlfaaGreatDoor.Av
namespace Go.Proofs.YtoibhnpmemnlfaaGreatDoor.Fd
open Go.RowKit Go.Proofs.YtoibhnpmemnlfaaGreatDoor.Gn Go.Deep
def Lq:Nat:=7237005577332262213973186563042994240857116359379907606001950938285454250989
theorem Lq_eq:Lq=7237005577332262213973186563042994240857116359379907606001950938285454250989:=rfl
theorem Lq_pos:0 < Lq:=by decide
attribute [irreducible] Lq
end Go.Proofs.YtoibhnpmemnlfaaGreatDoor.Fd
