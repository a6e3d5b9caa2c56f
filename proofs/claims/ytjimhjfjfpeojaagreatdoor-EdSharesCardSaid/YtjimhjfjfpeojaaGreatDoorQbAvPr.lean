/- Joined texts. -/
import Derived.Test.YtjimhjfjfpeojaaGreatDoorQbRdec
import Derived.Test.YtjimhjfjfpeojaaGreatDoorQbEdN
import Derived.Test.YtjimhjfjfpeojaaGreatDoorQbAvPd
set_option linter.unusedVariables false
namespace Go.Proofs.YtjimhjfjfpeojaaGreatDoor.Av
open Go.RowKit Go.Proofs.YtjimhjfjfpeojaaGreatDoor.Gn Go.Proofs.YtjimhjfjfpeojaaGreatDoor.Fd Go.Proofs.YtjimhjfjfpeojaaGreatDoor.Ed Go.Deep
def pnt(g:G):DV:=.sat fun u=>∃p:KP,u=.agg p.v∧Hp p g
def nop:DV:=.lit (.agg z20)
theorem p_add{g h:G}(w:World)(tab:TabE w):FnAt Tryz.prog [] w 21 [pnt g,pnt h] (pnt (ga g h)) :=
 ⟨fun _ _=>by kernel_rfl,fun O vs hO hk hl hr=>by
  obtain⟨u,v,rfl,⟨p,rfl,hp⟩,⟨q,rfl,hq⟩⟩:=two_args hl hr
  exact(Add_any p q w tab).mono fun e w' ⟨h3,h4⟩=>⟨_,h3,⟨_,rfl,hp.add hq⟩,h4⟩⟩
theorem p_neg{g:G}(w:World):FnAt Tryz.prog [] w 24 [pnt g] (pnt (gn g)) :=
 ⟨fun _ _=>by kernel_rfl,fun O vs hO hk hl hr=>by
  obtain⟨u,rfl,⟨p,rfl,hp⟩⟩:=one_arg hl hr
  exact(Neg_any p w).mono fun e w' ⟨h3,h4⟩=>⟨_,h3,⟨_,rfl,hp.neg⟩,h4⟩⟩
theorem p_zero(w:World):FnAt Tryz.prog [] w 38 [] (pnt gz) :=
 ⟨fun _ _=>by kernel_rfl,fun O vs hO hk hl hr=>by
  obtain rfl:=no_args hl
  exact(Zero_any w).mono fun e w' ⟨h3,h4⟩=>⟨_,h3,⟨_,rfl,kzero_has⟩,h4⟩⟩
theorem p_base{b:G}(hb:Hp kbase b)(w:World)(tab:TabE w):FnAt Tryz.prog [] w 41 [] (pnt b) :=
 ⟨fun _ _=>by kernel_rfl,fun O vs hO hk hl hr=>by
  obtain rfl:=no_args hl
  exact(Base_any w tab).mono fun e w' ⟨h3,h4⟩=>⟨_,h3,⟨_,rfl,hb⟩,h4⟩⟩
theorem p_on{g:G}(w:World)(tab:TabE w):FnAt Tryz.prog [] w 17 [pnt g] (.lit (.bool true)) :=
 ⟨fun _ _=>by kernel_rfl,fun O vs hO hk hl hr=>by
  obtain⟨u,rfl,⟨p,rfl,hp⟩⟩:=one_arg hl hr
  have:=On_any p w tab
  rw[hon_has hp] at this
  exact this.mono fun e w' ⟨h3,h4⟩=>⟨_,h3,rfl,h4⟩⟩
theorem p_same{g h:G}(w:World)(tab:TabE w)(b:Bool)(hb:b=true↔g=h):FnAt Tryz.prog [] w 26 [pnt g,pnt h] (.lit (.bool b)) :=
 FnAt.sat2 (fun _ _=>by kernel_rfl) fun v u ⟨p,hv,hp⟩ ⟨q,hu,hq⟩=>by
  subst hv hu
  have:=p_samek p q w tab
  rwa [show hsame kd p q=b from Bool.eq_iff_iff.2 ((hsame_has hp hq).trans hb.symm)] at this
theorem p_enc{g:G}(w:World):FnAt Tryz.prog [] w 16 [pnt g] (byt true (by_ (gb g) 32)) :=
 FnAt.sat (fun _ _=>by kernel_rfl) fun v ⟨p,hv,hp⟩=>by subst hv;exact p_enck hp w
theorem p_mul{r:Bool}{l:List Nat}{g:G}(h:l.length≤32)(hl:∀x∈l,x < 256)(w:World)(tab:TabE w):FnAt Tryz.prog [] w 27 [byt r l,pnt g] (.tup [pnt (ti (le l) g),.lit (.int .i64 0)]) :=
 ⟨fun _ _=>by kernel_rfl,fun O vs hO hk hln hr=>by
  obtain⟨u,v,rfl,h1,⟨p,rfl,hp⟩⟩:=two_args hln hr
  obtain⟨A,n,c,rfl,s1,-⟩:=row_sl h1
  exact(Mul_any A n c l p w g tab (by have:=s1.1;simp[bl] at this;omega) hl s1 hp).mono fun e w' ⟨q,h3,h4,h5⟩=>⟨_,h3,⟨_,rfl,rfl,⟨_,rfl,q,rfl,h4⟩,⟨_,rfl,rfl⟩,trivial⟩,h5⟩⟩
theorem p_mulL{r:Bool}{l:List Nat}{g:G}(h:32 < l.length)(w:World):FnAt Tryz.prog [] w 27 [byt r l,pnt g] (.tup [nop,.lit (.int .i64 1)]) :=
 ⟨fun _ _=>by kernel_rfl,fun O vs hO hk hln hr=>by
  obtain⟨u,v,rfl,h1,⟨p,rfl,hp⟩⟩:=two_args hln hr
  obtain⟨A,n,c,rfl,s1,-⟩:=row_sl h1
  exact(Mul_long A n c l p w (by have:=s1.1;simp[bl] at this;omega)).mono fun e w' ⟨h3,h4⟩=>⟨_,h3,⟨_,rfl,rfl,⟨_,rfl,rfl⟩,⟨_,rfl,rfl⟩,trivial⟩,h4⟩⟩
theorem three_args{O:Nat→Prop}{w:World}{x y z:DV}{vs:List Value}(hl:vs.length=3)(h:DV.reps O w [x,y,z] 0 (fun i v=>vs[i]?=some v)):∃u v t,vs=[u,v,t]∧x.rep O w u∧y.rep O w v∧z.rep O w t:=by
 obtain⟨⟨u,h1,h2⟩,⟨v,h3,h4⟩,⟨t,h5,h6⟩,-⟩:=h
 match vs,hl with
 | [a,b,c],_=>simp at h1 h3 h5;subst h1 h3 h5;exact⟨_,_,_,rfl,h2,h4,h6⟩
theorem p_mix{r s:Bool}{l j:List Nat}{g b:G}(hb:Hp kbase b)(h:l.length≤32)(hj:j.length≤32)(hl:∀x∈l,x < 256)(hjl:∀x∈j,x < 256)(w:World)(tab:TabE w):FnAt Tryz.prog [] w 28 [byt r l,pnt g,byt s j] (.tup [pnt (ga (ti (le l) g) (ti (le j) b)),.lit (.int .i64 0)]) :=
 ⟨fun _ _=>by kernel_rfl,fun O vs hO hk hln hr=>by
  obtain⟨u,v,t,rfl,h1,⟨p,rfl,hp⟩,h2⟩:=three_args hln hr
  obtain⟨A,n,c,rfl,s1,-⟩:=row_sl h1
  obtain⟨B,m,d,rfl,s2,-⟩:=row_sl h2
  exact(Mix_any A n c l p B m d j w g b tab (by have:=s1.1;simp[bl] at this;omega) (by have:=s2.1;simp[bl] at this;omega) hl hjl s1 s2 hp kbase (fun w t=>Base_any w t) hb).mono fun e w' ⟨q,h3,h4,h5⟩=>⟨_,h3,⟨_,rfl,rfl,⟨_,rfl,q,rfl,h4⟩,⟨_,rfl,rfl⟩,trivial⟩,h5⟩⟩
theorem p_mixL{r s:Bool}{l j:List Nat}{g:G}(h:32 < max l.length j.length)(w:World):FnAt Tryz.prog [] w 28 [byt r l,pnt g,byt s j] (.tup [nop,.lit (.int .i64 1)]) :=
 ⟨fun _ _=>by kernel_rfl,fun O vs hO hk hln hr=>by
  obtain⟨u,v,t,rfl,h1,⟨p,rfl,hp⟩,h2⟩:=three_args hln hr
  obtain⟨A,n,c,rfl,s1,-⟩:=row_sl h1
  obtain⟨B,m,d,rfl,s2,-⟩:=row_sl h2
  exact(Mix_long A n c l p B m d j w (by have h1:=s1.1;have h2:=s2.1;simp[bl] at h1 h2;omega)).mono fun e w' ⟨h3,h4⟩=>⟨_,h3,⟨_,rfl,rfl,⟨_,rfl,rfl⟩,⟨_,rfl,rfl⟩,trivial⟩,h4⟩⟩
theorem p_known(w:World)(tab:TabE w)(ts:Sh.Tab w):FnAt Tryz.prog [] w 11 [] (.lit (.bool true)) :=
 ⟨fun _ _=>by kernel_rfl,fun O vs hO hk hl hr=>by
  obtain rfl:=no_args hl
  exact(known_any w tab ts).mono fun e w' ⟨h3,h4⟩=>⟨_,h3,rfl,h4⟩⟩
theorem c_is{g:G}{x y z:Nat}(hx:x < pp)(hy:y < pp)(hz:z < pp)(b:Bool)(hb:∀p,Hp p g→ris p x y z=b)(w:World):FnAt Tryz.prog [.u64] w 14 [pnt g,pt x y z] (.lit (.bool b)) :=
 ⟨fun _ _=>by kernel_rfl,fun O vs hO hk hl hr=>by
  obtain⟨u,v,rfl,⟨p,rfl,hp⟩,h2⟩:=two_args hl hr
  have:=(c_isk p hx hy hz w).2 O [.agg p.v,v] hO hk rfl ⟨⟨_,rfl,rfl⟩,⟨_,rfl,h2⟩,trivial⟩
  rw[hb p hp] at this
  exact this⟩
theorem p_decN{l:List Nat}(h32:l.length=32)(hl:∀x∈l,x < 256)(h:dpt (le (low l)) (l.getD 31 0 / 128)=none)(w:World)(tab:TabE w):FnAt Tryz.prog [] w 12 [byt true l] (.tup [nop,.lit (.int .i64 40)]):=by
 have:=p_dec5 h32 hl w tab
 rw[h] at this
 exact this
theorem p_decS{l:List Nat}{p:KP}(h32:l.length=32)(hl:∀x∈l,x < 256)(h:dpt (le (low l)) (l.getD 31 0 / 128)=some p)(w:World)(tab:TabE w):FnAt Tryz.prog [] w 12 [byt true l] (.tup [.lit (.agg p.v),.lit (.int .i64 0)]):=by
 have:=p_dec5 h32 hl w tab
 rw[h] at this
 exact this
theorem lit_pnt{p:KP}{g:G}(h:Hp p g):DV.le (.lit (.agg p.v)) (pnt g):=fun O w v e=>by cases e;exact⟨p,rfl,h⟩
theorem pnt_row(g:G):∀O w v,(pnt g).rep O w v→∃us:Array Value,v=.agg us∧us.size=20∧∀u∈us.toList,u.oneCell'=true :=
 fun O w v ⟨p,h,_⟩=>⟨p.v,h,rfl,KP.ones p⟩
theorem nop_row:∀O w v,nop.rep O w v→∃us:Array Value,v=.agg us∧us.size=20∧∀u∈us.toList,u.oneCell'=true:=agg_row rfl (by intro u hu;unfold z20 at hu;simp at hu;subst hu;rfl)
end Go.Proofs.YtjimhjfjfpeojaaGreatDoor.Av
