/- Joined texts. -/
import Derived.Test.YtjimhjfjfpeojaaGreatDoorQvAvDc
import Derived.Test.YtjimhjfjfpeojaaGreatDoorQvEdL
import Derived.Test.YtjimhjfjfpeojaaGreatDoorQvEdC
import Derived.Test.YtjimhjfjfpeojaaGreatDoorQvRdec
import Derived.Test.YtjimhjfjfpeojaaGreatDoorQvEdN
set_option maxRecDepth 100000
set_option maxHeartbeats 8000000
set_option linter.unusedVariables false
namespace Go.Proofs.YtjimhjfjfpeojaaGreatDoor.Av
open Go.RowKit Go.Proofs.YtjimhjfjfpeojaaGreatDoor.Gn Go.Proofs.YtjimhjfjfpeojaaGreatDoor.Fd Go.Proofs.YtjimhjfjfpeojaaGreatDoor.Ed Go.Deep
theorem Zqt{n:Nat}(h:n < 57896044618658097711785492504343953926634992332820282019728792003956564819968):(by_ n 32).getD 31 0 < 128:=by
 have h1:=by_length n 32
 have h2:=Z60 n 32
 have h3:=Zkh h1 h2
 rw[Zeb,Nat.mod_eq_of_lt (Nat.lt_trans h (by decide))] at h3
 have:(by_ n 32).getD 31 0 / 128=0:=by
  rcases Nat.eq_zero_or_pos ((by_ n 32).getD 31 0 / 128) with h4|h4
  ·exact h4
  ·have:=Nat.mul_le_mul_right 57896044618658097711785492504343953926634992332820282019728792003956564819968 h4
   omega
 omega
def ez(p:KP):K:=kinv p.z
def ex(p:KP):K:=kmul p.x (ez p)
theorem Z55{O:Nat→Prop}{w:World}{x y z:DV}{vs:List Value}(hl:vs.length=3)(h:DV.reps O w [x,y,z] 0 (fun i v=>vs[i]?=some v)):∃u v t,vs=[u,v,t]∧x.rep O w u∧y.rep O w v∧z.rep O w t:=by
 obtain⟨⟨u,h1,h2⟩,⟨v,h3,h4⟩,⟨t,h5,h6⟩,-⟩:=h
 match vs,hl with
 | [a,b,c],_=>simp at h1 h3 h5;subst h1 h3 h5;exact⟨_,_,_,rfl,h2,h4,h6⟩
theorem Z8e(w:World)(tab:TabE w)(ts:Sh.Tab w):FnAt Tryz.prog [] w 11 [] (.lit (.bool true)) :=
 ⟨fun _ _=>by kernel_rfl,fun O vs hO hk hl hr=>by
  obtain rfl:=Znc hl
  exact(Zgf w tab ts).mono fun e w' ⟨h3,h4⟩=>⟨_,h3,rfl,h4⟩⟩
def decT(l:List Nat):Option T3:=if le (low l) < pp then(rof (le (low l)) (decide (127 < l.getD 31 0))).map (fun x=>⟨x,le (low l),1⟩) else none
theorem Zce{x y:K}{g:G}{a b:Nat}(h:Hp (Z2i x y) g)(ha:fe a=x.f)(hb:fe b=y.f):R3 ⟨a,b,1⟩ g:=by
 have h2:cv.Rep ⟨x.f,y.f,(kof 1).f,(kmul x y).f⟩ g.x g.y:=h
 obtain⟨h3,h4,h5,-, h6⟩:=h2
 have h7:(kof 1).f=fe 1:=Z21 1
 exact⟨by show fe 1≠0;rw[←h7];exact h3,by show fe a=_*fe 1;rw[ha,←h7];exact h4,by show fe b=_*fe 1;rw[hb,←h7];exact h5,h6⟩
theorem Zgj(x:F):0 - x=- x:=by
 rw[Crv.sub_eq_,Crv.add_comm_,Crv.add_zero_]
theorem Ziy{l:List Nat}(h32:l.length=32)(hl:∀x∈l,x < 256):(dpt (le (low l)) (l.getD 31 0 / 128)=none∧decT l=none)∨∃p t g,dpt (le (low l)) (l.getD 31 0 / 128)=some p∧decT l=some t∧Hp p g∧R3 t g∧t.ok∧by_ (gb g) 32=l:=by
 have hx:l.getD 31 0 < 256:=by rw[List.getD_eq_getElem?_getD,List.getElem?_eq_getElem (by omega)];exact hl _ (List.getElem_mem _)
 cases hd:dpt (le (low l)) (l.getD 31 0 / 128) with
 |none =>
  left
  refine⟨rfl,?_⟩
  unfold dpt at hd
  unfold decT
  split at hd
  ·rename_i hm
   rw[if_pos hm]
   unfold rof
   rw[Zkl]
   cases ha:acr (kof (le (low l))) with
   |none=>rfl
   |some r =>
    rw[ha] at hd
    dsimp only at hd ⊢
    split at hd
    ·rename_i hc
     rw[if_pos ⟨decide_eq_true (by omega),hc.2⟩];rfl
    ·cases hd
  ·rename_i hm
   rw[if_neg hm]
 |some p =>
  right
  obtain⟨g,hg,hb⟩:=Ziv h32 hl hd
  unfold dpt at hd
  split at hd
  ·rename_i hm
   cases ha:acr (kof (le (low l))) with
   |none=>rw[ha] at hd;cases hd
   |some r =>
    rw[ha] at hd
    dsimp only at hd
    split at hd
    ·cases hd
    ·rename_i hc
     obtain rfl:=Option.some.inj hd
     have hr:=Z7b ha
     have hnc:¬(decide (127 < l.getD 31 0)=true∧r=0):=fun h=>hc ⟨by have:=of_decide_eq_true h.1;omega,h.2⟩
     refine⟨_,⟨if decide (127 < l.getD 31 0)=true then(0+(pp - r))%pp else r,le (low l),1⟩,g,rfl,?_,hg,Zce hg ?_ (Z21 _).symm,⟨?_,hm,Z19⟩,hb⟩
     ·unfold decT
      rw[if_pos hm]
      unfold rof
      rw[Zkl,ha]
      dsimp only
      rw[if_neg hnc]
      rfl
     ·rw[sx_f]
      by_cases ho:127 < l.getD 31 0
      ·rw[if_pos (by simpa using ho),if_pos (by omega),Zd2,fe_mod,Z8c hr.1,Z1e,Zgj]
      ·rw[if_neg (by simpa using ho),if_neg (by omega)]
     ·show(if _ then _ else _) < pp
      split
      ·exact Z0c _
      ·exact hr.1
  ·cases hd
def encX(t:T3):Nat:=t.x*(t.z ^ (pp - 2)%pp)%pp
def encY(t:T3):Nat:=t.y*(t.z ^ (pp - 2)%pp)%pp
def top(l:List Nat):List Nat:=l.set 31 (l.getD 31 0+128)
theorem Zqu(z:Nat):fe (z ^ (pp - 2)%pp)=cv.inv (fe z):=by
 rw[fe_mod]
 show fe (z ^ (pp - 2))=fe (fv (fe z) ^ (pp - 2))
 rw[Z85,Z2s]
 exact(Nat.pow_mod z (pp - 2) pp)
theorem R3.enc{t:T3}{g:G}(h:R3 t g):encX t=fv g.x∧encY t=fv g.y:=by
 obtain⟨h1,h2⟩:=Crv.rep3_x h
 constructor
 ·rw[←h1]
  refine(Z8d (Z0c _) (Zib _)).2 ?_
  rw[Zao,fe_mod,Z10,Zqu]
 ·rw[←h2]
  refine(Z8d (Z0c _) (Zib _)).2 ?_
  rw[Zao,fe_mod,Z10,Zqu]
theorem Znf{t:T3}{g:G}(h:R3 t g)(ho:encX t%2=1):top (by_ (encY t) 32)=by_ (gb g) 32:=by
 obtain⟨h1,h2⟩:=h.enc
 rw[h1] at ho
 rw[h2,Zkc (by simpa using ho)]
 have h3:=Zqt (Zc7 g.y)
 have:=Zkb (fv g.y) (Zc7 g.y)
 rw[Nat.mod_eq_of_lt h3] at this
 exact this
theorem Ziz{t:T3}{g:G}(h:R3 t g)(ho:¬encX t%2=1):by_ (encY t) 32=by_ (gb g) 32:=by
 obtain⟨h1,h2⟩:=h.enc
 rw[h1] at ho
 rw[h2,Zfs (by simpa using ho)]
section
variable {Γ:Ctx} {σ:St} {fn:Func}
end
theorem Zgk{l:List Nat}(h:l.length=32):low l=l.take 31 ++ [l.getD 31 0%128]:=by
 have hsp:l=l.take 31 ++ [l.getD 31 0]:=by
  have h1:=List.take_append_drop 31 l
  have h2:l.drop 31=[l.getD 31 0]:=by
   rw[List.drop_eq_getElem_cons (by omega),List.drop_of_length_le (by omega),List.getD_eq_getElem?_getD,List.getElem?_eq_getElem (by omega)]
   rfl
  rw[h2] at h1
  exact h1.symm
 have ht:(l.take 31).length=31:=by simp;omega
 unfold low
 conv=>lhs;arg 1;rw[hsp]
 rw[List.set_append_right _ _ (by omega),ht]
 rfl
theorem Z8f{l:List Nat}(h:∀x∈l,x < 256):∀x∈low l,x < 256:=by
 intro x hx
 unfold low at hx
 rcases List.mem_or_eq_of_mem_set hx with h1|h1
 ·exact h x h1
 ·omega
theorem Zng{l:List Nat}:(low l).length=l.length:=by unfold low;simp
theorem Ztk(a b:Nat):decide ((a:Int) < (b:Int))=decide (a < b):=decide_eq_decide.2 (by omega)
theorem Znh{l:List Nat}(h32:l.length=32)(hl:∀x∈l,x < 256)(hm:le l < pp)(w:World):FnAt Tryz.prog [] w 48 [byt true l] (.tup [.lit (.agg (el (le l)).v),.lit (.int .i64 0)]):=by
 have:=Zk8 (r:=true) h32 hl w
 rwa [if_pos hm,if_pos hm] at this
theorem Zni{l:List Nat}(h32:l.length=32)(hl:∀x∈l,x < 256)(hm:¬le l < pp)(w:World):FnAt Tryz.prog [] w 48 [byt true l] (.tup [.lit (.agg z5),.lit (.int .i64 30)]):=by
 have:=Zk8 (r:=true) h32 hl w
 rwa [if_neg hm,if_neg hm] at this
theorem Zqv:∀O w v,(DV.lit (.agg z5)).rep O w v→∃us:Array Value,v=.agg us∧us.size=5∧∀u∈us.toList,u.oneCell'=true:=Zgg rfl (by intro u hu;unfold z5 at hu;simp at hu;subst hu;rfl)
theorem Zqw(n:Nat):∀O w v,(DV.lit (.agg (el n).v)).rep O w v→∃us:Array Value,v=.agg us∧us.size=5∧∀u∈us.toList,u.oneCell'=true:=Zgg rfl (by
 intro u hu
 unfold E5.v at hu
 simp at hu
 rcases hu with rfl|rfl|rfl|rfl|rfl <;> rfl)
def decO(l:List Nat):Option T3:=if l.length=32 then decT l else none
def ofT(o:Option T3):DV:=.tup [(o.getD ⟨0,0,0⟩).dv,.lit (.bool o.isSome)]
def encL(t:T3):List Nat:=if encX t%2=1 then top (by_ (encY t) 32) else by_ (encY t) 32
theorem R3.encL{t:T3}{g:G}(h:R3 t g):Av.encL t=by_ (gb g) 32:=by
 unfold Av.encL
 split
 ·rename_i ho;exact Znf h ho
 ·rename_i ho;exact Ziz h ho
theorem Zgl{p q:T3}(hp:p.ok)(hq:q.ok)(w:World):FnAt Tryz.prog [.u64] w 22 [p.dv,q.dv,num dn] (ad3 p q).dv:=Ztg hp.x hp.y hp.z hq.x hq.y hq.z Zgh w
theorem Zgm(n:Nat)(h:0 < (dg n).length):(dg n).getD 0 0%2=n%2:=by
 have h1:=Z0l n
 cases hd:dg n with
 |nil=>rw[hd] at h;exact absurd h (by decide)
 |cons a l =>
  rw[hd] at h1
  have:a+65536*vl l=n:=h1
  show a%2=n%2
  omega
theorem Znj{n:Nat}(h:¬0 < (dg n).length):n=0:=by
 have h1:=Z0l n
 rw[List.length_eq_zero_iff.1 (Nat.eq_zero_of_not_pos h)] at h1
 exact h1.symm
theorem Znk{n i:Nat}(h:i < (dg n).length):((nl (dg n)).map DV.lit)[i]?=some (.lit (.int .u64 (((dg n).getD i 0:Nat):Int))):=by
 simp[nl,List.getElem?_map,List.getElem?_eq_getElem h,List.getD_eq_getElem?_getD]
def Zgn:T3:=⟨nbx,nby,1⟩
theorem Zj0:Zgn.ok:=⟨Z3u.2.2.1,Z3u.2.2.2,Z19⟩
theorem Zj1{b:G}(h:Hp Z40 b):R3 Zgn b:=Zce h (Z21 _).symm (Z21 _).symm
end Go.Proofs.YtjimhjfjfpeojaaGreatDoor.Av
