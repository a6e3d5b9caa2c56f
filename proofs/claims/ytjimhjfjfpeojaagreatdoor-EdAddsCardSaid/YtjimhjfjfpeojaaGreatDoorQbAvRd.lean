/- Joined texts. -/
import Derived.Test.YtjimhjfjfpeojaaGreatDoorQbAvDc
import Derived.Test.YtjimhjfjfpeojaaGreatDoorQbEdL
import Derived.Test.YtjimhjfjfpeojaaGreatDoorQbAvPg
set_option linter.unusedVariables false
namespace Go.Proofs.YtjimhjfjfpeojaaGreatDoor.Av
open Go.RowKit Go.Proofs.YtjimhjfjfpeojaaGreatDoor.Gn Go.Proofs.YtjimhjfjfpeojaaGreatDoor.Fd Go.Proofs.YtjimhjfjfpeojaaGreatDoor.Ed Go.Deep
theorem F_mul_comm(a b:F):a*b=b*a:=Fin.mul_comm a b
theorem rhon_iff(p:KP):rhon p=true↔cv.Held p.pt:=by
 unfold rhon Crv.Held KP.pt
 simp only[Bool.and_eq_true,Bool.not_eq_true',decide_eq_false_iff_not,decide_eq_true_eq]
 rw[show(p.z.1.val%pp=0)↔p.z.f=0 by
  rw[←fe_zero,←kf,←same_iff,Nat.zero_mod]]
 rw[same_iff,same_iff]
 simp only[fe_mod,fe_lessm]
 simp only[fe_mul,fe_mod,fe_add,kf]
 rw[show fe dn=cv.d from rfl,F_mul_comm p.t.f p.z.f]
 constructor
 ·rintro⟨h1,h2,h3⟩;exact⟨h1,h2.symm,h3⟩
 ·rintro⟨h1,h2,h3⟩;exact⟨h1,h2.symm,h3⟩
theorem rhon_hon(p:KP):rhon p=hon kd p:=Bool.eq_iff_iff.2 ((rhon_iff p).trans (hon_iff p).symm)
theorem R3.has{t:T3}{h:G}(ht:R3 t h):Has ⟨fe t.x,fe t.y,fe t.z,h.x*h.y*fe t.z⟩ h:=⟨ht.hz,ht.hx,ht.hy,rfl,ht.on⟩
theorem ris_eq{p:KP}{g h:G}{t:T3}(hp:Hp p g)(ht:R3 t h)(b:Bool)(hb:b=true↔g=h):ris p t.x t.y t.z=b:=by
 refine Bool.eq_iff_iff.2 ?_
 rw[hb,←has_alike hp ht.has]
 unfold ris Crv.Alike KP.pt
 rw[rhon_hon,hon_has hp,Bool.true_and]
 simp only[Bool.and_eq_true,decide_eq_true_eq]
 rw[same_iff,same_iff]
 simp only[fe_mul,fe_mod,kf]
def decT(l:List Nat):Option T3:=if le (low l) < pp then(rof (le (low l)) (decide (127 < l.getD 31 0))).map (fun x=>⟨x,le (low l),1⟩) else none
theorem kheld_R3{x y:K}{g:G}{a b:Nat}(h:Hp (kheld x y) g)(ha:fe a=x.f)(hb:fe b=y.f):R3 ⟨a,b,1⟩ g:=by
 have h2:cv.Rep ⟨x.f,y.f,(kof 1).f,(kmul x y).f⟩ g.x g.y:=h
 obtain⟨h3,h4,h5,-, h6⟩:=h2
 have h7:(kof 1).f=fe 1:=kof_f 1
 exact⟨by show fe 1≠0;rw[←h7];exact h3,by show fe a=_*fe 1;rw[ha,←h7];exact h4,by show fe b=_*fe 1;rw[hb,←h7];exact h5,h6⟩
theorem sub_zero_(x:F):0 - x=- x:=by
 rw[Crv.sub_eq_,Crv.add_comm_,Crv.add_zero_]
theorem dec_both{l:List Nat}(h32:l.length=32)(hl:∀x∈l,x < 256):(dpt (le (low l)) (l.getD 31 0 / 128)=none∧decT l=none)∨∃p t g,dpt (le (low l)) (l.getD 31 0 / 128)=some p∧decT l=some t∧Hp p g∧R3 t g∧t.ok∧by_ (gb g) 32=l:=by
 have hx:l.getD 31 0 < 256:=by rw[List.getD_eq_getElem?_getD,List.getElem?_eq_getElem (by omega)];exact hl _ (List.getElem_mem _)
 cases hd:dpt (le (low l)) (l.getD 31 0 / 128) with
 |none =>
  left
  refine⟨rfl,?_⟩
  unfold dpt at hd
  unfold decT
  split at hd
  ·rename_i hm
   rw[if_pos hm]
   unfold rof
   rw[rr_acr]
   cases ha:acr (kof (le (low l))) with
   |none=>rfl
   |some r =>
    rw[ha] at hd
    dsimp only at hd ⊢
    split at hd
    ·rename_i hc
     rw[if_pos ⟨decide_eq_true (by omega),hc.2⟩];rfl
    ·cases hd
  ·rename_i hm
   rw[if_neg hm]
 |some p =>
  right
  obtain⟨g,hg,hb⟩:=dec_some h32 hl hd
  unfold dpt at hd
  split at hd
  ·rename_i hm
   cases ha:acr (kof (le (low l))) with
   |none=>rw[ha] at hd;cases hd
   |some r =>
    rw[ha] at hd
    dsimp only at hd
    split at hd
    ·cases hd
    ·rename_i hc
     obtain rfl:=Option.some.inj hd
     have hr:=acr_lt ha
     have hnc:¬(decide (127 < l.getD 31 0)=true∧r=0):=fun h=>hc ⟨by have:=of_decide_eq_true h.1;omega,h.2⟩
     refine⟨_,⟨if decide (127 < l.getD 31 0)=true then(0+(pp - r))%pp else r,le (low l),1⟩,g,rfl,?_,hg,kheld_R3 hg ?_ (kof_f _).symm,⟨?_,hm,pp_one⟩,hb⟩
     ·unfold decT
      rw[if_pos hm]
      unfold rof
      rw[rr_acr,ha]
      dsimp only
      rw[if_neg hnc]
      rfl
     ·rw[sx_f]
      by_cases ho:127 < l.getD 31 0
      ·rw[if_pos (by simpa using ho),if_pos (by omega),fe_ng,fe_mod,fe_less hr.1,fe_zero,sub_zero_]
      ·rw[if_neg (by simpa using ho),if_neg (by omega)]
     ·show(if _ then _ else _) < pp
      split
      ·exact lt_mod _
      ·exact hr.1
  ·cases hd
theorem dec_ref(g:G):∃p,dpt (le (low (by_ (gb g) 32))) ((by_ (gb g) 32).getD 31 0 / 128)=some p∧Hp p g:=dec_of g
def encX(t:T3):Nat:=t.x*(t.z ^ (pp - 2)%pp)%pp
def encY(t:T3):Nat:=t.y*(t.z ^ (pp - 2)%pp)%pp
def top(l:List Nat):List Nat:=l.set 31 (l.getD 31 0+128)
theorem inv_f(z:Nat):fe (z ^ (pp - 2)%pp)=cv.inv (fe z):=by
 rw[fe_mod]
 show fe (z ^ (pp - 2))=fe (fv (fe z) ^ (pp - 2))
 rw[fv_fe,fe_eq]
 exact(Nat.pow_mod z (pp - 2) pp)
theorem R3.enc{t:T3}{g:G}(h:R3 t g):encX t=fv g.x∧encY t=fv g.y:=by
 obtain⟨h1,h2⟩:=Crv.rep3_x h
 constructor
 ·rw[←h1]
  refine(same_lt (lt_mod _) (fv_lt _)).2 ?_
  rw[fe_fv,fe_mod,fe_mul,inv_f]
 ·rw[←h2]
  refine(same_lt (lt_mod _) (fv_lt _)).2 ?_
  rw[fe_fv,fe_mod,fe_mul,inv_f]
theorem enc_odd{t:T3}{g:G}(h:R3 t g)(ho:encX t%2=1):top (by_ (encY t) 32)=by_ (gb g) 32:=by
 obtain⟨h1,h2⟩:=h.enc
 rw[h1] at ho
 rw[h2,gb_odd (by simpa using ho)]
 have h3:=by_31 (fv_top g.y)
 have:=by_top (fv g.y) (fv_top g.y)
 rw[Nat.mod_eq_of_lt h3] at this
 exact this
theorem enc_even{t:T3}{g:G}(h:R3 t g)(ho:¬encX t%2=1):by_ (encY t) 32=by_ (gb g) 32:=by
 obtain⟨h1,h2⟩:=h.enc
 rw[h1] at ho
 rw[h2,gb_even (by simpa using ho)]
end Go.Proofs.YtjimhjfjfpeojaaGreatDoor.Av
