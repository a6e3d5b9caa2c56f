/- Joined texts. -/
import Derived.Test.YtkahelhoaihajaaQbWrDeep
import Derived.Test.YtkahelhoaihajaaQbWrTread
import Derived.Test.YtkahelhoaihajaaQbWrNd
import Derived.Test.YtkahelhoaihajaaQbWrPu
set_option linter.unusedVariables false
namespace Go.Proofs.Ytkahelhoaihajaa.Wr
open Go.RowKit Go.Proofs.Ytkahelhoaihajaa.Gn Go.Proofs.Ytkahelhoaihajaa.Fd Go.Deep
mutual
def smn:Nd→Prop
 |.mk _ n b ks=>n < 18446744073709551616∧b.length < 18446744073709551616∧ks.length < 18446744073709551616∧smns ks
def smns:List Nd→Prop
 | []=>True
 |t :: ts=>smn t∧smns ts
end
theorem drop_app{l a b:List Nat}{p:Nat}(h:l.drop p=a ++ b):l.drop (p+a.length)=b:=by
 rw[←List.drop_drop,h,List.drop_left]
theorem drop_hd{l t:List Nat}{x p:Nat}(h:l.drop p=x :: t):l.getD p 0=x∧¬p=l.length∧l.drop (p+1)=t∧p+1≤l.length:=by
 have h1:p < l.length:=by
  rcases Nat.lt_or_ge p l.length with h1|h1
  ·exact h1
  ·rw[List.drop_eq_nil_of_le h1] at h;cases h
 have h2:l.drop (p+1)=t:=drop_app (a:=[x]) h
 refine⟨?_,by omega,h2,h1⟩
 rw[List.drop_eq_getElem_cons h1] at h
 injection h with h3 h4
 rw[List.getD_eq_getElem?_getD,List.getElem?_eq_getElem h1,h3];rfl
mutual
theorem back_nd(b c d:Int)(l:List Nat):∀(v:Nd) (f:Nat) (deep:Int) (p:Nat) (k:Int) (post:List Nat),rn v=true→smn v→(wgn b c d v deep k).1=0→l.drop p=wbn v ++ post→2*ctn v≤f→rdv b c d l f deep p k=.good v (p+(wbn v).length) (wgn b c d v deep k).2
 |.mk K n bs ks,f,deep,p,k,post,hr,hs,hw,hl,hf=>by
  rw[ctn] at hf
  obtain⟨f',rfl⟩:∃f',f=f'+1:=⟨f - 1,by omega⟩
  rw[smn] at hs
  obtain⟨s1,s2,s3,s4⟩:=hs
  rw[wgn] at hw ⊢
  rw[wbn] at hl ⊢
  rw[List.cons_append] at hl
  obtain⟨g1,g2,g3,g4⟩:=drop_hd hl
  rw[rdv,if_neg g2]
  by_cases q1:b < deep
  ·rw[if_pos q1] at hw;cases hw
  rw[if_neg q1] at hw ⊢
  rw[if_neg q1]
  by_cases q2:k=c
  ·rw[if_pos q2] at hw;cases hw
  rw[if_neg q2] at hw ⊢
  rw[if_neg q2,g1]
  rw[rn] at hr
  by_cases k1:K=1
  ·subst k1
   rw[if_pos rfl,Bool.and_eq_true,decide_eq_true_eq,decide_eq_true_eq] at hr
   have e1:bs=[]:=List.length_eq_zero_iff.1 hr.1
   have e2:ks=[]:=List.length_eq_zero_iff.1 hr.2
   subst e1 e2
   have hX:rcl (l.drop (p+1))=(n,(cb n).length,0):=by rw[g3,if_pos rfl];exact rcl_cb s1 post
   rw[hX,if_pos (show Int.toNat 1=1 from rfl),if_pos rfl,if_pos rfl,if_neg (show ¬(1:Int)=2 by decide),if_neg (show ¬(1:Int)=3 by decide),List.length_cons]
   exact congrArg (fun q=>Rr.good (Nd.mk 1 n [] []) q (k+1)) (show p+1+(cb n).length=p+((cb n).length+1) by omega)
  rw[if_neg k1] at hr g3 ⊢
  by_cases k2:K=2
  ·subst k2
   rw[if_pos rfl,Bool.and_eq_true,decide_eq_true_eq,decide_eq_true_eq] at hr
   have e1:n=0:=hr.1
   have e2:ks=[]:=List.length_eq_zero_iff.1 hr.2
   subst e1 e2
   rw[if_pos rfl] at hw g3
   have hX:rcl (l.drop (p+1))=(bs.length,(cb bs.length).length,0):=by rw[g3,List.append_assoc];exact rcl_cb s2 _
   have hY:l.drop (p+1+(cb bs.length).length)=bs ++ post:=drop_app (by rw[g3,List.append_assoc])
   by_cases hd:d < (bs.length:Int)
   ·rw[if_pos hd] at hw;cases hw
   have hZ:¬l.length < p+1+(cb bs.length).length+bs.length:=by
    have h:=congrArg List.length hY
    rw[List.length_drop,List.length_append] at h
    rcases Nat.lt_or_ge (p+1+(cb bs.length).length) l.length with h1|h1
    ·omega
    ·have h2:=congrArg List.length g3
     rw[List.length_drop,List.length_append,List.length_append] at h2
     omega
   rw[hX,if_neg (show ¬Int.toNat 2=1 by decide),if_pos (show Int.toNat 2=2 from rfl),if_pos rfl,if_neg hd,if_neg hZ,if_pos rfl,if_neg hd,if_pos rfl,hY,List.take_left,List.length_cons,List.length_append]
   exact congrArg (fun q=>Rr.good (Nd.mk 2 0 bs []) q (k+1)) (show p+1+(cb bs.length).length+bs.length=p+((cb bs.length).length+bs.length+1) by omega)
  rw[if_neg k2] at hr hw g3 ⊢
  by_cases k3:K=3
  ·subst k3
   rw[if_pos rfl,Bool.and_eq_true,Bool.and_eq_true,decide_eq_true_eq,decide_eq_true_eq] at hr
   have e1:n=0:=hr.1.1
   have e2:bs=[]:=List.length_eq_zero_iff.1 hr.1.2
   subst e1 e2
   rw[if_pos rfl] at hw ⊢
   have hX:rcl (l.drop (p+1))=(ks.length,(cb ks.length).length,0):=by rw[g3,List.append_assoc];exact rcl_cb s3 _
   have hY:l.drop (p+1+(cb ks.length).length)=wbns ks ++ post:=drop_app (by rw[g3,List.append_assoc])
   have hZ:=backs_nd b c d l ks f' (deep+1) _ (k+1) [] post hr.2 s4 hw hY (by omega)
   rw[hX,if_neg (show ¬Int.toNat 3=1 by decide),if_neg (show ¬Int.toNat 3=2 by decide),if_pos (show Int.toNat 3=3 from rfl),if_pos rfl,hZ]
   rw[if_neg (show ¬(3:Int)=2 by decide),List.length_cons,List.length_append,List.nil_append]
   simp only[]
   exact congrArg (fun q=>Rr.good _ q _) (by omega)
  ·rw[if_neg k3] at hr;cases hr
theorem backs_nd(b c d:Int)(l:List Nat):∀(vs:List Nd) (f:Nat) (deep:Int) (p:Nat) (k:Int) (acc:List Nd) (post:List Nat),rns vs=true→smns vs→(wgns b c d vs deep k).1=0→l.drop p=wbns vs ++ post→2*ctns vs+1≤f→rds b c d l f vs.length deep p k acc=.good (acc ++ vs) (p+(wbns vs).length) (wgns b c d vs deep k).2
 | [],f,deep,p,k,acc,post,hr,hs,hw,hl,hf=>by
  obtain⟨f',rfl⟩:∃f',f=f'+1:=⟨f - 1,by omega⟩
  rw[rds,if_pos (by simp),wgns,wbns,List.append_nil];rfl
 |t :: ts,f,deep,p,k,acc,post,hr,hs,hw,hl,hf=>by
  rw[ctns] at hf
  obtain⟨f',rfl⟩:∃f',f=f'+1:=⟨f - 1,by omega⟩
  have hc:1≤ctn t:=by cases t;rw[ctn];omega
  rw[rns,Bool.and_eq_true] at hr
  rw[smns] at hs
  rw[wgns] at hw ⊢
  rw[wbns,List.append_assoc] at hl
  rw[wbns]
  by_cases h1:(wgn b c d t deep k).1=0
  ·rw[if_pos h1] at hw ⊢
   rw[rds,if_neg (by simp),back_nd b c d l t f' deep p k _ hr.1 hs.1 h1 hl (by omega)]
   simp only[List.length_cons,Nat.add_sub_cancel]
   rw[backs_nd b c d l ts f' deep _ _ _ post hr.2 hs.2 hw (drop_app hl) (by omega),List.append_assoc,List.length_append,Nat.add_assoc];rfl
  ·rw[if_neg h1] at hw;exact(h1 hw).elim
end
end Go.Proofs.Ytkahelhoaihajaa.Wr
