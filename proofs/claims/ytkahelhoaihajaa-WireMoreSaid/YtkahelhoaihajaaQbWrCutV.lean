/- Joined texts. -/
import Derived.Test.YtkahelhoaihajaaQbWrCutP
set_option linter.unusedVariables false
namespace Go.Proofs.Ytkahelhoaihajaa.Wr
open Go.RowKit Go.Proofs.Ytkahelhoaihajaa.Gn Go.Proofs.Ytkahelhoaihajaa.Fd Go.Deep
theorem take_low{a b:List Nat}{j:Nat}(h:j < a.length):(a ++ b).take j=a.take j:=List.take_append_of_le_length (Nat.le_of_lt h)
theorem take_high{a b:List Nat}{j:Nat}(h:a.length≤j):(a ++ b).take j=a ++ b.take (j - a.length):=by
 rw[List.take_append,List.take_of_length_le h]
theorem rcl_few{n:Nat}(h:n < 18446744073709551616){i:Nat}(hi:i < (cb n).length):rcl ((cb n).take i)=(0,0,20):=by
 have h1:=rcl_cb h []
 rw[List.append_nil] at h1
 exact rcl_cut h1 hi
mutual
theorem back_or(b c d:Int)(l:List Nat):∀(v:Nd) (f:Nat) (deep:Int) (p:Nat) (k:Int) (post:List Nat),rn v=true→smn v→(wgn b c d v deep k).1=0→l.drop p=wbn v ++ post→rdv b c d l f deep p k=.good v (p+(wbn v).length) (wgn b c d v deep k).2∨rdv b c d l f deep p k=.bad 0 20
 |.mk K n bs ks,f,deep,p,k,post,hr,hs,hw,hl=>by
  cases f with
  |zero=>exact .inr rfl
  |succ f' =>
  rw[smn] at hs
  obtain⟨s1,s2,s3,s4⟩:=hs
  rw[wgn] at hw ⊢
  rw[wbn] at hl ⊢
  rw[List.cons_append] at hl
  obtain⟨g1,g2,g3,g4⟩:=drop_hd hl
  rw[rdv,if_neg g2]
  by_cases q1:b < deep
  ·rw[if_pos q1] at hw;cases hw
  rw[if_neg q1] at hw ⊢
  rw[if_neg q1]
  by_cases q2:k=c
  ·rw[if_pos q2] at hw;cases hw
  rw[if_neg q2] at hw ⊢
  rw[if_neg q2,g1]
  rw[rn] at hr
  by_cases k1:K=1
  ·subst k1
   rw[if_pos rfl,Bool.and_eq_true,decide_eq_true_eq,decide_eq_true_eq] at hr
   have e1:bs=[]:=List.length_eq_zero_iff.1 hr.1
   have e2:ks=[]:=List.length_eq_zero_iff.1 hr.2
   subst e1 e2
   have hX:rcl (l.drop (p+1))=(n,(cb n).length,0):=by rw[g3,if_pos rfl];exact rcl_cb s1 post
   left
   rw[hX,if_pos (show Int.toNat 1=1 from rfl),if_pos rfl,if_pos rfl,if_neg (show ¬(1:Int)=2 by decide),if_neg (show ¬(1:Int)=3 by decide),List.length_cons]
   exact congrArg (fun q=>Rr.good (Nd.mk 1 n [] []) q (k+1)) (show p+1+(cb n).length=p+((cb n).length+1) by omega)
  rw[if_neg k1] at hr g3 ⊢
  by_cases k2:K=2
  ·subst k2
   rw[if_pos rfl,Bool.and_eq_true,decide_eq_true_eq,decide_eq_true_eq] at hr
   have e1:n=0:=hr.1
   have e2:ks=[]:=List.length_eq_zero_iff.1 hr.2
   subst e1 e2
   rw[if_pos rfl] at hw g3
   have hX:rcl (l.drop (p+1))=(bs.length,(cb bs.length).length,0):=by rw[g3,List.append_assoc];exact rcl_cb s2 _
   have hY:l.drop (p+1+(cb bs.length).length)=bs ++ post:=drop_app (by rw[g3,List.append_assoc])
   by_cases hd:d < (bs.length:Int)
   ·rw[if_pos hd] at hw;cases hw
   have hZ:¬l.length < p+1+(cb bs.length).length+bs.length:=by
    have h:=congrArg List.length hY
    rw[List.length_drop,List.length_append] at h
    rcases Nat.lt_or_ge (p+1+(cb bs.length).length) l.length with h1|h1
    ·omega
    ·have h2:=congrArg List.length g3
     rw[List.length_drop,List.length_append,List.length_append] at h2
     omega
   left
   rw[hX,if_neg (show ¬Int.toNat 2=1 by decide),if_pos (show Int.toNat 2=2 from rfl),if_pos rfl,if_neg hd,if_neg hZ,if_pos rfl,if_neg hd,if_pos rfl,hY,List.take_left,List.length_cons,List.length_append]
   exact congrArg (fun q=>Rr.good (Nd.mk 2 0 bs []) q (k+1)) (show p+1+(cb bs.length).length+bs.length=p+((cb bs.length).length+bs.length+1) by omega)
  rw[if_neg k2] at hr hw g3 ⊢
  by_cases k3:K=3
  ·subst k3
   rw[if_pos rfl,Bool.and_eq_true,Bool.and_eq_true,decide_eq_true_eq,decide_eq_true_eq] at hr
   have e1:n=0:=hr.1.1
   have e2:bs=[]:=List.length_eq_zero_iff.1 hr.1.2
   subst e1 e2
   rw[if_pos rfl] at hw ⊢
   have hX:rcl (l.drop (p+1))=(ks.length,(cb ks.length).length,0):=by rw[g3,List.append_assoc];exact rcl_cb s3 _
   have hY:l.drop (p+1+(cb ks.length).length)=wbns ks ++ post:=drop_app (by rw[g3,List.append_assoc])
   have hZ:=backs_or b c d l ks f' (deep+1) _ (k+1) [] post hr.2 s4 hw hY
   rw[hX,if_neg (show ¬Int.toNat 3=1 by decide),if_neg (show ¬Int.toNat 3=2 by decide),if_pos (show Int.toNat 3=3 from rfl),if_pos rfl]
   rcases hZ with hZ|hZ
   ·left
    rw[hZ,if_neg (show ¬(3:Int)=2 by decide),List.length_cons,List.length_append,List.nil_append]
    simp only[]
    exact congrArg (fun q=>Rr.good _ q _) (by omega)
   ·right;rw[hZ]
  ·rw[if_neg k3] at hr;cases hr
theorem backs_or(b c d:Int)(l:List Nat):∀(vs:List Nd) (f:Nat) (deep:Int) (p:Nat) (k:Int) (acc:List Nd) (post:List Nat),rns vs=true→smns vs→(wgns b c d vs deep k).1=0→l.drop p=wbns vs ++ post→rds b c d l f vs.length deep p k acc=.good (acc ++ vs) (p+(wbns vs).length) (wgns b c d vs deep k).2∨rds b c d l f vs.length deep p k acc=.bad 0 20
 | [],f,deep,p,k,acc,post,hr,hs,hw,hl=>by
  cases f with
  |zero=>exact .inr rfl
  |succ f' =>
  left
  rw[rds,if_pos (by simp),wgns,wbns,List.append_nil];rfl
 |t :: ts,f,deep,p,k,acc,post,hr,hs,hw,hl=>by
  cases f with
  |zero=>exact .inr rfl
  |succ f' =>
  rw[rns,Bool.and_eq_true] at hr
  rw[smns] at hs
  rw[wgns] at hw ⊢
  rw[wbns,List.append_assoc] at hl
  rw[wbns]
  by_cases h1:(wgn b c d t deep k).1=0
  ·rw[if_pos h1] at hw ⊢
   rw[rds,if_neg (by simp)]
   rcases back_or b c d l t f' deep p k _ hr.1 hs.1 h1 hl with h2|h2
   ·rw[h2]
    simp only[List.length_cons,Nat.add_sub_cancel]
    rcases backs_or b c d l ts f' deep _ _ (acc ++ [t]) post hr.2 hs.2 hw (drop_app hl) with h3|h3
    ·left;rw[h3,List.append_assoc,List.length_append,Nat.add_assoc];rfl
    ·right;exact h3
   ·right;rw[h2]
  ·rw[if_neg h1] at hw;exact(h1 hw).elim
end
mutual
theorem cut_nd(b c d:Int)(l:List Nat):∀(v:Nd) (f:Nat) (deep:Int) (p:Nat) (k:Int) (j:Nat),rn v=true→smn v→(wgn b c d v deep k).1=0→l.drop p=(wbn v).take j→j < (wbn v).length→p≤l.length→∃q,rdv b c d l f deep p k=.bad q 20∧q≤l.length
 |.mk K n bs ks,f,deep,p,k,j,hr,hs,hw,hl,hj,hp=>by
  cases f with
  |zero=>exact⟨0,rfl,Nat.zero_le _⟩
  |succ f' =>
  rw[smn] at hs
  obtain⟨s1,s2,s3,s4⟩:=hs
  rw[wgn] at hw
  rw[wbn] at hl hj
  cases j with
  |zero =>
   have h1:=congrArg List.length hl
   rw[List.length_drop,List.take_zero,List.length_nil] at h1
   exact⟨p,by rw[rdv,if_pos (by omega)],hp⟩
  |succ i =>
  rw[List.take_succ_cons] at hl
  rw[List.length_cons] at hj
  obtain⟨g1,g2,g3,g4⟩:=drop_hd hl
  rw[rdv,if_neg g2]
  by_cases q1:b < deep
  ·rw[if_pos q1] at hw;cases hw
  rw[if_neg q1] at hw ⊢
  by_cases q2:k=c
  ·rw[if_pos q2] at hw;cases hw
  rw[if_neg q2] at hw ⊢
  rw[g1]
  rw[rn] at hr
  by_cases k1:K=1
  ·subst k1
   rw[if_pos rfl] at g3 hj
   have hX:rcl (l.drop (p+1))=(0,0,20):=by rw[g3];exact rcl_few s1 (by omega)
   rw[hX,if_pos (show Int.toNat 1=1 from rfl),if_neg (by decide)]
   exact⟨p+1,rfl,g4⟩
  rw[if_neg k1] at hr g3 hj
  by_cases k2:K=2
  ·subst k2
   rw[if_pos rfl] at hw g3 hj
   rw[if_neg (show ¬Int.toNat 2=1 by decide),if_pos (show Int.toNat 2=2 from rfl)]
   by_cases hd:d < (bs.length:Int)
   ·rw[if_pos hd] at hw;cases hw
   by_cases hi:i < (cb bs.length).length
   ·have hX:rcl (l.drop (p+1))=(0,0,20):=by rw[g3,take_low hi];exact rcl_few s2 hi
    rw[hX,if_neg (by decide)]
    exact⟨p+1,rfl,g4⟩
   ·rw[take_high (by omega)] at g3
    have hX:rcl (l.drop (p+1))=(bs.length,(cb bs.length).length,0):=by rw[g3];exact rcl_cb s2 _
    have h1:=congrArg List.length g3
    rw[List.length_drop,List.length_append,List.length_take] at h1
    rw[List.length_append] at hj
    rw[hX,if_pos rfl,if_neg hd,if_pos (show l.length < p+1+(cb bs.length).length+bs.length by omega)]
    exact⟨p+1+(cb bs.length).length,rfl,by omega⟩
  rw[if_neg k2] at hr hw g3 hj
  by_cases k3:K=3
  ·subst k3
   rw[if_pos rfl,Bool.and_eq_true] at hr
   rw[if_pos rfl] at hw
   rw[if_neg (show ¬Int.toNat 3=1 by decide),if_neg (show ¬Int.toNat 3=2 by decide),if_pos (show Int.toNat 3=3 from rfl)]
   by_cases hi:i < (cb ks.length).length
   ·have hX:rcl (l.drop (p+1))=(0,0,20):=by rw[g3,take_low hi];exact rcl_few s3 hi
    rw[hX,if_neg (by decide)]
    exact⟨p+1,rfl,g4⟩
   ·rw[take_high (by omega)] at g3
    have hX:rcl (l.drop (p+1))=(ks.length,(cb ks.length).length,0):=by rw[g3];exact rcl_cb s3 _
    have hY:l.drop (p+1+(cb ks.length).length)=(wbns ks).take (i - (cb ks.length).length):=drop_app g3
    have h1:=congrArg List.length g3
    rw[List.length_drop,List.length_append,List.length_take] at h1
    rw[List.length_append] at hj
    obtain⟨q,e,hq⟩:=cuts_nd b c d l ks f' (deep+1) _ (k+1) [] _ hr.2 s4 hw hY (by omega) (by omega)
    rw[hX,if_pos rfl,e]
    exact⟨q,rfl,hq⟩
  ·rw[if_neg k3] at hr;cases hr
theorem cuts_nd(b c d:Int)(l:List Nat):∀(vs:List Nd) (f:Nat) (deep:Int) (p:Nat) (k:Int) (acc:List Nd) (j:Nat),rns vs=true→smns vs→(wgns b c d vs deep k).1=0→l.drop p=(wbns vs).take j→j < (wbns vs).length→p≤l.length→∃q,rds b c d l f vs.length deep p k acc=.bad q 20∧q≤l.length
 | [],f,deep,p,k,acc,j,hr,hs,hw,hl,hj,hp=>by rw[wbns] at hj;exact absurd hj (Nat.not_lt_zero _)
 |t :: ts,f,deep,p,k,acc,j,hr,hs,hw,hl,hj,hp=>by
  cases f with
  |zero=>exact⟨0,rfl,Nat.zero_le _⟩
  |succ f' =>
  rw[rns,Bool.and_eq_true] at hr
  rw[smns] at hs
  rw[wgns] at hw
  rw[wbns] at hl hj
  rw[List.length_append] at hj
  by_cases h1:(wgn b c d t deep k).1=0
  ·rw[if_pos h1] at hw
   rw[rds,if_neg (by simp)]
   by_cases h2:j < (wbn t).length
   ·obtain⟨q,e,hq⟩:=cut_nd b c d l t f' deep p k j hr.1 hs.1 h1 (by rw[hl,take_low h2]) h2 hp
    rw[e];exact⟨q,rfl,hq⟩
   ·rw[take_high (by omega)] at hl
    have h3:=congrArg List.length hl
    rw[List.length_drop,List.length_append] at h3
    rcases back_or b c d l t f' deep p k _ hr.1 hs.1 h1 hl with h4|h4
    ·rw[h4]
     simp only[List.length_cons,Nat.add_sub_cancel]
     exact cuts_nd b c d l ts f' deep _ _ _ _ hr.2 hs.2 hw (drop_app hl) (by omega) (by omega)
    ·rw[h4];exact⟨0,rfl,Nat.zero_le _⟩
  ·rw[if_neg h1] at hw;exact(h1 hw).elim
end
theorem rdw_cut{a b c d:Int}{v:Nd}(hr:rn v=true)(hs:smn v)(hw:(wgn b c d v 1 0).1=0)(ha:((wbn v).length:Int)≤a){j:Nat}(hj:j < (wbn v).length):∃q,rdw a b c d ((wbn v).take j)=.bad q 20∧q≤j:=by
 have hl:((wbn v).take j).length=j:=by rw[List.length_take];omega
 obtain⟨q,e,hq⟩:=cut_nd b c d ((wbn v).take j) v (((wbn v).take j).length+2) 1 0 0 j hr hs hw (by simp) hj (Nat.zero_le _)
 refine⟨q,?_,by omega⟩
 unfold rdw
 rw[if_neg (by omega),e]
end Go.Proofs.Ytkahelhoaihajaa.Wr
