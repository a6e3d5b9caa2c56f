/- Joined texts. -/
import Derived.Test.YtkahelhoaihajaaQbWrBackP
set_option linter.unusedVariables false
namespace Go.Proofs.Ytkahelhoaihajaa.Wr
open Go.RowKit Go.Proofs.Ytkahelhoaihajaa.Gn Go.Proofs.Ytkahelhoaihajaa.Fd Go.Deep
theorem cb_pos{n:Nat}(h:n < 18446744073709551616):1≤(cb n).length:=by
 have h1:=rcl_cb h []
 have h2:=rcl_pos (l:=cb n ++ []) (by rw[h1])
 rwa [h1] at h2
mutual
theorem two_ctn:∀v:Nd,smn v→rn v=true→2*ctn v≤(wbn v).length
 |.mk K n bs ks,hs,hr=>by
  rw[smn] at hs
  obtain⟨s1,s2,s3,s4⟩:=hs
  rw[rn] at hr
  rw[ctn,wbn,List.length_cons]
  by_cases k1:K=1
  ·rw[if_pos k1,Bool.and_eq_true,decide_eq_true_eq,decide_eq_true_eq] at hr
   have e2:ks=[]:=List.length_eq_zero_iff.1 hr.2
   subst e2
   rw[if_pos k1,ctns]
   have:=cb_pos s1;omega
  rw[if_neg k1] at hr ⊢
  by_cases k2:K=2
  ·rw[if_pos k2,Bool.and_eq_true,decide_eq_true_eq,decide_eq_true_eq] at hr
   have e2:ks=[]:=List.length_eq_zero_iff.1 hr.2
   subst e2
   rw[if_pos k2,ctns,List.length_append]
   have:=cb_pos s2;omega
  rw[if_neg k2] at hr ⊢
  by_cases k3:K=3
  ·rw[if_pos k3,Bool.and_eq_true,Bool.and_eq_true] at hr
   have h1:=two_ctns ks s4 hr.2
   have:=cb_pos s3
   rw[List.length_append];omega
  ·rw[if_neg k3] at hr;cases hr
theorem two_ctns:∀vs:List Nd,smns vs→rns vs=true→2*ctns vs≤(wbns vs).length
 | [],_,_=>by rw[ctns];omega
 |t :: ts,hs,hr=>by
  rw[smns] at hs
  rw[rns,Bool.and_eq_true] at hr
  have h1:=two_ctn t hs.1 hr.1
  have h2:=two_ctns ts hs.2 hr.2
  rw[ctns,wbns,List.length_append];omega
end
theorem rdw_back{a b c d:Int}{v:Nd}(hr:rn v=true)(hs:smn v)(hw:(wgn b c d v 1 0).1=0)(ha:((wbn v).length:Int)≤a):rdw a b c d (wbn v)=.good v (wbn v).length (wgn b c d v 1 0).2:=by
 have h1:=two_ctn v hs hr
 have h:=back_nd b c d (wbn v) v ((wbn v).length+2) 1 0 0 [] hr hs hw (by simp) (by omega)
 unfold rdw
 rw[if_neg (by omega),h]
 simp
theorem wern_back{a b c d:Int}{v:Nd}(hs:smn v)(h:wern a b c d v=0):∃k,rdw a b c d (wbn v)=.good v (wbn v).length k:=by
 unfold wern at h
 split at h
 ·rename_i hr
  split at h
  ·rename_i hw
   split at h
   ·cases h
   ·exact⟨_,rdw_back hr hs hw (by omega)⟩
  ·rename_i hw;exact(hw h).elim
 ·cases h
mutual
theorem wgn_more{b c d b' c' d':Int}(hb:b≤b')(hc:c≤c')(hd:d≤d'):∀(v:Nd) (deep k:Int),k≤c→(wgn b c d v deep k).1=0→wgn b' c' d' v deep k=wgn b c d v deep k∧(wgn b c d v deep k).2≤c
 |.mk K n l ks,deep,k,hk,h=>by
  rw[wgn] at h ⊢
  rw[wgn]
  by_cases q1:b < deep
  ·rw[if_pos q1] at h;cases h
  rw[if_neg q1] at h ⊢
  rw[if_neg (show ¬b' < deep by omega)]
  by_cases q2:k=c
  ·rw[if_pos q2] at h;cases h
  rw[if_neg q2] at h ⊢
  rw[if_neg (show ¬k=c' by omega)]
  by_cases k2:K=2
  ·rw[if_pos k2] at h ⊢
   rw[if_pos k2]
   by_cases q3:d < (l.length:Int)
   ·rw[if_pos q3] at h;cases h
   rw[if_neg q3,if_neg (show ¬d' < (l.length:Int) by omega)]
   exact⟨rfl,by show k+1≤c;omega⟩
  rw[if_neg k2] at h ⊢
  rw[if_neg k2]
  by_cases k3:K=3
  ·rw[if_pos k3] at h ⊢
   rw[if_pos k3]
   exact wgns_more hb hc hd ks _ _ (by omega) h
  ·rw[if_neg k3,if_neg k3]
   exact⟨rfl,by show k+1≤c;omega⟩
theorem wgns_more{b c d b' c' d':Int}(hb:b≤b')(hc:c≤c')(hd:d≤d'):∀(vs:List Nd) (deep k:Int),k≤c→(wgns b c d vs deep k).1=0→wgns b' c' d' vs deep k=wgns b c d vs deep k∧(wgns b c d vs deep k).2≤c
 | [],deep,k,hk,h=>by rw[wgns,wgns];exact⟨rfl,hk⟩
 |t :: ts,deep,k,hk,h=>by
  rw[wgns] at h ⊢
  rw[wgns]
  by_cases h1:(wgn b c d t deep k).1=0
  ·have h2:=wgn_more hb hc hd t deep k hk h1
   rw[if_pos h1] at h ⊢
   rw[h2.1,if_pos h1]
   exact wgns_more hb hc hd ts deep _ h2.2 h
  ·rw[if_neg h1] at h;exact(h1 h).elim
end
theorem wern_more{a b c d a' b' c' d':Int}(ha:a≤a')(hb:b≤b')(hc:c≤c')(hd:d≤d')(c0:0≤c){v:Nd}(h:wern a b c d v=0):wern a' b' c' d' v=0:=by
 unfold wern at h ⊢
 split at h
 ·rename_i hr
  rw[if_pos hr]
  split at h
  ·rename_i hw
   rw[(wgn_more hb hc hd v 1 0 c0 hw).1,if_pos hw]
   split at h
   ·cases h
   ·rw[if_neg (by omega)]
  ·rename_i hw;exact(hw h).elim
 ·cases h
end Go.Proofs.Ytkahelhoaihajaa.Wr
