/- Joined texts. -/
import Derived.Test.YtkahelhoaihajaaQbWrCutP
set_option linter.unusedVariables false
namespace Go.Proofs.Ytkahelhoaihajaa.Wr
open Go.RowKit Go.Proofs.Ytkahelhoaihajaa.Gn Go.Proofs.Ytkahelhoaihajaa.Fd Go.Deep
theorem drop_at0{l:List Nat}{p:Nat}(h:p < l.length):l.drop p=l.getD p 0 :: l.drop (p+1):=by
 rw[List.drop_eq_getElem_cons h,List.getD_eq_getElem?_getD,List.getElem?_eq_getElem h];rfl
theorem drop_cb{l:List Nat}(hl:∀x∈l,x < 256){p n m:Nat}(h:rcl (l.drop p)=(n,m,0)):l.drop p=cb n ++ l.drop (p+m)∧n < 18446744073709551616:=by
 have h1:=rcl_take (fun x hx=>hl x (List.mem_of_mem_drop hx)) h
 refine⟨?_,h1.2⟩
 rw[←h1.1,←List.drop_drop,List.take_append_drop]
mutual
theorem inv_nd(b c d:Int)(l:List Nat)(hl:∀x∈l,x < 256):∀(f:Nat) (deep:Int) (p:Nat) (k:Int) {v:Nd} {p':Nat} {k':Int},p≤l.length→rdv b c d l f deep p k=.good v p' k'→rn v=true∧smn v∧wgn b c d v deep k=(0,k')∧l.drop p=wbn v ++ l.drop p'
 |0,deep,p,k,v,p',k',hp,h=>by rw[rdv] at h;cases h
 |f+1,deep,p,k,v,p',k',hp,h=>by
  rw[rdv] at h
  split at h
  ·cases h
  rename_i h1
  have hd:=drop_at0 (l:=l) (p:=p) (by omega)
  split at h
  ·cases h
  rename_i h2
  split at h
  ·cases h
  rename_i h3
  rcases hr:rcl (l.drop (p+1)) with⟨n,m,e⟩
  rw[hr] at h
  simp only[] at h
  have hm:=rcl_le hr
  rw[List.length_drop] at hm
  by_cases x1:l.getD p 0=1
  ·rw[if_pos x1] at h
   by_cases he:e=0
   ·subst he
    rw[if_pos rfl] at h
    obtain⟨g1,g2⟩:=drop_cb hl hr
    cases h
    refine⟨by simp[rn],by rw[smn];exact⟨g2,by decide,by decide,by rw[smns];trivial⟩,?_,?_⟩
    ·rw[wgn,if_neg h2,if_neg h3,if_neg (by decide),if_neg (by decide)]
    ·rw[hd,x1,g1,wbn,if_pos rfl];rfl
   ·rw[if_neg he] at h;cases h
  rw[if_neg x1] at h
  by_cases x2:l.getD p 0=2
  ·rw[if_pos x2] at h
   by_cases he:e=0
   ·subst he
    rw[if_pos rfl] at h
    obtain⟨g1,g2⟩:=drop_cb hl hr
    split at h
    ·cases h
    rename_i h4
    split at h
    ·cases h
    rename_i h5
    cases h
    have hn:((l.drop (p+1+m)).take n).length=n:=by rw[List.length_take,List.length_drop];omega
    refine⟨by simp[rn],by rw[smn];exact⟨by decide,by rw[hn];exact g2,by decide,by rw[smns];trivial⟩,?_,?_⟩
    ·rw[wgn,if_neg h2,if_neg h3,if_pos rfl,hn,if_neg h4]
    ·rw[hd,x2,g1,wbn,if_neg (by decide),if_pos rfl,hn,←List.drop_drop (l:=l) (i:=n),List.cons_append,List.append_assoc,List.take_append_drop];rfl
   ·rw[if_neg he] at h;cases h
  rw[if_neg x2] at h
  by_cases x3:l.getD p 0=3
  ·rw[if_pos x3] at h
   by_cases he:e=0
   ·subst he
    rw[if_pos rfl] at h
    obtain⟨g1,g2⟩:=drop_cb hl hr
    split at h
    ·cases h
    ·rename_i vs q k2 h4
     obtain⟨ws,e1,e2,e3,e4,e5,e6⟩:=invs_nd b c d l hl f n (deep+1) (p+1+m) (k+1) [] (by omega) h4
     rw[List.nil_append] at e1
     subst e1
     cases h
     refine⟨by simp[rn,e3],by rw[smn];exact⟨by decide,by decide,by rw[e2];exact g2,e4⟩,?_,?_⟩
     ·rw[wgn,if_neg h2,if_neg h3,if_neg (by decide),if_pos rfl,e5]
     ·rw[hd,x3,g1,e6,wbn,if_neg (by decide),if_neg (by decide),e2,List.cons_append,List.append_assoc];rfl
   ·rw[if_neg he] at h;cases h
  ·rw[if_neg x3] at h;cases h
theorem invs_nd(b c d:Int)(l:List Nat)(hl:∀x∈l,x < 256):∀(f n:Nat) (deep:Int) (p:Nat) (k:Int) (acc:List Nd) {vs:List Nd} {p':Nat} {k':Int},p≤l.length→rds b c d l f n deep p k acc=.good vs p' k'→∃ws,vs=acc ++ ws∧ws.length=n∧rns ws=true∧smns ws∧wgns b c d ws deep k=(0,k')∧l.drop p=wbns ws ++ l.drop p'
 |0,n,deep,p,k,acc,vs,p',k',hp,h=>by rw[rds] at h;cases h
 |f+1,n,deep,p,k,acc,vs,p',k',hp,h=>by
  rw[rds] at h
  split at h
  ·rename_i h1
   cases h
   exact⟨[],by rw[List.append_nil],h1.symm,rfl,by rw[smns];trivial,by rw[wgns],by rw[wbns,List.nil_append]⟩
  ·rename_i h1
   split at h
   ·cases h
   ·rename_i v2 q k2 h2
    have h3:=inv_nd b c d l hl f deep p k hp h2
    have h4:=rdv_good b c d l f deep p k hp h2
    obtain⟨ws,e1,e2,e3,e4,e5,e6⟩:=invs_nd b c d l hl f (n - 1) deep q k2 _ h4.2.1 h
    refine⟨v2 :: ws,by rw[e1,List.append_assoc];rfl,by rw[List.length_cons];omega,by rw[rns,h3.1,e3];rfl,by rw[smns];exact⟨h3.2.1,e4⟩,?_,?_⟩
    ·rw[wgns,h3.2.2.1,if_pos rfl,e5]
    ·rw[wbns,h3.2.2.2,e6,List.append_assoc]
end
theorem rdw_inv{a b c d:Int}{l:List Nat}(hl:∀x∈l,x < 256){v:Nd}{p:Nat}{k:Int}(h:rdw a b c d l=.good v p k):wbn v=l∧wern a b c d v=0∧smn v:=by
 unfold rdw at h
 split at h
 ·cases h
 rename_i h1
 split at h
 ·cases h
 ·rename_i v2 p2 k2 h2
  have h3:=inv_nd b c d l hl _ 1 0 0 (Nat.zero_le _) h2
  have h4:=rdv_good b c d l _ 1 0 0 (Nat.zero_le _) h2
  split at h
  ·cases h
  ·rename_i h5
   cases h
   have e:wbn v=l:=by
    have h6:=h3.2.2.2
    rw[List.drop_zero,List.drop_eq_nil_of_le (by omega),List.append_nil] at h6
    exact h6.symm
   refine⟨e,?_,h3.2.1⟩
   rw[wern,if_pos h3.1,h3.2.2.1,e,if_pos rfl,if_neg h1]
end Go.Proofs.Ytkahelhoaihajaa.Wr
