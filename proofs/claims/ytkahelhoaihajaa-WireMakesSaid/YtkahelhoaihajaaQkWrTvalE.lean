/- Joined texts. -/
import Derived.Test.YtkahelhoaihajaaQkWrTvalD
set_option linter.unusedVariables false
namespace Go.Proofs.Ytkahelhoaihajaa.Wr
open Go.RowKit Go.Proofs.Ytkahelhoaihajaa.Gn Go.Proofs.Ytkahelhoaihajaa.Fd Go.Deep
theorem szC_le{l:List Nat}(h:noC l=false):szC l≤9:=by
 cases l with
 |nil=>simp[szC]
 |cons x t =>
  simp only[szC]
  split
  ·omega
  ·simp only[noC] at h
   by_cases h2:199 < x
   ·exfalso;revert h;cases t <;> simp[show ¬x < 192 by omega,h2]
   ·omega
theorem rcl_lt{l:List Nat}(hl:∀x∈l,x < 256){n m:Nat}(h:rcl l=(n,m,0)):n < 18446744073709551616:=by
 unfold rcl at h
 split at h
 ·cases h
 ·rename_i h1
  split at h
  ·cases h
  ·split at h
   ·cases h
    cases l with
    |nil=>decide
    |cons x t=>have:=hl x List.mem_cons_self;simp only[List.headD_cons];omega
   ·cases h
    have h3:=szC_le (l:=l) (by simpa using h1)
    have h4:=be_lt _ ((l.drop 1).take (szC l - 1)) rfl (fun x hx=>hl x (List.mem_of_mem_drop (List.mem_of_mem_take hx)))
    refine Nat.lt_of_lt_of_le h4 ?_
    refine Nat.le_trans (Nat.pow_le_pow_right (n:=256) (by decide) (show _≤8 from ?_)) (by decide)
    rw[List.length_take];omega
theorem tvalue_any:∀F,Vf F:=by
 intro F
 induction F using Nat.strongRecOn with
 |ind F IH =>
 intro w g a b c d k r p deep h d0 d1 k0 k1 hl9 dp0 dp1 hF
 obtain⟨f,rfl⟩:∃f,F=f+1:=⟨F - 1,by omega⟩
 have pl:p≤r.2.2.2.length:=h.le
 rw[rdv]
 by_cases hp:p=r.2.2.2.length
 ·rw[if_pos hp];exact tval_short h deep hp
 rw[if_neg hp]
 by_cases hd:b < deep
 ·rw[if_pos hd];exact tval_deep h deep hp hd
 rw[if_neg hd]
 by_cases hk:k=c
 ·rw[if_pos hk];subst hk;exact tval_many h deep hp hd
 rw[if_neg hk]
 have k9:k≤1000000:=by omega
 obtain⟨x,hx⟩:∃x,r.2.2.2[p]?=some x:=⟨_,List.getElem?_eq_getElem (by omega)⟩
 have hg:r.2.2.2.getD p 0=x:=by rw[List.getD_eq_getElem?_getD,hx];rfl
 rw[hg]
 rcases hr:rcl (r.2.2.2.drop (p+1)) with⟨n,m,e⟩
 have hm:=rcl_le hr
 rw[List.length_drop] at hm
 simp only[]
 by_cases x1:x=1
 ·rw[if_pos x1]
  subst x1
  by_cases he:e=0
  ·rw[if_pos he];subst he
   exact tval_num h deep hp hd hk k0 k9 hl9 hx hr (rcl_lt (fun y hy=>h.pc.lt y (List.mem_of_mem_drop hy)) hr)
  ·rw[if_neg he];exact(tval_numbad h deep hp hd hk k0 k9 hl9 hx hr he).mono fun e_ w' hh=>⟨by rw[hh.1];rfl,hh.2⟩
 rw[if_neg x1]
 by_cases x2:x=2
 ·rw[if_pos x2]
  subst x2
  by_cases he:e=0
  ·rw[if_pos he];subst he
   by_cases hn:d < (n:Int)
   ·rw[if_pos hn];exact tval_long h deep hp hd hk k0 k9 hl9 hx hr d0 d1 hn
   rw[if_neg hn]
   by_cases hs:r.2.2.2.length < p+1+m+n
   ·rw[if_pos hs];exact tval_few h deep hp hd hk k0 k9 hl9 hx hr d0 d1 hn hs
   ·rw[if_neg hs];exact tval_bytes h deep hp hd hk k0 k9 hl9 hx hr d0 d1 hn (by omega)
  ·rw[if_neg he];exact(tval_bytesbad h deep hp hd hk k0 k9 hl9 hx hr he).mono fun e_ w' hh=>⟨by rw[hh.1];rfl,hh.2⟩
 rw[if_neg x2]
 by_cases x3:x=3
 ·rw[if_pos x3]
  subst x3
  by_cases he:e=0
  ·rw[if_pos he];subst he
   have hpos:1≤m:=by have:=rcl_pos (l:=r.2.2.2.drop (p+1)) (by rw[hr]);rwa [hr] at this
   have hv:∀w3,Rt w3 g a b c d (k+1) r (p+1+m)→_:=fun w3 h3=>tvalues_any f (fun f' hf'=>IH f' (by omega)) h3 d0 d1 (by omega) (by omega) hl9 (deep+1) (by omega) (by omega) (by omega) n (rcl_lt (fun y hy=>h.pc.lt y (List.mem_of_mem_drop hy)) hr)
   cases hres:rds b c d r.2.2.2 f n (deep+1) (p+1+m) (k+1) [] with
   |bad q en=>exact tval_lbad h deep hp hd hk k0 k9 hl9 hx dp0 (by omega) hr hv hres
   |good vs p2 k2=>exact tval_lgood h deep hp hd hk k0 k9 hl9 hx dp0 (by omega) hr hv hres
  ·rw[if_neg he];exact(tval_listbad h deep hp hd hk k0 k9 hl9 hx hr he).mono fun e_ w' hh=>⟨by rw[hh.1];rfl,hh.2⟩
 rw[if_neg x3]
 exact tval_kind h deep hp hd hk k0 k9 hl9 hx x1 x2 x3
end Go.Proofs.Ytkahelhoaihajaa.Wr
