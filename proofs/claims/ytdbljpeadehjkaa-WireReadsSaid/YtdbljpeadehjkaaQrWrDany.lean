/- Joined texts. -/
import Derived.Test.YtdbljpeadehjkaaQrWrTvalE
import Derived.Test.YtdbljpeadehjkaaQrWrDlist
set_option linter.unusedVariables false
namespace Go.Proofs.Ytdbljpeadehjkaa.Wr
open Go.RowKit Go.Proofs.Ytdbljpeadehjkaa.Gn Go.Proofs.Ytdbljpeadehjkaa.Fd Go.Deep
theorem dvalue_any:∀F,Df F:=by
 intro F
 induction F using Nat.strongRecOn with
 |ind F IH =>
 intro w g a b c d zb zc zd k r p deep h hzb hzc hzd d1 k0 kc k1 hl9 dp0 dp1 hF
 obtain⟨f,rfl⟩:∃f,F=f+1:=⟨F - 1,by omega⟩
 have pl:p≤r.2.2.2.length:=h.le
 have d0:0≤zd:=by omega
 rw[rdv]
 by_cases hp:p=r.2.2.2.length
 ·rw[if_pos hp];exact dval_short h hzb hzc hzd deep hp
 rw[if_neg hp]
 by_cases hd:zb < deep
 ·rw[if_pos hd];exact dval_deep h hzb hzc hzd deep hp hd
 rw[if_neg hd]
 by_cases hk:k=zc
 ·rw[if_pos hk];exact dval_many h hzb hzc hzd deep hp hd (by omega)
 rw[if_neg hk]
 have hk2:k < zc:=by omega
 have k9:k≤1000000:=by omega
 obtain⟨x,hx⟩:∃x,r.2.2.2[p]?=some x:=⟨_,List.getElem?_eq_getElem (by omega)⟩
 have hg:r.2.2.2.getD p 0=x:=by rw[List.getD_eq_getElem?_getD,hx];rfl
 rw[hg]
 rcases hr:rcl (r.2.2.2.drop (p+1)) with⟨n,m,e⟩
 have hm:=rcl_le hr
 rw[List.length_drop] at hm
 simp only[]
 by_cases x1:x=1
 ·rw[if_pos x1]
  subst x1
  by_cases he:e=0
  ·rw[if_pos he];subst he
   exact dval_num h hzb hzc hzd deep hp hd hk2 k0 k9 hl9 hx hr (rcl_lt (fun y hy=>h.pc.lt y (List.mem_of_mem_drop hy)) hr)
  ·rw[if_neg he,(rcl_zero hr he).2];exact dval_cbad1 h hzb hzc hzd deep hp hd hk2 k0 k9 hl9 hx hr he
 rw[if_neg x1]
 by_cases x2:x=2
 ·rw[if_pos x2]
  subst x2
  by_cases he:e=0
  ·rw[if_pos he];subst he
   by_cases hn:zd < (n:Int)
   ·rw[if_pos hn];exact dval_long h hzb hzc hzd deep hp hd hk2 k0 k9 hl9 hx hr d1 d0 hn
   rw[if_neg hn]
   by_cases hs:r.2.2.2.length < p+1+m+n
   ·rw[if_pos hs];exact dval_few h hzb hzc hzd deep hp hd hk2 k0 k9 hl9 hx hr d1 d0 hn hs
   ·rw[if_neg hs];exact dval_bytes h hzb hzc hzd deep hp hd hk2 k0 k9 hl9 hx hr d1 d0 hn (by omega)
  ·rw[if_neg he,(rcl_zero hr he).2];exact dval_cbad2 h hzb hzc hzd deep hp hd hk2 k0 k9 hl9 hx hr he
 rw[if_neg x2]
 by_cases x3:x=3
 ·rw[if_pos x3]
  subst x3
  by_cases he:e=0
  ·rw[if_pos he];subst he
   have hpos:1≤m:=by have:=rcl_pos (l:=r.2.2.2.drop (p+1)) (by rw[hr]);rwa [hr] at this
   have hv:=dval_list h hzb hzc hzd deep hp hd hk2 k0 k9 hl9 hx hr (rcl_lt (fun y hy=>h.pc.lt y (List.mem_of_mem_drop hy)) hr) d1 (by omega) dp0 (F:=f) rfl (fun f' hf'=>IH f' (by omega)) (by omega) (by omega) (by omega)
   cases hres:rds zb zc zd r.2.2.2 f n (deep+1) (p+1+m) (k+1) [] with
   |bad q en=>rw[hres] at hv;exact hv
   |good vs p2 k2=>rw[hres] at hv;exact hv
  ·rw[if_neg he,(rcl_zero hr he).2];exact dval_cbad3 h hzb hzc hzd deep hp hd hk2 k0 k9 hl9 hx hr he
 rw[if_neg x3]
 exact dval_kind h hzb hzc hzd deep hp hd hk2 hx (by omega)
end Go.Proofs.Ytdbljpeadehjkaa.Wr
