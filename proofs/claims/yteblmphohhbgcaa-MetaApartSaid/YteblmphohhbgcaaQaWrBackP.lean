/- Joined texts. -/
import Derived.Test.YteblmphohhbgcaaQaWrNd
import Derived.Test.YteblmphohhbgcaaQaWrTread
import Derived.Deep.RegionHeld
import Derived.OpenShut
import Derived.WideShapes
import Derived.ChangeArms
import Derived.Deep.LoopGhost
import Derived.Test.YteblmphohhbgcaaQaWrTvalE
import Derived.Test.YteblmphohhbgcaaQaWrCopyB
import Derived.Test.YteblmphohhbgcaaQaPuA
import Derived.Test.YteblmphohhbgcaaQaWrCopy
set_option linter.unusedVariables false
namespace Go.Proofs.Yteblmphohhbgcaa.Wr
open Go.RowKit Go.Proofs.Yteblmphohhbgcaa.Gn Go.Proofs.Yteblmphohhbgcaa.Fd Go.Deep
mutual
def smn:Nd→Prop
 |.mk _ n b ks=>n < 18446744073709551616∧b.length < 18446744073709551616∧ks.length < 18446744073709551616∧smns ks
def smns:List Nd→Prop
 | []=>True
 |t :: ts=>smn t∧smns ts
end
theorem drop_app{l a b:List Nat}{p:Nat}(h:l.drop p=a ++ b):l.drop (p+a.length)=b:=by
 rw[←List.drop_drop,h,List.drop_left]
theorem drop_hd{l t:List Nat}{x p:Nat}(h:l.drop p=x :: t):l.getD p 0=x∧¬p=l.length∧l.drop (p+1)=t∧p+1≤l.length:=by
 have h1:p < l.length:=by
  rcases Nat.lt_or_ge p l.length with h1|h1
  ·exact h1
  ·rw[List.drop_eq_nil_of_le h1] at h;cases h
 have h2:l.drop (p+1)=t:=drop_app (a:=[x]) h
 refine⟨?_,by omega,h2,h1⟩
 rw[List.drop_eq_getElem_cons h1] at h
 injection h with h3 h4
 rw[List.getD_eq_getElem?_getD,List.getElem?_eq_getElem h1,h3];rfl
mutual
theorem back_nd(b c d:Int)(l:List Nat):∀(v:Nd) (f:Nat) (deep:Int) (p:Nat) (k:Int) (post:List Nat),rn v=true→smn v→(wgn b c d v deep k).1=0→l.drop p=wbn v ++ post→2*ctn v≤f→rdv b c d l f deep p k=.good v (p+(wbn v).length) (wgn b c d v deep k).2
 |.mk K n bs ks,f,deep,p,k,post,hr,hs,hw,hl,hf=>by
  rw[ctn] at hf
  obtain⟨f',rfl⟩:∃f',f=f'+1:=⟨f - 1,by omega⟩
  rw[smn] at hs
  obtain⟨s1,s2,s3,s4⟩:=hs
  rw[wgn] at hw ⊢
  rw[wbn] at hl ⊢
  rw[List.cons_append] at hl
  obtain⟨g1,g2,g3,g4⟩:=drop_hd hl
  rw[rdv,if_neg g2]
  by_cases q1:b < deep
  ·rw[if_pos q1] at hw;cases hw
  rw[if_neg q1] at hw ⊢
  rw[if_neg q1]
  by_cases q2:k=c
  ·rw[if_pos q2] at hw;cases hw
  rw[if_neg q2] at hw ⊢
  rw[if_neg q2,g1]
  rw[rn] at hr
  by_cases k1:K=1
  ·subst k1
   rw[if_pos rfl,Bool.and_eq_true,decide_eq_true_eq,decide_eq_true_eq] at hr
   have e1:bs=[]:=List.length_eq_zero_iff.1 hr.1
   have e2:ks=[]:=List.length_eq_zero_iff.1 hr.2
   subst e1 e2
   have hX:rcl (l.drop (p+1))=(n,(cb n).length,0):=by rw[g3,if_pos rfl];exact rcl_cb s1 post
   rw[hX,if_pos (show Int.toNat 1=1 from rfl),if_pos rfl,if_pos rfl,if_neg (show ¬(1:Int)=2 by decide),if_neg (show ¬(1:Int)=3 by decide),List.length_cons]
   exact congrArg (fun q=>Rr.good (Nd.mk 1 n [] []) q (k+1)) (show p+1+(cb n).length=p+((cb n).length+1) by omega)
  rw[if_neg k1] at hr g3 ⊢
  by_cases k2:K=2
  ·subst k2
   rw[if_pos rfl,Bool.and_eq_true,decide_eq_true_eq,decide_eq_true_eq] at hr
   have e1:n=0:=hr.1
   have e2:ks=[]:=List.length_eq_zero_iff.1 hr.2
   subst e1 e2
   rw[if_pos rfl] at hw g3
   have hX:rcl (l.drop (p+1))=(bs.length,(cb bs.length).length,0):=by rw[g3,List.append_assoc];exact rcl_cb s2 _
   have hY:l.drop (p+1+(cb bs.length).length)=bs ++ post:=drop_app (by rw[g3,List.append_assoc])
   by_cases hd:d < (bs.length:Int)
   ·rw[if_pos hd] at hw;cases hw
   have hZ:¬l.length < p+1+(cb bs.length).length+bs.length:=by
    have h:=congrArg List.length hY
    rw[List.length_drop,List.length_append] at h
    rcases Nat.lt_or_ge (p+1+(cb bs.length).length) l.length with h1|h1
    ·omega
    ·have h2:=congrArg List.length g3
     rw[List.length_drop,List.length_append,List.length_append] at h2
     omega
   rw[hX,if_neg (show ¬Int.toNat 2=1 by decide),if_pos (show Int.toNat 2=2 from rfl),if_pos rfl,if_neg hd,if_neg hZ,if_pos rfl,if_neg hd,if_pos rfl,hY,List.take_left,List.length_cons,List.length_append]
   exact congrArg (fun q=>Rr.good (Nd.mk 2 0 bs []) q (k+1)) (show p+1+(cb bs.length).length+bs.length=p+((cb bs.length).length+bs.length+1) by omega)
  rw[if_neg k2] at hr hw g3 ⊢
  by_cases k3:K=3
  ·subst k3
   rw[if_pos rfl,Bool.and_eq_true,Bool.and_eq_true,decide_eq_true_eq,decide_eq_true_eq] at hr
   have e1:n=0:=hr.1.1
   have e2:bs=[]:=List.length_eq_zero_iff.1 hr.1.2
   subst e1 e2
   rw[if_pos rfl] at hw ⊢
   have hX:rcl (l.drop (p+1))=(ks.length,(cb ks.length).length,0):=by rw[g3,List.append_assoc];exact rcl_cb s3 _
   have hY:l.drop (p+1+(cb ks.length).length)=wbns ks ++ post:=drop_app (by rw[g3,List.append_assoc])
   have hZ:=backs_nd b c d l ks f' (deep+1) _ (k+1) [] post hr.2 s4 hw hY (by omega)
   rw[hX,if_neg (show ¬Int.toNat 3=1 by decide),if_neg (show ¬Int.toNat 3=2 by decide),if_pos (show Int.toNat 3=3 from rfl),if_pos rfl,hZ]
   rw[if_neg (show ¬(3:Int)=2 by decide),List.length_cons,List.length_append,List.nil_append]
   simp only[]
   exact congrArg (fun q=>Rr.good _ q _) (by omega)
  ·rw[if_neg k3] at hr;cases hr
theorem backs_nd(b c d:Int)(l:List Nat):∀(vs:List Nd) (f:Nat) (deep:Int) (p:Nat) (k:Int) (acc:List Nd) (post:List Nat),rns vs=true→smns vs→(wgns b c d vs deep k).1=0→l.drop p=wbns vs ++ post→2*ctns vs+1≤f→rds b c d l f vs.length deep p k acc=.good (acc ++ vs) (p+(wbns vs).length) (wgns b c d vs deep k).2
 | [],f,deep,p,k,acc,post,hr,hs,hw,hl,hf=>by
  obtain⟨f',rfl⟩:∃f',f=f'+1:=⟨f - 1,by omega⟩
  rw[rds,if_pos (by simp),wgns,wbns,List.append_nil];rfl
 |t :: ts,f,deep,p,k,acc,post,hr,hs,hw,hl,hf=>by
  rw[ctns] at hf
  obtain⟨f',rfl⟩:∃f',f=f'+1:=⟨f - 1,by omega⟩
  have hc:1≤ctn t:=by cases t;rw[ctn];omega
  rw[rns,Bool.and_eq_true] at hr
  rw[smns] at hs
  rw[wgns] at hw ⊢
  rw[wbns,List.append_assoc] at hl
  rw[wbns]
  by_cases h1:(wgn b c d t deep k).1=0
  ·rw[if_pos h1] at hw ⊢
   rw[rds,if_neg (by simp),back_nd b c d l t f' deep p k _ hr.1 hs.1 h1 hl (by omega)]
   simp only[List.length_cons,Nat.add_sub_cancel]
   rw[backs_nd b c d l ts f' deep _ _ _ post hr.2 hs.2 hw (drop_app hl) (by omega),List.append_assoc,List.length_append,Nat.add_assoc];rfl
  ·rw[if_neg h1] at hw;exact(h1 hw).elim
end
end Go.Proofs.Yteblmphohhbgcaa.Wr
namespace Go.Proofs.Yteblmphohhbgcaa.Wr
open Go.RowKit Go.Proofs.Yteblmphohhbgcaa.Gn Go.Proofs.Yteblmphohhbgcaa.Fd Go.Deep
theorem cb_pos{n:Nat}(h:n < 18446744073709551616):1≤(cb n).length:=by
 have h1:=rcl_cb h []
 have h2:=rcl_pos (l:=cb n ++ []) (by rw[h1])
 rwa [h1] at h2
mutual
theorem two_ctn:∀v:Nd,smn v→rn v=true→2*ctn v≤(wbn v).length
 |.mk K n bs ks,hs,hr=>by
  rw[smn] at hs
  obtain⟨s1,s2,s3,s4⟩:=hs
  rw[rn] at hr
  rw[ctn,wbn,List.length_cons]
  by_cases k1:K=1
  ·rw[if_pos k1,Bool.and_eq_true,decide_eq_true_eq,decide_eq_true_eq] at hr
   have e2:ks=[]:=List.length_eq_zero_iff.1 hr.2
   subst e2
   rw[if_pos k1,ctns]
   have:=cb_pos s1;omega
  rw[if_neg k1] at hr ⊢
  by_cases k2:K=2
  ·rw[if_pos k2,Bool.and_eq_true,decide_eq_true_eq,decide_eq_true_eq] at hr
   have e2:ks=[]:=List.length_eq_zero_iff.1 hr.2
   subst e2
   rw[if_pos k2,ctns,List.length_append]
   have:=cb_pos s2;omega
  rw[if_neg k2] at hr ⊢
  by_cases k3:K=3
  ·rw[if_pos k3,Bool.and_eq_true,Bool.and_eq_true] at hr
   have h1:=two_ctns ks s4 hr.2
   have:=cb_pos s3
   rw[List.length_append];omega
  ·rw[if_neg k3] at hr;cases hr
theorem two_ctns:∀vs:List Nd,smns vs→rns vs=true→2*ctns vs≤(wbns vs).length
 | [],_,_=>by rw[ctns];omega
 |t :: ts,hs,hr=>by
  rw[smns] at hs
  rw[rns,Bool.and_eq_true] at hr
  have h1:=two_ctn t hs.1 hr.1
  have h2:=two_ctns ts hs.2 hr.2
  rw[ctns,wbns,List.length_append];omega
end
theorem rdw_back{a b c d:Int}{v:Nd}(hr:rn v=true)(hs:smn v)(hw:(wgn b c d v 1 0).1=0)(ha:((wbn v).length:Int)≤a):rdw a b c d (wbn v)=.good v (wbn v).length (wgn b c d v 1 0).2:=by
 have h1:=two_ctn v hs hr
 have h:=back_nd b c d (wbn v) v ((wbn v).length+2) 1 0 0 [] hr hs hw (by simp) (by omega)
 unfold rdw
 rw[if_neg (by omega),h]
 simp
theorem wern_back{a b c d:Int}{v:Nd}(hs:smn v)(h:wern a b c d v=0):∃k,rdw a b c d (wbn v)=.good v (wbn v).length k:=by
 unfold wern at h
 split at h
 ·rename_i hr
  split at h
  ·rename_i hw
   split at h
   ·cases h
   ·exact⟨_,rdw_back hr hs hw (by omega)⟩
  ·rename_i hw;exact(hw h).elim
 ·cases h
end Go.Proofs.Yteblmphohhbgcaa.Wr
namespace Go.Proofs.Yteblmphohhbgcaa.Wr
open Go.RowKit Go.Proofs.Yteblmphohhbgcaa.Gn Go.Proofs.Yteblmphohhbgcaa.Fd Go.Deep
mutual
theorem smn_ok{w:World}:∀(v:Tv),Ok w v→szn (nd v)≤1000000→smn (nd v)
 |.mk K n r A c ks=>fun h=>by
  cases h with
  |mk hn hr hs hm hc h0 hk =>
  intro hz
  rw[nd,szn] at hz
  rw[nd,smn,nds_len]
  exact⟨hn,by omega,by omega,smns_ok ks hk (by omega)⟩
theorem smns_ok{w:World}:∀(ks:List Tv),(∀t∈ks,Ok w t)→szns (nds ks)≤1000000→smns (nds ks)
 | []=>fun _ _=>by rw[nds,smns];trivial
 |t :: ts=>fun h hz=>by
  rw[nds,szns] at hz
  rw[nds,smns]
  exact⟨smn_ok t (h t List.mem_cons_self) (by omega),smns_ok ts (fun x hx=>h x (List.mem_cons_of_mem _ hx)) (by omega)⟩
end
mutual
theorem wbn_lt{w:World}:∀(v:Tv),Ok w v→rn (nd v)=true→smn (nd v)→∀x∈wbn (nd v),x < 256
 |.mk K n r A c ks=>fun h hr hs x hx=>by
  cases h with
  |mk hn hp hss hm hc h0 hk =>
  rw[nd] at hr hs hx
  rw[smn] at hs
  obtain⟨s1,s2,s3,s4⟩:=hs
  rw[rn] at hr
  rw[wbn,List.mem_cons] at hx
  by_cases k1:K=1
  ·rw[if_pos k1] at hx
   rcases hx with rfl|hx
   ·subst k1;decide
   ·exact cb_lt s1 x hx
  rw[if_neg k1] at hr hx
  by_cases k2:K=2
  ·rw[if_pos k2] at hx
   rcases hx with rfl|hx
   ·subst k2;decide
   ·rcases List.mem_append.1 hx with h1|h1
    ·exact cb_lt s2 x h1
    ·exact hp.lt x h1
  rw[if_neg k2] at hr hx
  by_cases k3:K=3
  ·rw[if_pos k3,Bool.and_eq_true] at hr
   rcases hx with rfl|hx
   ·subst k3;decide
   ·rcases List.mem_append.1 hx with h1|h1
    ·exact cb_lt s3 x h1
    ·exact wbns_lt ks hk hr.2 s4 x h1
  ·rw[if_neg k3] at hr;cases hr
theorem wbns_lt{w:World}:∀(ks:List Tv),(∀t∈ks,Ok w t)→rns (nds ks)=true→smns (nds ks)→∀x∈wbns (nds ks),x < 256
 | []=>fun _ _ _ x hx=>by rw[nds,wbns] at hx;cases hx
 |t :: ts=>fun h hr hs x hx=>by
  rw[nds,rns,Bool.and_eq_true] at hr
  rw[nds,smns] at hs
  rw[nds,wbns] at hx
  rcases List.mem_append.1 hx with h1|h1
  ·exact wbn_lt t (h t List.mem_cons_self) hr.1 hs.1 x h1
  ·exact wbns_lt ts (fun x hx=>h x (List.mem_cons_of_mem _ hx)) hr.2 hs.2 x h1
end
theorem wern_rn{a b c d:Int}{v:Nd}(h:wern a b c d v=0):rn v=true:=by
 unfold wern at h
 split at h
 ·assumption
 ·cases h
def WpQ(er:Int)(L:List Nat)(w:World)(e:Ending)(w':World):Prop :=
 Below w.heap.size w w'∧∃A c,e=.returned (.tuple #[.slice A L.length c,.int .i64 er])∧Pc w' (A,L.length,c,L)∧∀ad,A=some ad→ad.block < w'.heap.size
def wout(a b c d:Int)(v:Nd):List Nat:=if wern a b c d v=0 then wbn v else[]
theorem Write_pc{w:World}{v:Tv}(hv:Ok w v)(a b c d:Int)(d1:d≤9223372036854775807)(hz:szn (nd v)≤2001) :
  Calls Try.prog 33 #[v.val,lim a b c d] w (WpQ (wern (max a 0) (max b 0) (max c 0) (max d 0) (nd v)) (wout (max a 0) (max b 0) (max c 0) (max d 0) (nd v)) w):=by
 obtain⟨-, h2,-, h4⟩:=nd_all v hv
 refine(Write_any hv a b c d d1 (by omega)).mono fun e w' ⟨hb,h⟩=>⟨hb,?_⟩
 rw[wer_nd hv,h2] at h
 unfold wout
 rcases h with⟨h1,T',rfl,h3⟩|⟨h1,rfl⟩
 ·rw[if_pos h1,h1]
  obtain⟨A,cp,rfl,s1,s2,s3,-, s5⟩:=Sl.own h3
  have s0:=smn_ok v hv (by omega)
  exact⟨A,cp,rfl,⟨rfl,s1,wbn_lt v hv (wern_rn h1) s0,s3,s2⟩,fun ad e=>(s5 ad e).2⟩
 ·rw[if_neg h1]
  exact⟨none,0,rfl,nil_pc _,fun ad e=>by cases e⟩
def R3Q(x y:Int)(V:Nd)(w:World)(e:Ending)(w':World):Prop :=
 Below w.heap.size w w'∧∃t:Tv,e=.returned (.tuple #[t.val,.int .i64 x,.int .i64 y])∧nd t=V∧Ok w' t
theorem rdq3{a b c d:Int}{l:List Nat}:∃(x y:Int) (V:Nd),(∀w e w',RdQ (rdw a b c d l) w e w'→R3Q x y V w e w')∧(y=0→∃p k,rdw a b c d l=.good V p k)∧(∀v p k,rdw a b c d l=.good v p k→y=0∧V=v)∧(∀p en,rdw a b c d l=.bad p en→x=p∧y=en∧V=.mk 0 0 [] [])∧szn V≤l.length+1:=by
 cases hres:rdw a b c d l with
 |bad q en =>
  refine⟨q,en,.mk 0 0 [] [],fun w e w' ⟨h,e1⟩=>⟨h,.mk 0 0 (none,0,0,[]) none 0 [],e1,rfl,ok_leaf (by decide) (nil_pc _)⟩,fun h=>?_,fun v p k h=>by(cases h),fun p e h=>by(cases h;exact⟨rfl,rfl,rfl⟩),by simp[szn,szns]⟩
  exact((rdw_bad hres) (by omega)).elim
 |good v p k =>
  refine⟨0,0,v,fun w e w' ⟨h,t,e1,h2,h3⟩=>⟨h,t,e1,h2,h3⟩,fun _=>⟨p,k,rfl⟩,fun v2 p2 k2 h=>by(cases h;exact⟨rfl,rfl⟩),fun p e h=>by(cases h),Nat.le_succ_of_le (rdw_sz hres)⟩
end Go.Proofs.Yteblmphohhbgcaa.Wr
