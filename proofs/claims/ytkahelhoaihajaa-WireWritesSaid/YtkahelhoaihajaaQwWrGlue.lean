/- Joined texts. -/
import Derived.Deep.LoopGhost
import Derived.Test.YtkahelhoaihajaaQwWrDeepB
import Derived.Test.YtkahelhoaihajaaQwWrPu
import Derived.Test.YtkahelhoaihajaaQwWrKnown
import Derived.Test.YtkahelhoaihajaaQwWrSame
import Derived.Test.YtkahelhoaihajaaQwWrFaultR
import Derived.Test.YtkahelhoaihajaaQwWrTread
import Derived.Test.YtkahelhoaihajaaQwWrSize
set_option linter.unusedVariables false
namespace Go.Proofs.Ytkahelhoaihajaa.Wr
open Go.RowKit Go.Proofs.Ytkahelhoaihajaa.Gn Go.Proofs.Ytkahelhoaihajaa.Fd Go.Deep
mutual
theorem smn_ok{w:World}:∀(v:Tv),Ok w v→szn (nd v)≤1000000→smn (nd v)
 |.mk K n r A c ks=>fun h=>by
  cases h with
  |mk hn hr hs hm hc h0 hk =>
  intro hz
  rw[nd,szn] at hz
  rw[nd,smn,nds_len]
  exact⟨hn,by omega,by omega,smns_ok ks hk (by omega)⟩
theorem smns_ok{w:World}:∀(ks:List Tv),(∀t∈ks,Ok w t)→szns (nds ks)≤1000000→smns (nds ks)
 | []=>fun _ _=>by rw[nds,smns];trivial
 |t :: ts=>fun h hz=>by
  rw[nds,szns] at hz
  rw[nds,smns]
  exact⟨smn_ok t (h t List.mem_cons_self) (by omega),smns_ok ts (fun x hx=>h x (List.mem_cons_of_mem _ hx)) (by omega)⟩
end
mutual
theorem wbn_lt{w:World}:∀(v:Tv),Ok w v→rn (nd v)=true→smn (nd v)→∀x∈wbn (nd v),x < 256
 |.mk K n r A c ks=>fun h hr hs x hx=>by
  cases h with
  |mk hn hp hss hm hc h0 hk =>
  rw[nd] at hr hs hx
  rw[smn] at hs
  obtain⟨s1,s2,s3,s4⟩:=hs
  rw[rn] at hr
  rw[wbn,List.mem_cons] at hx
  by_cases k1:K=1
  ·rw[if_pos k1] at hx
   rcases hx with rfl|hx
   ·subst k1;decide
   ·exact cb_lt s1 x hx
  rw[if_neg k1] at hr hx
  by_cases k2:K=2
  ·rw[if_pos k2] at hx
   rcases hx with rfl|hx
   ·subst k2;decide
   ·rcases List.mem_append.1 hx with h1|h1
    ·exact cb_lt s2 x h1
    ·exact hp.lt x h1
  rw[if_neg k2] at hr hx
  by_cases k3:K=3
  ·rw[if_pos k3,Bool.and_eq_true] at hr
   rcases hx with rfl|hx
   ·subst k3;decide
   ·rcases List.mem_append.1 hx with h1|h1
    ·exact cb_lt s3 x h1
    ·exact wbns_lt ks hk hr.2 s4 x h1
  ·rw[if_neg k3] at hr;cases hr
theorem wbns_lt{w:World}:∀(ks:List Tv),(∀t∈ks,Ok w t)→rns (nds ks)=true→smns (nds ks)→∀x∈wbns (nds ks),x < 256
 | []=>fun _ _ _ x hx=>by rw[nds,wbns] at hx;cases hx
 |t :: ts=>fun h hr hs x hx=>by
  rw[nds,rns,Bool.and_eq_true] at hr
  rw[nds,smns] at hs
  rw[nds,wbns] at hx
  rcases List.mem_append.1 hx with h1|h1
  ·exact wbn_lt t (h t List.mem_cons_self) hr.1 hs.1 x h1
  ·exact wbns_lt ts (fun x hx=>h x (List.mem_cons_of_mem _ hx)) hr.2 hs.2 x h1
end
theorem wern_rn{a b c d:Int}{v:Nd}(h:wern a b c d v=0):rn v=true:=by
 unfold wern at h
 split at h
 ·assumption
 ·cases h
def WpQ(er:Int)(L:List Nat)(w:World)(e:Ending)(w':World):Prop :=
 Below w.heap.size w w'∧∃A c,e=.returned (.tuple #[.slice A L.length c,.int .i64 er])∧Pc w' (A,L.length,c,L)∧∀ad,A=some ad→ad.block < w'.heap.size
def wout(a b c d:Int)(v:Nd):List Nat:=if wern a b c d v=0 then wbn v else[]
theorem Write_pc{w:World}{v:Tv}(hv:Ok w v)(a b c d:Int)(d1:d≤9223372036854775807)(hz:szn (nd v)≤2001) :
  Calls Try.prog 12 #[v.val,lim a b c d] w (WpQ (wern (max a 0) (max b 0) (max c 0) (max d 0) (nd v)) (wout (max a 0) (max b 0) (max c 0) (max d 0) (nd v)) w):=by
 obtain⟨-, h2,-, h4⟩:=nd_all v hv
 refine(Write_any hv a b c d d1 (by omega)).mono fun e w' ⟨hb,h⟩=>⟨hb,?_⟩
 rw[wer_nd hv,h2] at h
 unfold wout
 rcases h with⟨h1,T',rfl,h3⟩|⟨h1,rfl⟩
 ·rw[if_pos h1,h1]
  obtain⟨A,cp,rfl,s1,s2,s3,-, s5⟩:=Sl.own h3
  have s0:=smn_ok v hv (by omega)
  exact⟨A,cp,rfl,⟨rfl,s1,wbn_lt v hv (wern_rn h1) s0,s3,s2⟩,fun ad e=>(s5 ad e).2⟩
 ·rw[if_neg h1]
  exact⟨none,0,rfl,nil_pc _,fun ad e=>by cases e⟩
end Go.Proofs.Ytkahelhoaihajaa.Wr
