/- Joined texts. -/
import Derived.Test.YteblmphohhbgcaaQaWrCopyB
import Derived.Test.YteblmphohhbgcaaQaPuA
import Derived.Deep.RegionHeld
import Derived.Deep.LoopGhost
import Derived.Test.YteblmphohhbgcaaQaWrTvalE
import Derived.Test.YteblmphohhbgcaaQaWrBytes
set_option linter.unusedVariables false
namespace Go.Proofs.Yteblmphohhbgcaa.Wr
open Go.RowKit Go.Proofs.Yteblmphohhbgcaa.Gn Go.Proofs.Yteblmphohhbgcaa.Fd Go.Deep
mutual
def rn:Nd→Bool
 |.mk k n b ks=>if k=1 then decide (b.length=0) && decide (ks.length=0) else if k=2 then decide (n=0) && decide (ks.length=0) else if k=3 then decide (n=0) && decide (b.length=0) && rns ks else false
def rns:List Nd→Bool
 | []=>true
 |t :: ts=>rn t && rns ts
end
mutual
def wbn:Nd→List Nat
 |.mk k n b ks=>k.toNat :: (if k=1 then cb n else if k=2 then cb b.length ++ b else cb ks.length ++ wbns ks)
def wbns:List Nd→List Nat
 | []=>[]
 |t :: ts=>wbn t ++ wbns ts
end
mutual
def wgn(b c d:Int):Nd→Int→Int→Int × Int
 |.mk K n l ks,deep,k =>
  if b < deep then(23,k) else if k=c then(24,k) else
  if K=2 then(if d < (l.length:Int) then(2,k+1) else(0,k+1)) else
  if K=3 then wgns b c d ks (deep+1) (k+1) else(0,k+1)
def wgns(b c d:Int):List Nd→Int→Int→Int × Int
 | [],_,k=>(0,k)
 |t :: ts,deep,k=>if(wgn b c d t deep k).1=0 then wgns b c d ts deep (wgn b c d t deep k).2 else wgn b c d t deep k
end
mutual
def szn:Nd→Nat
 |.mk _ _ l ks=>1+l.length+szns ks
def szns:List Nd→Nat
 | []=>0
 |t :: ts=>szn t+szns ts
end
mutual
theorem nd_all{w:World}:∀(v:Tv),Ok w v→right v=rn (nd v)∧wb v=wbn (nd v)∧(∀b c d p k,wgo b c d v p k=wgn b c d (nd v) p k)∧sz v=szn (nd v)
 |.mk K n r A c ks=>fun h=>by
  cases h with
  |mk hn hr hs hm hc h0 hk =>
  obtain⟨h1,h2,h3,h4⟩:=nds_all ks hk
  have hl:r.2.1=r.2.2.2.length:=hr.len
  have hk':ks.length=(nds ks).length:=(nds_len ks).symm
  refine⟨?_,?_,fun b c d p k=>?_,?_⟩
  ·rw[right,nd,rn,h1,hl,hk']
  ·rw[wb,nd,wbn,h2,hl,hk']
  ·rw[wgo,nd,wgn,h3,hl]
  ·rw[sz,nd,szn,h4,hl]
theorem nds_all{w:World}:∀(ks:List Tv),(∀t∈ks,Ok w t)→rights ks=rns (nds ks)∧wbs ks=wbns (nds ks)∧(∀b c d p k,wgos b c d ks p k=wgns b c d (nds ks) p k)∧szs ks=szns (nds ks)
 | []=>fun _=>⟨rfl,rfl,fun _ _ _ _ _=>rfl,rfl⟩
 |t :: ts=>fun h=>by
  obtain⟨h1,h2,h3,h4⟩:=nd_all t (h t List.mem_cons_self)
  obtain⟨g1,g2,g3,g4⟩:=nds_all ts (fun x hx=>h x (List.mem_cons_of_mem _ hx))
  refine⟨?_,?_,fun b c d p k=>?_,?_⟩
  ·rw[rights,nds,rns,h1,g1]
  ·rw[wbs,nds,wbns,h2,g2]
  ·rw[wgos,nds,wgns,h3,g3]
  ·rw[szs,nds,szns,h4,g4]
end
def wern(a b c d:Int)(v:Nd):Int:=if rn v=true then(if(wgn b c d v 1 0).1=0 then(if a < ((wbn v).length:Int) then 2 else 0) else(wgn b c d v 1 0).1) else 21
theorem wer_nd{w:World}{v:Tv}(h:Ok w v)(a b c d:Int):wer a b c d v=wern a b c d (nd v):=by
 obtain⟨h1,h2,h3,-⟩:=nd_all v h
 rw[wer,wern,h1,h2,h3]
end Go.Proofs.Yteblmphohhbgcaa.Wr
namespace Go.Proofs.Yteblmphohhbgcaa.Wr
open Go.RowKit Go.Proofs.Yteblmphohhbgcaa.Gn Go.Proofs.Yteblmphohhbgcaa.Fd Go.Deep
mutual
def ctn:Nd→Nat
 |.mk _ _ _ ks=>1+ctns ks
def ctns:List Nd→Nat
 | []=>0
 |t :: ts=>ctn t+ctns ts
end
end Go.Proofs.Yteblmphohhbgcaa.Wr
namespace Go.Proofs.Yteblmphohhbgcaa.Wr
open Go.RowKit Go.Proofs.Yteblmphohhbgcaa.Gn Go.Proofs.Yteblmphohhbgcaa.Fd Go.Deep
theorem szns_append(a b:List Nd):szns (a ++ b)=szns a+szns b:=by
 induction a with
 |nil=>simp[szns]
 |cons x a ih=>rw[List.cons_append,szns,szns,ih];omega
end Go.Proofs.Yteblmphohhbgcaa.Wr
namespace Go.Proofs.Yteblmphohhbgcaa.Wr
open Go.RowKit Go.Proofs.Yteblmphohhbgcaa.Gn Go.Proofs.Yteblmphohhbgcaa.Fd Go.Deep
theorem be_from(l:List Nat):∀a,l.foldl (fun n x=>n*256+x) a=a*256 ^ l.length+be l:=by
 induction l with
 |nil=>intro a;simp[be]
 |cons x l ih =>
  intro a
  unfold be
  rw[List.foldl_cons,List.foldl_cons,ih,ih (0*256+x),List.length_cons,Nat.pow_succ]
  rw[show 0*256+x=x by omega,Nat.add_mul,Nat.mul_assoc,Nat.mul_comm 256,Nat.add_assoc]
theorem be_cons(x:Nat)(l:List Nat):be (x :: l)=x*256 ^ l.length+be l:=by
 have:=be_from l (0*256+x)
 unfold be
 rw[List.foldl_cons]
 rw[show 0*256+x=x by omega] at this ⊢
 exact this
theorem be_by(n:Nat):∀k,be (by_ n k).reverse=n%256 ^ k
 |0=>by simp[by_,be,Nat.mod_one]
 |k+1=>by
  rw[by_snoc,List.reverse_append,List.reverse_cons,List.reverse_nil,List.nil_append,List.singleton_append,be_cons,be_by n k,List.length_reverse,by_length,Nat.pow_succ,Nat.mod_mul]
  rw[Nat.mul_comm,Nat.add_comm]
theorem rcl_cb {n : Nat} (h : n < 18446744073709551616) (t : List Nat) : rcl (cb n ++ t) = (n, (cb n).length, 0) := by
  by_cases h1 : n < 192
  · rw [cb_low h1]; exact rcl_low h1
  · have h64 : n < 2 ^ 64 := h
    have hk := nb_le h64
    have hp := nb_pos h64 (by omega)
    rw [cb_high h1, List.cons_append]
    obtain ⟨k, hk1⟩ : ∃ k, nb n = k + 1 := ⟨nb n - 1, by omega⟩
    have hm := nb_more h64 (by omega) (i := k) (by omega)
    have he := nb_end h64
    have hy : n / 256 ^ k < 256 := by
      rw [hk1, Nat.pow_succ, ← Nat.div_div_eq_div_mul] at he
      rcases Nat.lt_or_ge (n / 256 ^ k) 256 with h | h
      · exact h
      · have := Nat.div_pos h (by decide : 0 < 256); omega
    have hb := be_by n (k + 1)
    rw [hk1] at he
    rw [Nat.mod_eq_of_lt (by rcases Nat.lt_or_ge n (256 ^ (k + 1)) with h | h; · exact h
                             · have := Nat.div_pos h (Nat.pow_pos (by decide : 0 < 256)); omega)] at hb
    rw [hk1, by_snoc, List.reverse_append, List.reverse_cons, List.reverse_nil, List.nil_append, List.singleton_append, Nat.mod_eq_of_lt hy, List.cons_append]
    rw [by_snoc, List.reverse_append, List.reverse_cons, List.reverse_nil, List.nil_append, List.singleton_append, Nat.mod_eq_of_lt hy] at hb
    rw [rcl_good (by omega) (by omega) ?_ ?_]
    · rw [show 191 + (k + 1) - 191 = k + 1 by omega, List.take_succ_cons, List.take_append_of_le_length (by rw [List.length_reverse, by_length]; exact Nat.le_refl _), List.take_of_length_le (by rw [List.length_reverse, by_length]; exact Nat.le_refl _), hb]
      rw [show 191 + (k + 1) - 190 = k + 2 by omega, List.length_cons, List.length_cons, List.length_reverse, by_length]
    · rintro (h | ⟨h, h2⟩)
      · omega
      · have : k = 0 := by omega
        subst this
        simp at h2
        omega
    · rw [List.length_append, List.length_reverse, by_length]; omega
theorem bl_pc{w:World}{A:Option Addr}{n c:Nat}{l:List Nat}(h:BL w A n c l):Pc w (A,n,c,l):=by
 obtain⟨h1,h2,h3,h4,h5⟩:=h
 have e:l.length=n:=by have:=h1.1;rwa [bl_length] at this
 exact⟨e.symm,by rw[show((A,n,c,l):Rw).2.2.2.length=n from e];exact h1,h3,by rw[show((A,n,c,l):Rw).2.2.2.length=n from e];exact h5,h4⟩
end Go.Proofs.Yteblmphohhbgcaa.Wr
namespace Go.Proofs.Yteblmphohhbgcaa.Wr
open Go.RowKit Go.Proofs.Yteblmphohhbgcaa.Gn Go.Proofs.Yteblmphohhbgcaa.Fd Go.Deep
theorem szns_snoc(l:List Nd)(t:Nd):szns (l ++ [t])=szns l+szn t:=by rw[szns_append];simp[szns]
mutual
theorem rdv_sz(b c d:Int)(l:List Nat):∀(f:Nat) (deep:Int) (p:Nat) (k:Int) {v:Nd} {p':Nat} {k':Int},rdv b c d l f deep p k=.good v p' k'→szn v+p≤p'
 |0,deep,p,k,v,p',k',h=>by rw[rdv] at h;cases h
 |f+1,deep,p,k,v,p',k',h=>by
  rw[rdv] at h
  split at h
  ·cases h
  split at h
  ·cases h
  split at h
  ·cases h
  split at h
  ·split at h
   ·cases h;simp only[szn,szns,List.length_nil];omega
   ·cases h
  split at h
  ·split at h
   ·split at h
    ·cases h
    split at h
    ·cases h
    ·cases h
     simp only[szn,szns,List.length_take]
     omega
   ·cases h
  split at h
  ·split at h
   ·split at h
    ·cases h
    ·rename_i vs q k2 h2
     have h3:=rds_sz b c d l f _ _ _ _ _ h2
     cases h
     simp only[szns] at h3
     simp only[szn,List.length_nil]
     omega
   ·cases h
  ·cases h
theorem rds_sz(b c d:Int)(l:List Nat):∀(f n:Nat) (deep:Int) (p:Nat) (k:Int) (acc:List Nd) {v:List Nd} {p':Nat} {k':Int},rds b c d l f n deep p k acc=.good v p' k'→szns v+p≤p'+szns acc
 |0,n,deep,p,k,acc,v,p',k',h=>by rw[rds] at h;cases h
 |f+1,n,deep,p,k,acc,v,p',k',h=>by
  rw[rds] at h
  split at h
  ·cases h;omega
  ·split at h
   ·cases h
   ·rename_i v2 q k2 h2
    have h3:=rdv_sz b c d l f _ _ _ h2
    have h4:=rds_sz b c d l f _ _ _ _ _ h
    rw[szns_snoc] at h4
    omega
end
theorem rdw_sz{a b c d:Int}{l:List Nat}{v:Nd}{p:Nat}{k:Int}(h:rdw a b c d l=.good v p k):szn v≤l.length:=by
 unfold rdw at h
 split at h
 ·cases h
 ·split at h
  ·cases h
  ·rename_i v2 p2 k2 h2
   have h3:=rdv_sz b c d l _ 1 0 0 h2
   have h4:=rdv_good b c d l _ 1 0 0 (Nat.zero_le _) h2
   split at h
   ·cases h
   ·cases h;omega
theorem rdw_bad{a b c d:Int}{l:List Nat}{p e:Nat}(h:rdw a b c d l=.bad p e):e≠0:=by
 unfold rdw at h
 split at h
 ·cases h;decide
 ·split at h
  ·rename_i q en h2;have h3:=rdv_bad b c d l _ 1 0 0 h2;cases h;exact h3
  ·split at h
   ·cases h;decide
   ·cases h
end Go.Proofs.Yteblmphohhbgcaa.Wr
