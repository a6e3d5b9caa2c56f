/- Joined texts. -/
import Derived.Test.YtkahelhoaihajaaQbWrReadC
import Derived.Test.YtkahelhoaihajaaQbWrDeep
set_option linter.unusedVariables false
namespace Go.Proofs.Ytkahelhoaihajaa.Wr
open Go.RowKit Go.Proofs.Ytkahelhoaihajaa.Gn Go.Proofs.Ytkahelhoaihajaa.Fd Go.Deep
theorem be_from(l:List Nat):∀a,l.foldl (fun n x=>n*256+x) a=a*256 ^ l.length+be l:=by
 induction l with
 |nil=>intro a;simp[be]
 |cons x l ih =>
  intro a
  unfold be
  rw[List.foldl_cons,List.foldl_cons,ih,ih (0*256+x),List.length_cons,Nat.pow_succ]
  rw[show 0*256+x=x by omega,Nat.add_mul,Nat.mul_assoc,Nat.mul_comm 256,Nat.add_assoc]
theorem be_cons(x:Nat)(l:List Nat):be (x :: l)=x*256 ^ l.length+be l:=by
 have:=be_from l (0*256+x)
 unfold be
 rw[List.foldl_cons]
 rw[show 0*256+x=x by omega] at this ⊢
 exact this
theorem be_by(n:Nat):∀k,be (by_ n k).reverse=n%256 ^ k
 |0=>by simp[by_,be,Nat.mod_one]
 |k+1=>by
  rw[by_snoc,List.reverse_append,List.reverse_cons,List.reverse_nil,List.nil_append,List.singleton_append,be_cons,be_by n k,List.length_reverse,by_length,Nat.pow_succ,Nat.mod_mul]
  rw[Nat.mul_comm,Nat.add_comm]
theorem rcl_cb {n : Nat} (h : n < 18446744073709551616) (t : List Nat) : rcl (cb n ++ t) = (n, (cb n).length, 0) := by
  by_cases h1 : n < 192
  · rw [cb_low h1]; exact rcl_low h1
  · have h64 : n < 2 ^ 64 := h
    have hk := nb_le h64
    have hp := nb_pos h64 (by omega)
    rw [cb_high h1, List.cons_append]
    obtain ⟨k, hk1⟩ : ∃ k, nb n = k + 1 := ⟨nb n - 1, by omega⟩
    have hm := nb_more h64 (by omega) (i := k) (by omega)
    have he := nb_end h64
    have hy : n / 256 ^ k < 256 := by
      rw [hk1, Nat.pow_succ, ← Nat.div_div_eq_div_mul] at he
      rcases Nat.lt_or_ge (n / 256 ^ k) 256 with h | h
      · exact h
      · have := Nat.div_pos h (by decide : 0 < 256); omega
    have hb := be_by n (k + 1)
    rw [hk1] at he
    rw [Nat.mod_eq_of_lt (by rcases Nat.lt_or_ge n (256 ^ (k + 1)) with h | h; · exact h
                             · have := Nat.div_pos h (Nat.pow_pos (by decide : 0 < 256)); omega)] at hb
    rw [hk1, by_snoc, List.reverse_append, List.reverse_cons, List.reverse_nil, List.nil_append, List.singleton_append, Nat.mod_eq_of_lt hy, List.cons_append]
    rw [by_snoc, List.reverse_append, List.reverse_cons, List.reverse_nil, List.nil_append, List.singleton_append, Nat.mod_eq_of_lt hy] at hb
    rw [rcl_good (by omega) (by omega) ?_ ?_]
    · rw [show 191 + (k + 1) - 191 = k + 1 by omega, List.take_succ_cons, List.take_append_of_le_length (by rw [List.length_reverse, by_length]; exact Nat.le_refl _), List.take_of_length_le (by rw [List.length_reverse, by_length]; exact Nat.le_refl _), hb]
      rw [show 191 + (k + 1) - 190 = k + 2 by omega, List.length_cons, List.length_cons, List.length_reverse, by_length]
    · rintro (h | ⟨h, h2⟩)
      · omega
      · have : k = 0 := by omega
        subst this
        simp at h2
        omega
    · rw [List.length_append, List.length_reverse, by_length]; omega
theorem wf_i64{x:Int}(h:(Lit.int .i64 x).wf) : -9223372036854775808≤x∧x≤9223372036854775807:=by
 simpa[Lit.wf,IntKind.min,IntKind.max,IntKind.signed,IntKind.bits] using h
theorem wf_u64{x:Int}(h:(Lit.int .u64 x).wf):0≤x∧x≤18446744073709551615:=by
 simpa[Lit.wf,IntKind.min,IntKind.max,IntKind.signed,IntKind.bits] using h
theorem bl_pc{w:World}{A:Option Addr}{n c:Nat}{l:List Nat}(h:BL w A n c l):Pc w (A,n,c,l):=by
 obtain⟨h1,h2,h3,h4,h5⟩:=h
 have e:l.length=n:=by have:=h1.1;rwa [bl_length] at this
 exact⟨e.symm,by rw[show((A,n,c,l):Rw).2.2.2.length=n from e];exact h1,h3,by rw[show((A,n,c,l):Rw).2.2.2.length=n from e];exact h5,h4⟩
end Go.Proofs.Ytkahelhoaihajaa.Wr
namespace Go.Proofs.Ytkahelhoaihajaa.Wr
open Go.RowKit Go.Proofs.Ytkahelhoaihajaa.Gn Go.Proofs.Ytkahelhoaihajaa.Fd Go.Deep
set_option maxHeartbeats 4000000 in
set_option maxRecDepth 100000 in
theorem longb_any(A:Option Addr)(n c:Nat)(w:World):Calls Try.prog 18 #[.slice A n c] w fun e w'=>e=.returned (.bool (decide (2000 < (n:Int))))∧w=w':=by
 go_enter Try.func18,Try.ntmps18
 go_wp2_with fail
 go_ret
 exact⟨rfl,rfl⟩
theorem szns_snoc(l:List Nd)(t:Nd):szns (l ++ [t])=szns l+szn t:=by rw[szns_append];simp[szns]
mutual
theorem rdv_sz(b c d:Int)(l:List Nat):∀(f:Nat) (deep:Int) (p:Nat) (k:Int) {v:Nd} {p':Nat} {k':Int},rdv b c d l f deep p k=.good v p' k'→szn v+p≤p'
 |0,deep,p,k,v,p',k',h=>by rw[rdv] at h;cases h
 |f+1,deep,p,k,v,p',k',h=>by
  rw[rdv] at h
  split at h
  ·cases h
  split at h
  ·cases h
  split at h
  ·cases h
  split at h
  ·split at h
   ·cases h;simp only[szn,szns,List.length_nil];omega
   ·cases h
  split at h
  ·split at h
   ·split at h
    ·cases h
    split at h
    ·cases h
    ·cases h
     simp only[szn,szns,List.length_take]
     omega
   ·cases h
  split at h
  ·split at h
   ·split at h
    ·cases h
    ·rename_i vs q k2 h2
     have h3:=rds_sz b c d l f _ _ _ _ _ h2
     cases h
     simp only[szns] at h3
     simp only[szn,List.length_nil]
     omega
   ·cases h
  ·cases h
theorem rds_sz(b c d:Int)(l:List Nat):∀(f n:Nat) (deep:Int) (p:Nat) (k:Int) (acc:List Nd) {v:List Nd} {p':Nat} {k':Int},rds b c d l f n deep p k acc=.good v p' k'→szns v+p≤p'+szns acc
 |0,n,deep,p,k,acc,v,p',k',h=>by rw[rds] at h;cases h
 |f+1,n,deep,p,k,acc,v,p',k',h=>by
  rw[rds] at h
  split at h
  ·cases h;omega
  ·split at h
   ·cases h
   ·rename_i v2 q k2 h2
    have h3:=rdv_sz b c d l f _ _ _ h2
    have h4:=rds_sz b c d l f _ _ _ _ _ h
    rw[szns_snoc] at h4
    omega
end
theorem rdw_sz{a b c d:Int}{l:List Nat}{v:Nd}{p:Nat}{k:Int}(h:rdw a b c d l=.good v p k):szn v≤l.length:=by
 unfold rdw at h
 split at h
 ·cases h
 ·split at h
  ·cases h
  ·rename_i v2 p2 k2 h2
   have h3:=rdv_sz b c d l _ 1 0 0 h2
   have h4:=rdv_good b c d l _ 1 0 0 (Nat.zero_le _) h2
   split at h
   ·cases h
   ·cases h;omega
theorem rdw_bad{a b c d:Int}{l:List Nat}{p e:Nat}(h:rdw a b c d l=.bad p e):e≠0:=by
 unfold rdw at h
 split at h
 ·cases h;decide
 ·split at h
  ·rename_i q en h2;have h3:=rdv_bad b c d l _ 1 0 0 h2;cases h;exact h3
  ·split at h
   ·cases h;decide
   ·cases h
end Go.Proofs.Ytkahelhoaihajaa.Wr
