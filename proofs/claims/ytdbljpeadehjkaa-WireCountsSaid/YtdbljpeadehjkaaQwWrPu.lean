/- Joined texts. -/
import Derived.Test.YtdbljpeadehjkaaQwWrReadC
set_option linter.unusedVariables false
namespace Go.Proofs.Ytdbljpeadehjkaa.Wr
open Go.RowKit Go.Proofs.Ytdbljpeadehjkaa.Gn Go.Proofs.Ytdbljpeadehjkaa.Fd Go.Deep
theorem be_from(l:List Nat):∀a,l.foldl (fun n x=>n*256+x) a=a*256 ^ l.length+be l:=by
 induction l with
 |nil=>intro a;simp[be]
 |cons x l ih =>
  intro a
  unfold be
  rw[List.foldl_cons,List.foldl_cons,ih,ih (0*256+x),List.length_cons,Nat.pow_succ]
  rw[show 0*256+x=x by omega,Nat.add_mul,Nat.mul_assoc,Nat.mul_comm 256,Nat.add_assoc]
theorem be_cons(x:Nat)(l:List Nat):be (x :: l)=x*256 ^ l.length+be l:=by
 have:=be_from l (0*256+x)
 unfold be
 rw[List.foldl_cons]
 rw[show 0*256+x=x by omega] at this ⊢
 exact this
theorem be_by(n:Nat):∀k,be (by_ n k).reverse=n%256 ^ k
 |0=>by simp[by_,be,Nat.mod_one]
 |k+1=>by
  rw[by_snoc,List.reverse_append,List.reverse_cons,List.reverse_nil,List.nil_append,List.singleton_append,be_cons,be_by n k,List.length_reverse,by_length,Nat.pow_succ,Nat.mod_mul]
  rw[Nat.mul_comm,Nat.add_comm]
theorem rcl_cb {n : Nat} (h : n < 18446744073709551616) (t : List Nat) : rcl (cb n ++ t) = (n, (cb n).length, 0) := by
  by_cases h1 : n < 192
  · rw [cb_low h1]; exact rcl_low h1
  · have h64 : n < 2 ^ 64 := h
    have hk := nb_le h64
    have hp := nb_pos h64 (by omega)
    rw [cb_high h1, List.cons_append]
    obtain ⟨k, hk1⟩ : ∃ k, nb n = k + 1 := ⟨nb n - 1, by omega⟩
    have hm := nb_more h64 (by omega) (i := k) (by omega)
    have he := nb_end h64
    have hy : n / 256 ^ k < 256 := by
      rw [hk1, Nat.pow_succ, ← Nat.div_div_eq_div_mul] at he
      rcases Nat.lt_or_ge (n / 256 ^ k) 256 with h | h
      · exact h
      · have := Nat.div_pos h (by decide : 0 < 256); omega
    have hb := be_by n (k + 1)
    rw [hk1] at he
    rw [Nat.mod_eq_of_lt (by rcases Nat.lt_or_ge n (256 ^ (k + 1)) with h | h; · exact h
                             · have := Nat.div_pos h (Nat.pow_pos (by decide : 0 < 256)); omega)] at hb
    rw [hk1, by_snoc, List.reverse_append, List.reverse_cons, List.reverse_nil, List.nil_append, List.singleton_append, Nat.mod_eq_of_lt hy, List.cons_append]
    rw [by_snoc, List.reverse_append, List.reverse_cons, List.reverse_nil, List.nil_append, List.singleton_append, Nat.mod_eq_of_lt hy] at hb
    rw [rcl_good (by omega) (by omega) ?_ ?_]
    · rw [show 191 + (k + 1) - 191 = k + 1 by omega, List.take_succ_cons, List.take_append_of_le_length (by rw [List.length_reverse, by_length]; exact Nat.le_refl _), List.take_of_length_le (by rw [List.length_reverse, by_length]; exact Nat.le_refl _), hb]
      rw [show 191 + (k + 1) - 190 = k + 2 by omega, List.length_cons, List.length_cons, List.length_reverse, by_length]
    · rintro (h | ⟨h, h2⟩)
      · omega
      · have : k = 0 := by omega
        subst this
        simp at h2
        omega
    · rw [List.length_append, List.length_reverse, by_length]; omega
theorem wf_u64{x:Int}(h:(Lit.int .u64 x).wf):0≤x∧x≤18446744073709551615:=by
 simpa[Lit.wf,IntKind.min,IntKind.max,IntKind.signed,IntKind.bits] using h
theorem bl_pc{w:World}{A:Option Addr}{n c:Nat}{l:List Nat}(h:BL w A n c l):Pc w (A,n,c,l):=by
 obtain⟨h1,h2,h3,h4,h5⟩:=h
 have e:l.length=n:=by have:=h1.1;rwa [bl_length] at this
 exact⟨e.symm,by rw[show((A,n,c,l):Rw).2.2.2.length=n from e];exact h1,h3,by rw[show((A,n,c,l):Rw).2.2.2.length=n from e];exact h5,h4⟩
end Go.Proofs.Ytdbljpeadehjkaa.Wr
