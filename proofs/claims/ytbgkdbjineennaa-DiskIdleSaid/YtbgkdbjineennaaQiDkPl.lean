/- Joined texts. -/
import Derived.Test.YtbgkdbjineennaaQiDkP
set_option linter.unusedVariables false
namespace Go.Proofs.Ytbgkdbjineennaa.Dk
theorem reach_in{m:M}(hu:m.up=true){p:Nat}(hp:p < m.ss.length):m.reach (p:Int)=0:=by
 unfold M.reach
 rw[if_pos hu,if_neg (by omega)]
theorem span_in{m:M}{a n:Int}(h0:0≤a)(h1:a≤m.ss.length)(h2:n≤((m.ss.length:Int) - a)*64):m.span a n=0:=by
 unfold M.span
 rw[if_neg (by omega),if_neg (by omega)]
theorem stroke_err(m:M):m.stroke.1=0∨m.stroke.1=60:=by
 unfold M.stroke
 split <;> simp
theorem stroke_up{m:M}(h:m.stroke.1=0):m.stroke.2.up=m.up:=by
 unfold M.stroke at h ⊢
 split
 ·rfl
 ·rfl
 ·rename_i e;rw[e] at h;cases h
theorem write_idle(m:M)(a:Int)(b:List Nat)(h:(m.write a b).1≠0):((m.write a b).1=60∧m.up=true)∨(m.write a b).2=m:=by
 unfold M.write at h ⊢
 split
 ·rename_i hr
  rw[if_pos hr] at h
  split
  ·rename_i hb
   rw[if_pos hb] at h
   rcases stroke_err (m.hold a.toNat b) with e|e
   ·exact(h e).elim
   ·exact .inl ⟨e,(M.reach_ok hr).1⟩
  ·exact .inr rfl
 ·exact .inr rfl
theorem write_in{m:M}(hu:m.up=true){p:Nat}(hp:p < m.ss.length){b:List Nat}(hb:b.length=64):m.write p b=(m.hold p b).stroke:=by
 unfold M.write
 rw[if_pos (reach_in hu hp),if_pos hb,Int.toNat_natCast]
theorem saves_err(f:Nat):∀(m:M) (p:Nat) (b:List Nat),m.up=true→64*p+b.length≤64*m.ss.length→(M.saves f m p b).1=0∨(M.saves f m p b).1=60:=by
 induction f with
 |zero=>intro m p b hu hs;exact .inl rfl
 |succ f ih =>
  intro m p b hu hs
  rw[M.saves]
  by_cases hb:b=[]
  ·rw[if_pos hb];exact .inl rfl
  ·have hl:0 < b.length:=List.length_pos_iff.2 hb
   rw[if_neg hb]
   have hw:=write_in hu (p:=p) (by omega) (pad_length b)
   split
   ·rename_i h0
    refine ih _ _ _ ?_ ?_
    ·rw[hw] at h0 ⊢;rw[stroke_up h0];exact hu
    ·rw[M.write_size,List.length_drop];omega
   ·rw[hw];exact stroke_err _
theorem save_idle(m:M)(a:Int)(b:List Nat)(h:(m.save a b).1≠0):((m.save a b).1=60∧m.up=true)∨(m.save a b).2=m:=by
 unfold M.save at h ⊢
 split
 ·rename_i hu
  rw[if_pos hu] at h
  split
  ·rename_i hs
   rw[if_pos hs] at h
   have hr:0≤a∧a≤m.ss.length∧64*a.toNat+b.length≤64*m.ss.length:=by
    unfold M.span at hs
    split at hs
    ·cases hs
    ·split at hs
     ·cases hs
     ·omega
   rcases saves_err (b.length+1) m a.toNat b hu hr.2.2 with e|e
   ·exact(h e).elim
   ·exact .inl ⟨e,hu⟩
  ·exact .inr rfl
 ·exact .inr rfl
theorem set_idle(m:M)(k:Int)(c:List Bool)(h:(m.set k c).1≠0):(m.set k c).2=m:=by
 unfold M.set at h ⊢
 split
 ·rfl
 ·rename_i h1
  rw[if_neg h1] at h
  split
  ·rfl
  ·rename_i h2
   rw[if_neg h2] at h
   exact(h rfl).elim
end Go.Proofs.Ytbgkdbjineennaa.Dk
