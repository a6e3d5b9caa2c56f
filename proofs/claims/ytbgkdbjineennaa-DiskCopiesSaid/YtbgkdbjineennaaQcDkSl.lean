/- Joined texts. -/
import Derived.Test.YtbgkdbjineennaaQcDkSk
set_option linter.unusedVariables false
namespace Go.Proofs.Ytbgkdbjineennaa.Dk
open Go.IntWalk Go.RowKit Go.Proofs.Ytbgkdbjineennaa.Gn Go.Proofs.Ytbgkdbjineennaa.Fd Go.Deep
section
variable {w:World} {base g gb:Nat} {H:Value} {cs:Bool} {cw:Int} {ch:Value} {m:M}
set_option maxRecDepth 100000 in
theorem Read_bad(D:Dd w base g gb H cs cw ch m)(a:Int)(h0:m.reach a≠0):Calls Try.prog 24 #[.pointer (some ⟨g,0,none⟩),.int .i64 a] w fun e w'=>e=.returned (.tuple #[.slice none 0 0,.int .i64 (m.reach a:Int)])∧w=w':=by
 have C:=reach_dd D a
 clear D
 rcases(reach_err m a).resolve_left h0 with h|h
 all_goals
  rw[h] at C ⊢
  have C:=Lib.hid C
  clear h h0
  go_enter Try.func24,Try.ntmps24
  go_wp2_with (go_at_call 37;(with_reducible refine C.out.mono ?_);rintro e w1 ⟨rfl,rfl⟩)
  go_ret2
  exact⟨rfl,rfl⟩
set_option maxRecDepth 100000 in
set_option maxHeartbeats 4000000 in
theorem span_dd(D:Dd w base g gb H cs cw ch m)(a:Int)(n:Nat)(hn:n < 9223372036854775808):Calls Try.prog 38 #[.pointer (some ⟨g,0,none⟩),.int .i64 a,.int .i64 (n:Int)] w fun e w'=>e=.returned (.int .i64 (m.span a n:Int))∧w=w':=by
 have C:=Lib.hid (size_dd D)
 have h9:=D.n9
 unfold M.span
 obtain⟨s,hs⟩:∃s,m.ss.length=s:=⟨_,rfl⟩
 rw[hs] at C h9 ⊢
 clear D hs
 by_cases h0:a < 0
 ·rw[if_pos (.inl h0)]
  go_enter Try.func38,Try.ntmps38
  go_wp2_with (go_at_call 20;(with_reducible refine C.out.mono ?_);rintro e w1 ⟨rfl,rfl⟩)
  go_ret
  exact⟨rfl,rfl⟩
 ·by_cases h1:(s:Int) < a
  ·rw[if_pos (.inr h1)]
   go_enter Try.func38,Try.ntmps38
   go_wp2_with (go_at_call 20;(with_reducible refine C.out.mono ?_);rintro e w1 ⟨rfl,rfl⟩)
   go_ret
   exact⟨rfl,rfl⟩
  ·rw[if_neg (by omega)]
   obtain⟨p,rfl⟩:∃p:Nat,a=(p:Int):=⟨a.toNat,by omega⟩
   obtain⟨q,hq⟩:∃q,q=n / 64:=⟨_,rfl⟩
   obtain⟨r,hr⟩:∃r,r=n%64:=⟨_,rfl⟩
   have e1:(n:Int) / 64=(q:Int):=by omega
   have e2:(n:Int)%64=(r:Int):=by omega
   have e3:Int.tdiv (n:Int) 64=(q:Int):=by rw[Int.tdiv_eq_ediv_of_nonneg (by omega)];exact e1
   have e4:Int.tmod (n:Int) 64=(r:Int):=by rw[Int.tmod_eq_emod_of_nonneg (by omega)];exact e2
   by_cases hr0:r=0
   ·have t0:((r:Int) == 0)=true:=by rw[hr0];rfl
    by_cases h2:((s:Int) - (p:Int))*64 < (n:Int)
    ·rw[if_pos h2]
     have t1:(s:Int) - (p:Int) < (q:Int):=by omega
     clear hq hr h2
     go_enter Try.func38,Try.ntmps38
     go_wp2_with (go_at_call 20;(with_reducible refine C.out.mono ?_);rintro e w1 ⟨rfl,rfl⟩)
     go_ret
     exact⟨rfl,rfl⟩
    ·rw[if_neg h2]
     have t1:¬(s:Int) - (p:Int) < (q:Int):=by omega
     clear hq hr h2
     go_enter Try.func38,Try.ntmps38
     go_wp2_with (go_at_call 20;(with_reducible refine C.out.mono ?_);rintro e w1 ⟨rfl,rfl⟩)
     go_ret
     exact⟨rfl,rfl⟩
   ·have t0:((r:Int) == 0)=false:=by rw[beq_eq_false_iff_ne];omega
    by_cases h2:((s:Int) - (p:Int))*64 < (n:Int)
    ·rw[if_pos h2]
     have t1:(s:Int) - (p:Int) < (q:Int)+1:=by omega
     clear hq hr h2
     go_enter Try.func38,Try.ntmps38
     go_wp2_with (go_at_call 20;(with_reducible refine C.out.mono ?_);rintro e w1 ⟨rfl,rfl⟩)
     go_ret
     exact⟨rfl,rfl⟩
    ·rw[if_neg h2]
     have t1:¬(s:Int) - (p:Int) < (q:Int)+1:=by omega
     clear hq hr h2
     go_enter Try.func38,Try.ntmps38
     go_wp2_with (go_at_call 20;(with_reducible refine C.out.mono ?_);rintro e w1 ⟨rfl,rfl⟩)
     go_ret
     exact⟨rfl,rfl⟩
end
end Go.Proofs.Ytbgkdbjineennaa.Dk
