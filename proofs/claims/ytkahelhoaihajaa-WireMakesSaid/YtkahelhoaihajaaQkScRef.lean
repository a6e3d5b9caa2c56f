/- Joined texts. -/
import Derived.Test.YtkahelhoaihajaaQkScPure
set_option linter.unusedVariables false
namespace Go.Proofs.Ytkahelhoaihajaa.Sc
open Go.RowKit
set_option maxHeartbeats 400000 in
theorem parts_any(b:Nat)(w:World)(hb:b < 18446744073709551616) :
  Calls Try.prog 95 #[.float .f64 b] w fun e w'=>e=.returned (.tuple #[.bool (pb b),.int .u64 ((pe b:Nat):Int),.int .u64 ((pf b:Nat):Int)])∧w=w':=by
 have hfb:=run_f64bits
 have HB:=Lib.hid hb
 clear hb
 go_enter Try.func95,Try.ntmps95
 go_wp2
 go_ret3
 have hb:=HB.out
 have e1:(IntKind.u64.wrap ((b:Int) / 9223372036854775808) == 1)=pb b:=by
  rw[IntKind.wrap_u64,Bool.eq_iff_iff,beq_iff_eq];unfold pb;rw[decide_eq_true_eq];omega
 have e2:(IntKind.u64.wrap ((b:Int) / 4503599627370496)).tmod 2048=((pe b:Nat):Int):=by
  rw[IntKind.wrap_u64,Int.tmod_eq_emod_of_nonneg (by omega)];unfold pe;omega
 have e3:(b:Int)%4503599627370496=((pf b:Nat):Int):=by unfold pf;omega
 rw[e1,e2,e3]
 exact⟨rfl,rfl⟩
set_option maxHeartbeats 400000 in
theorem rclass_any(b:Nat)(w:World)(hb:b < 18446744073709551616) :
  Calls Try.prog 91 #[.float .f64 b] w fun e w'=>e=.returned (.int .i64 (cls b))∧w=w':=by
 have HB:=Lib.hid hb
 clear hb
 go_enter Try.func91,Try.ntmps91
 go_wp2_with (go_at_call 95;refine(parts_any _ _ HB.out).mono ?_;rintro e w' ⟨rfl,rfl⟩)
 all_goals(go_ret;refine⟨ret_int ?_,rfl⟩;rw[cls_ref b HB.out])
 all_goals repeat' split
 all_goals first|rfl|omega|(exfalso;simp_all)
set_option maxHeartbeats 400000 in
theorem rvalid_any(b:Nat)(w:World)(hb:b < 18446744073709551616) :
  Calls Try.prog 83 #[.float .f64 b] w fun e w'=>e=.returned (.bool (valid b))∧w=w':=by
 have HB:=Lib.hid hb
 clear hb
 go_enter Try.func83,Try.ntmps83
 go_wp2_with (go_at_call 91;refine(rclass_any _ _ HB.out).mono ?_;rintro e w' ⟨rfl,rfl⟩)
 all_goals(go_ret;refine⟨ret_bool ?_,rfl⟩;unfold valid;rw[Bool.eq_iff_iff];simp[*])
end Go.Proofs.Ytkahelhoaihajaa.Sc
