/- Joined texts. -/
import Derived.WalkKit
import Derived.WalkSpells
import Derived.WalkLawsBesides
import Derived.Lib.Hide
import Derived.Test.YtkahelhoaihajaaProg
import Derived.Test.YtkahelhoaihajaaQkScPlain
set_option linter.unusedVariables false
namespace Go.Proofs.Ytkahelhoaihajaa.Sc
open Go.RowKit
theorem run_f64bits(b:Nat)(w:World):(callFunc 72 #[.float .f64 b]).run Try.prog w=.ok (.value (.int .u64 b)) w:=rfl
theorem ret_int{k:IntKind}{a b:Int}(h:a=b):Ending.returned (.int k a)=.returned (.int k b):=by rw[h]
theorem ret_bool{a b:Bool}(h:a=b):Ending.returned (.bool a)=.returned (.bool b):=by rw[h]
set_option maxHeartbeats 400000 in
theorem class_any(b:Nat)(w:World)(hb:b < 18446744073709551616) :
  Calls Try.prog 90 #[.float .f64 b] w fun e w'=>e=.returned (.int .i64 (cls b))∧w=w':=by
 have hfb:=run_f64bits
 have h1:=bits_and_exp b hb
 have h2:=bits_andNot_sign b hb
 go_enter Try.func90,Try.ntmps90
 go_wp2
 all_goals(go_ret;refine⟨ret_int ?_,rfl⟩;clear hfb h1 h2;simp at *;unfold cls)
 all_goals repeat' split
 all_goals first|rfl|omega
set_option maxHeartbeats 400000 in
theorem valid_any(b:Nat)(w:World)(hb:b < 18446744073709551616) :
  Calls Try.prog 82 #[.float .f64 b] w fun e w'=>e=.returned (.bool (valid b))∧w=w':=by
 have HB:=Lib.hid hb
 clear hb
 go_enter Try.func82,Try.ntmps82
 go_wp2_with (go_at_call 90;refine(class_any _ _ HB.out).mono ?_;rintro e w' ⟨rfl,rfl⟩)
 all_goals(go_ret;refine⟨ret_bool ?_,rfl⟩;simp at *;unfold valid;simp;omega)
end Go.Proofs.Ytkahelhoaihajaa.Sc
