/- Joined texts. -/
import Derived.Test.YtheeboehkappiaaQdDkK
set_option linter.unusedVariables false
namespace Go.Proofs.Ytheeboehkappiaa.Dk
open Go.IntWalk Go.RowKit Go.Proofs.Ytheeboehkappiaa.Gn Go.Proofs.Ytheeboehkappiaa.Fd Go.Deep
set_option maxRecDepth 100000 in
set_option maxHeartbeats 4000000 in
theorem nil_law(at_ n:Int)(A:Option Addr)(m c:Nat)(w:World):Calls Try.prog 3 #[.int .i64 at_,.int .i64 n,.slice A m c] w fun e w'=>e=.returned (.bool true)∧Below w.heap.size w w':=by
 go_enter Try.func3,Try.ntmps3
 go_upto_region 5 with(first|(go_at_call 4;(with_reducible refine(read_nil _ _).mono ?_);rintro e w1 ⟨rfl,rfl⟩)|(go_at_call 5;(with_reducible refine(load_nil _ _ _).mono ?_);rintro e w1 ⟨rfl,rfl⟩)|(go_at_call 6;(with_reducible refine(lose_nil _).mono ?_);rintro e w1 ⟨⟨v,rfl⟩,b1⟩;have L1:=Lib.hid b1;clear b1))
 go_wp2_with (first
  |(go_at_call 7;(with_reducible refine(start_nil _).mono ?_);rintro e w2 ⟨⟨v2,rfl⟩,rfl⟩)
  |(go_at_call 8;(with_reducible refine(size_nil _).mono ?_);rintro e w2 ⟨rfl,rfl⟩)
  |(go_at_call 9;(with_reducible refine(up_nil _).mono ?_);rintro e w2 ⟨rfl,rfl⟩)
  |(go_at_call 10;(with_reducible refine(strokes_nil _).mono ?_);rintro e w2 ⟨rfl,rfl⟩)
  |(go_at_call 11;(with_reducible refine(held_nil _).mono ?_);rintro e w2 ⟨rfl,rfl⟩)
  |(go_at_call 12;(with_reducible refine(write_nil _ _ _ _ _).mono ?_);rintro e w2 ⟨rfl,rfl⟩)
  |(go_at_call 13;(with_reducible refine(flush_nil _).mono ?_);rintro e w2 ⟨rfl,rfl⟩)
  |(go_at_call 14;(with_reducible refine(set_nil _ _ _ _ _).mono ?_);rintro e w2 ⟨rfl,rfl⟩)
  |(go_at_call 15;(with_reducible refine(bytes_nil _).mono ?_);rintro e w2 ⟨rfl,rfl⟩)
  |(go_at_call 16;(with_reducible refine(copy_nil _).mono ?_);rintro e w2 ⟨rfl,rfl⟩)
  |(go_at_call 17;(with_reducible refine(save_nil _ _ _ _ _).mono ?_);rintro e w2 ⟨rfl,rfl⟩)
  |(go_at_call 18;(with_reducible refine(known_any _).mono ?_);rintro e w3 ⟨rfl,b3⟩;have L3:=Lib.hid b3;clear b3))
 go_ret
 exact⟨rfl,L1.out.trans (L3.out.mono L1.out.size)⟩
theorem walk_diskNil{w:World}(a0:Int)(w0:(Lit.int .i64 a0).wf)(a1:Int)(w1:(Lit.int .i64 a1).wf)(A:Option Addr)(n c:Nat)(l:List Nat)(hl:BL w A n c l) :
  Calls Try.prog 3 #[.int .i64 a0,.int .i64 a1,.slice A n c] w fun e w'=>e=.returned (.bool true)∧Below w.heap.size w w':=nil_law a0 a1 A n c w
end Go.Proofs.Ytheeboehkappiaa.Dk
