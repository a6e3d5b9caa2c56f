/- Joined texts. -/
import Derived.Deep.Cut
import Derived.IntWalk
import Derived.Test.YtheeboehkappiaaQdGnStep
import Derived.Test.YtheeboehkappiaaQdMkSeq
set_option linter.unusedVariables false
namespace Go.Proofs.Ytheeboehkappiaa.Dk
open Go.RowKit Go.Proofs.Ytheeboehkappiaa.Gn Go.Proofs.Ytheeboehkappiaa.Fd Go.Deep
set_option maxRecDepth 100000 in
theorem none_nil(w:World):Calls Try.prog 26 #[.pointer none] w fun e w'=>e=.returned (.bool true)∧w=w':=by
 go_enter Try.func26,Try.ntmps26
 go_wp2_with fail
 go_ret
 exact⟨rfl,rfl⟩
set_option maxRecDepth 100000 in
theorem ready_nil(w:World):Calls Try.prog 22 #[.pointer none] w fun e w'=>e=.returned (.int .i64 3)∧w=w':=by
 go_enter Try.func22,Try.ntmps22
 go_wp2_with (first|(go_at_call 26;(with_reducible refine(none_nil _).mono ?_);rintro e w1 ⟨rfl,rfl⟩))
 go_ret
 exact⟨rfl,rfl⟩
set_option maxRecDepth 100000 in
theorem size_nil(w:World):Calls Try.prog 8 #[.pointer none] w fun e w'=>e=.returned (.int .i64 0)∧w=w':=by
 go_enter Try.func8,Try.ntmps8
 go_wp2_with (first|(go_at_call 26;(with_reducible refine(none_nil _).mono ?_);rintro e w1 ⟨rfl,rfl⟩))
 go_ret
 exact⟨rfl,rfl⟩
set_option maxRecDepth 100000 in
theorem up_nil(w:World):Calls Try.prog 9 #[.pointer none] w fun e w'=>e=.returned (.bool false)∧w=w':=by
 go_enter Try.func9,Try.ntmps9
 go_wp2_with (first|(go_at_call 26;(with_reducible refine(none_nil _).mono ?_);rintro e w1 ⟨rfl,rfl⟩))
 go_ret
 exact⟨rfl,rfl⟩
set_option maxRecDepth 100000 in
theorem strokes_nil(w:World):Calls Try.prog 10 #[.pointer none] w fun e w'=>e=.returned (.int .i64 0)∧w=w':=by
 go_enter Try.func10,Try.ntmps10
 go_wp2_with (first|(go_at_call 26;(with_reducible refine(none_nil _).mono ?_);rintro e w1 ⟨rfl,rfl⟩))
 go_ret
 exact⟨rfl,rfl⟩
set_option maxRecDepth 100000 in
theorem held_nil(w:World):Calls Try.prog 11 #[.pointer none] w fun e w'=>e=.returned (.int .i64 0)∧w=w':=by
 go_enter Try.func11,Try.ntmps11
 go_wp2_with (first|(go_at_call 26;(with_reducible refine(none_nil _).mono ?_);rintro e w1 ⟨rfl,rfl⟩))
 go_ret
 exact⟨rfl,rfl⟩
set_option maxRecDepth 100000 in
theorem bytes_nil(w:World):Calls Try.prog 15 #[.pointer none] w fun e w'=>e=.returned (.slice none 0 0)∧w=w':=by
 go_enter Try.func15,Try.ntmps15
 go_wp2_with (first|(go_at_call 26;(with_reducible refine(none_nil _).mono ?_);rintro e w1 ⟨rfl,rfl⟩))
 go_ret
 exact⟨rfl,rfl⟩
set_option maxRecDepth 100000 in
theorem copy_nil(w:World):Calls Try.prog 16 #[.pointer none] w fun e w'=>e=.returned (.pointer none)∧w=w':=by
 go_enter Try.func16,Try.ntmps16
 go_wp2_with (first|(go_at_call 26;(with_reducible refine(none_nil _).mono ?_);rintro e w1 ⟨rfl,rfl⟩))
 go_ret
 exact⟨rfl,rfl⟩
set_option maxRecDepth 100000 in
theorem reach_nil(at_:Int)(w:World):Calls Try.prog 19 #[.pointer none,.int .i64 at_] w fun e w'=>e=.returned (.int .i64 3)∧w=w':=by
 go_enter Try.func19,Try.ntmps19
 go_wp2_with (first|(go_at_call 22;(with_reducible refine(ready_nil _).mono ?_);rintro e w1 ⟨rfl,rfl⟩))
 go_ret
 exact⟨rfl,rfl⟩
set_option maxRecDepth 100000 in
theorem read_nil(at_:Int)(w:World):Calls Try.prog 4 #[.pointer none,.int .i64 at_] w fun e w'=>e=.returned (.tuple #[.slice none 0 0,.int .i64 3])∧w=w':=by
 go_enter Try.func4,Try.ntmps4
 go_wp2_with (first|(go_at_call 19;(with_reducible refine(reach_nil _ _).mono ?_);rintro e w1 ⟨rfl,rfl⟩))
 go_ret2
 exact⟨rfl,rfl⟩
set_option maxRecDepth 100000 in
theorem write_nil(at_:Int)(A:Option Addr)(m c:Nat)(w:World):Calls Try.prog 12 #[.pointer none,.int .i64 at_,.slice A m c] w fun e w'=>e=.returned (.int .i64 3)∧w=w':=by
 go_enter Try.func12,Try.ntmps12
 go_wp2_with (first|(go_at_call 19;(with_reducible refine(reach_nil _ _).mono ?_);rintro e w1 ⟨rfl,rfl⟩))
 go_ret
 exact⟨rfl,rfl⟩
set_option maxRecDepth 100000 in
theorem flush_nil(w:World):Calls Try.prog 13 #[.pointer none] w fun e w'=>e=.returned (.int .i64 3)∧w=w':=by
 go_enter Try.func13,Try.ntmps13
 go_wp2_with (first|(go_at_call 22;(with_reducible refine(ready_nil _).mono ?_);rintro e w1 ⟨rfl,rfl⟩))
 go_ret
 exact⟨rfl,rfl⟩
set_option maxRecDepth 100000 in
theorem set_nil(n:Int)(A:Option Addr)(m c:Nat)(w:World):Calls Try.prog 14 #[.pointer none,.int .i64 n,.slice A m c] w fun e w'=>e=.returned (.int .i64 3)∧w=w':=by
 go_enter Try.func14,Try.ntmps14
 go_wp2_with (first|(go_at_call 26;(with_reducible refine(none_nil _).mono ?_);rintro e w1 ⟨rfl,rfl⟩))
 go_ret
 exact⟨rfl,rfl⟩
set_option maxRecDepth 100000 in
theorem load_nil(at_ n:Int)(w:World):Calls Try.prog 5 #[.pointer none,.int .i64 at_,.int .i64 n] w fun e w'=>e=.returned (.tuple #[.slice none 0 0,.int .i64 3])∧w=w':=by
 go_enter Try.func5,Try.ntmps5
 go_wp2_with (first|(go_at_call 22;(with_reducible refine(ready_nil _).mono ?_);rintro e w1 ⟨rfl,rfl⟩))
 go_ret2
 exact⟨rfl,rfl⟩
set_option maxRecDepth 100000 in
theorem save_nil(at_:Int)(A:Option Addr)(m c:Nat)(w:World):Calls Try.prog 17 #[.pointer none,.int .i64 at_,.slice A m c] w fun e w'=>e=.returned (.int .i64 3)∧w=w':=by
 go_enter Try.func17,Try.ntmps17
 go_wp2_with (first|(go_at_call 22;(with_reducible refine(ready_nil _).mono ?_);rintro e w1 ⟨rfl,rfl⟩))
 go_ret
 exact⟨rfl,rfl⟩
set_option maxRecDepth 100000 in
theorem start_nil(w:World):Calls Try.prog 7 #[.pointer none] w fun e w'=>(∃v,e=.returned v)∧w=w':=by
 go_enter Try.func7,Try.ntmps7
 go_wp2_with (first|(go_at_call 26;(with_reducible refine(none_nil _).mono ?_);rintro e w1 ⟨rfl,rfl⟩))
 refine bodyPost_ret (results_none rfl _ _ _) rfl ?_
 exact⟨⟨_,rfl⟩,rfl⟩
set_option maxRecDepth 100000 in
theorem lose_nil(w:World):Calls Try.prog 6 #[.pointer none,.slice none 0 0] w fun e w'=>(∃v,e=.returned v)∧Below w.heap.size w w':=by
 go_enter Try.func6,Try.ntmps6
 go_wp2_with (go_at_call 9;(with_reducible refine(up_nil _).mono ?_);rintro e w1 ⟨rfl,rfl⟩)
 refine bodyPost_ret (results_none rfl _ _ _) rfl ?_
 exact⟨⟨_,rfl⟩,(Below.refl _ _).alloc (Nat.le_refl _) _⟩
end Go.Proofs.Ytheeboehkappiaa.Dk
