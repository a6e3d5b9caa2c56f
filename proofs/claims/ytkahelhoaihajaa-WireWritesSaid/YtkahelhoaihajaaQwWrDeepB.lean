/- Joined texts. -/
import Derived.Deep.LoopGhost
import Derived.Test.YtkahelhoaihajaaQwWrKnown
set_option linter.unusedVariables false
namespace Go.Proofs.Ytkahelhoaihajaa.Wr
open Go.RowKit Go.Proofs.Ytkahelhoaihajaa.Gn Go.Proofs.Ytkahelhoaihajaa.Fd Go.Deep
set_option maxHeartbeats 4000000 in
set_option maxRecDepth 100000 in
theorem own_lim(a b c d:Int)(w:World):Calls Try.prog 13 #[.agg #[.int .i64 a,.int .i64 b,.int .i64 c,.int .i64 d]] w fun e w'=>e=.returned (lim a b c d)∧Below w.heap.size w w':=by
 have HB:=Lib.hid (((below_one w (.cells #[.int .i64 a,.int .i64 b,.int .i64 c,.int .i64 d] 28)).trans ((below_one (w.alloc (.cells #[.int .i64 a,.int .i64 b,.int .i64 c,.int .i64 d] 28)) (.cells #[.int .i64 a,.int .i64 b,.int .i64 c,.int .i64 d] 34)).mono (by simp))))
 have HL:=Lib.hid (show Bl ((w.alloc (.cells #[.int .i64 a,.int .i64 b,.int .i64 c,.int .i64 d] 28)).alloc (.cells #[.int .i64 a,.int .i64 b,.int .i64 c,.int .i64 d] 34)) (w.heap.size+1) 34 #[.int .i64 a,.int .i64 b,.int .i64 c,.int .i64 d] from Bl.new' _ _ (by simp))
 go_enter Try.func13,Try.ntmps13
 go_wp2_with fail
 exact⟨rfl,_,results_c rfl _ _ _ ⟨w.heap.size+1,0,none⟩ _ (by kernel_rfl) (run_loadVar_row _ (w.heap.size+1) 34 34 _ (0,0) _ HL.out Try.underlying34 rfl size40),rfl,HB.out⟩
end Go.Proofs.Ytkahelhoaihajaa.Wr
