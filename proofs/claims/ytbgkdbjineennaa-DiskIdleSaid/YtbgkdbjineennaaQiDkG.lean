/- Joined texts. -/
import Derived.Test.YtbgkdbjineennaaQiDkF
set_option linter.unusedVariables false
namespace Go.Proofs.Ytbgkdbjineennaa.Dk
open Go.IntWalk Go.RowKit Go.Proofs.Ytbgkdbjineennaa.Gn Go.Proofs.Ytbgkdbjineennaa.Fd Go.Deep
set_option maxRecDepth 100000 in
theorem all_true(i:Int)(w:World):Calls Try.prog 34 #[.int .i64 i] w fun e w'=>e=.returned (.bool true)∧w=w':=by
 go_enter Try.func34,Try.ntmps34
 go_wp2_with fail
 go_ret
 exact⟨rfl,rfl⟩
set_option maxRecDepth 100000 in
theorem chosen_one(B p cap:Nat)(w:World)(hB:w.cell? ⟨B,0,none⟩=some (.slice (some ⟨p,0,none⟩) 1 cap))(hp:w.cell? ⟨p,0,none⟩=some (.bool true)):Calls Try.prog 36 #[.int .i64 0,.pointer (some ⟨B,0,none⟩)] w fun e w'=>e=.returned (.bool true)∧w=w':=by
 go_enter Try.func36,Try.ntmps36
 go_wp2_with fail
 go_ret
 exact⟨rfl,rfl⟩
end Go.Proofs.Ytbgkdbjineennaa.Dk
