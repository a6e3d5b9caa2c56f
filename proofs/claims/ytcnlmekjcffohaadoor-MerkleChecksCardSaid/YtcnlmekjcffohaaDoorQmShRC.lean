/- Joined texts. -/
import Derived.Test.YtcnlmekjcffohaaDoorQmShRE
import Derived.Test.YtcnlmekjcffohaaDoorQmShRPad
set_option linter.unusedVariables false
namespace Go.Proofs.YtcnlmekjcffohaaDoor.Sh
open Go.RowKit Go.Proofs.YtcnlmekjcffohaaDoor.Gn Go.Deep
set_option maxRecDepth 100000 in
set_option maxHeartbeats 4000000 in
theorem rconstants_any(w:World):Calls Tryd.prog 72 #[] w fun e w'=>e=.returned (.slice (some ⟨w.heap.size,0,none⟩) 80 80)∧w'=w.alloc (.cells (nl kc).toArray 85):=by
 go_enter Tryd.func72,Tryd.ntmps72
 go_wp2_with fail
 go_ret
 refine⟨rfl,?_⟩
 refine congrArg (fun a=>w.alloc (.cells a 85)) ?_
 kernel_rfl
theorem rstarts_any(w:World):Calls Tryd.prog 73 #[] w fun e w'=>e=.returned (.slice (some ⟨w.heap.size,0,none⟩) 8 8)∧w'=w.alloc (.cells (nl sc).toArray 85):=by
 go_enter Tryd.func73,Tryd.ntmps73
 go_wp2
 go_ret
 exact⟨rfl,rfl⟩
end Go.Proofs.YtcnlmekjcffohaaDoor.Sh
