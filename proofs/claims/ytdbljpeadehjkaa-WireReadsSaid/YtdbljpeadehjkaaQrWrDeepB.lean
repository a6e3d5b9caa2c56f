/- Joined texts. -/
import Derived.Test.YtdbljpeadehjkaaQrWrDeep
import Derived.Test.YtdbljpeadehjkaaQrWrReadC
set_option linter.unusedVariables false
namespace Go.Proofs.Ytdbljpeadehjkaa.Wr
open Go.RowKit Go.Proofs.Ytdbljpeadehjkaa.Gn Go.Proofs.Ytdbljpeadehjkaa.Fd Go.Deep
set_option maxHeartbeats 4000000 in
set_option maxRecDepth 100000 in
theorem own_lim(a b c d:Int)(w:World):Calls Try.prog 18 #[.agg #[.int .i64 a,.int .i64 b,.int .i64 c,.int .i64 d]] w fun e w'=>e=.returned (lim a b c d)∧Below w.heap.size w w':=by
 have HB:=Lib.hid (((below_one w (.cells #[.int .i64 a,.int .i64 b,.int .i64 c,.int .i64 d] 36)).trans ((below_one (w.alloc (.cells #[.int .i64 a,.int .i64 b,.int .i64 c,.int .i64 d] 36)) (.cells #[.int .i64 a,.int .i64 b,.int .i64 c,.int .i64 d] 40)).mono (by simp))))
 have HL:=Lib.hid (show Bl ((w.alloc (.cells #[.int .i64 a,.int .i64 b,.int .i64 c,.int .i64 d] 36)).alloc (.cells #[.int .i64 a,.int .i64 b,.int .i64 c,.int .i64 d] 40)) (w.heap.size+1) 40 #[.int .i64 a,.int .i64 b,.int .i64 c,.int .i64 d] from Bl.new' _ _ (by simp))
 go_enter Try.func18,Try.ntmps18
 go_wp2_with fail
 exact⟨rfl,_,results_c rfl _ _ _ ⟨w.heap.size+1,0,none⟩ _ (by kernel_rfl) (run_loadVar_row _ (w.heap.size+1) 40 40 _ (0,0) _ HL.out Try.underlying40 rfl size40),rfl,HB.out⟩
end Go.Proofs.Ytdbljpeadehjkaa.Wr
namespace Go.Proofs.Ytdbljpeadehjkaa.Wr
open Go.RowKit Go.Proofs.Ytdbljpeadehjkaa.Gn Go.Proofs.Ytdbljpeadehjkaa.Fd Go.Deep
theorem wf_i64{x:Int}(h:(Lit.int .i64 x).wf) : -9223372036854775808≤x∧x≤9223372036854775807:=by
 simpa[Lit.wf,IntKind.min,IntKind.max,IntKind.signed,IntKind.bits] using h
theorem bl_pc{w:World}{A:Option Addr}{n c:Nat}{l:List Nat}(h:BL w A n c l):Pc w (A,n,c,l):=by
 obtain⟨h1,h2,h3,h4,h5⟩:=h
 have e:l.length=n:=by have:=h1.1;rwa [bl_length] at this
 exact⟨e.symm,by rw[show((A,n,c,l):Rw).2.2.2.length=n from e];exact h1,h3,by rw[show((A,n,c,l):Rw).2.2.2.length=n from e];exact h5,h4⟩
end Go.Proofs.Ytdbljpeadehjkaa.Wr
namespace Go.Proofs.Ytdbljpeadehjkaa.Wr
open Go.RowKit Go.Proofs.Ytdbljpeadehjkaa.Gn Go.Proofs.Ytdbljpeadehjkaa.Fd Go.Deep
set_option maxHeartbeats 4000000 in
set_option maxRecDepth 100000 in
theorem longb_any(A:Option Addr)(n c:Nat)(w:World):Calls Try.prog 9 #[.slice A n c] w fun e w'=>e=.returned (.bool (decide (2000 < (n:Int))))∧w=w':=by
 go_enter Try.func9,Try.ntmps9
 go_wp2_with fail
 go_ret
 exact⟨rfl,rfl⟩
end Go.Proofs.Ytdbljpeadehjkaa.Wr
