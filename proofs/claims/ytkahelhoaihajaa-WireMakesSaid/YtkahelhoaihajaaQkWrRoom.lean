/- Joined texts. -/
import Derived.OwnWalk
import Derived.BigQuiet
import Derived.Test.YtkahelhoaihajaaQkWrFault
set_option linter.unusedVariables false
namespace Go.Proofs.Ytkahelhoaihajaa.Wr
open Go.RowKit Go.Proofs.Ytkahelhoaihajaa.Gn Go.Proofs.Ytkahelhoaihajaa.Fd Go.Deep
abbrev pan(a e:Int):Ending:=.panicked [{ v:=.iface 93 (flt a e),recovered:=false }]
set_option maxHeartbeats 2000000 in
set_option maxRecDepth 100000 in
theorem begin_deep{g:Nat}{D:Int}{w:World}(h1:w.cell? ⟨g,1,none⟩=some (.int .i64 D))(at_ deep:Int)(h:D < deep) :
  Calls Try.prog 87 #[.pointer (some ⟨g,0,none⟩),.int .i64 at_,.int .i64 deep] w fun e w'=>e=pan at_ 23∧w=w':=by
 go_enter Try.func87,Try.ntmps87
 go_wp2_with fail
 exact⟨rfl,rfl,rfl⟩
set_option maxHeartbeats 2000000 in
set_option maxRecDepth 100000 in
theorem begin_many{g:Nat}{D M:Int}{w:World}(h1:w.cell? ⟨g,1,none⟩=some (.int .i64 D))(h2:w.cell? ⟨g,2,none⟩=some (.int .i64 M))(h4:w.cell? ⟨g,4,none⟩=some (.int .i64 M))(at_ deep:Int)(h:¬D < deep) :
  Calls Try.prog 87 #[.pointer (some ⟨g,0,none⟩),.int .i64 at_,.int .i64 deep] w fun e w'=>e=pan at_ 24∧∃q,w'=w.drewN q:=by
 go_enter Try.func87,Try.ntmps87
 go_wp2_with fail
 go_quiet (fail)
 go_wp2_with fail
 exact⟨rfl,rfl,_,rfl⟩
set_option maxHeartbeats 2000000 in
set_option maxRecDepth 100000 in
theorem begin_ok{g:Nat}{D M b:Int}{w:World}(h1:w.cell? ⟨g,1,none⟩=some (.int .i64 D))(h2:w.cell? ⟨g,2,none⟩=some (.int .i64 M))(h4:w.cell? ⟨g,4,none⟩=some (.int .i64 b))(hf:w.frozen? ⟨g,4,none⟩=false)(at_ deep:Int)(h:¬D < deep)(hb:¬b=M)(b0:0≤b)(b1:b≤1000000) :
  Calls Try.prog 87 #[.pointer (some ⟨g,0,none⟩),.int .i64 at_,.int .i64 deep] w fun e w'=>e=.returned (.tuple #[])∧∃q,w'=(w.drewN q).setCell ⟨g,4,none⟩ (.int .i64 (b+1)):=by
 go_enter Try.func87,Try.ntmps87
 go_wp2_with fail
 go_quiet (fail)
 go_wp2_with fail
 go_end0
 exact⟨rfl,_,rfl⟩
set_option maxHeartbeats 2000000 in
set_option maxRecDepth 100000 in
theorem hold_any{g:Nat}{E:Int}{w:World}(h3:w.cell? ⟨g,3,none⟩=some (.int .i64 E))(e0:0≤E)(e1:E≤9223372036854775807)(at_:Int)(n:Nat) :
  Calls Try.prog 89 #[.pointer (some ⟨g,0,none⟩),.int .i64 at_,.int .u64 (n:Int)] w fun e w'=>e=(if E < (n:Int) then pan at_ 2 else .returned (.tuple #[]))∧w=w':=by
 by_cases h:E < (n:Int)
 ·rw[if_pos h]
  go_enter Try.func89,Try.ntmps89
  go_wp2_with fail
  exact⟨rfl,rfl,rfl⟩
 ·rw[if_neg h]
  go_enter Try.func89,Try.ntmps89
  go_wp2_with fail
  go_end0
  exact⟨rfl,rfl⟩
abbrev lim(a b c d:Int):Value:=.agg #[.int .i64 a,.int .i64 b,.int .i64 c,.int .i64 d]
theorem size40:(Try.prog.info? 34).map (·.size)=some 4:=by kernel_rfl
theorem size92:(Try.prog.info? 88).map (·.size)=some 5:=by kernel_rfl
set_option maxHeartbeats 2000000 in
set_option maxRecDepth 100000 in
theorem Whole_any(w:World):Calls Try.prog 46 #[] w fun e w'=>e=.returned (lim 65536 16 16384 65536)∧Below w.heap.size w w':=by
 have HL:=Lib.hid (Bl.new_ w 34 #[.int .i64 65536,.int .i64 16,.int .i64 16384,.int .i64 65536])
 have HB:=Lib.hid ((Below.refl w.heap.size w).alloc (Nat.le_refl _) (.cells #[.int .i64 65536,.int .i64 16,.int .i64 16384,.int .i64 65536] 34))
 go_enter Try.func46,Try.ntmps46
 go_wp2_with fail
 exact⟨rfl,_,results_c rfl _ _ _ ⟨w.heap.size,0,none⟩ _ (by kernel_rfl) (run_loadVar_row _ w.heap.size 34 34 _ (0,0) _ HL.out Try.underlying34 rfl size40),rfl,HB.out⟩
theorem max_low{a:Int}(h:a < 0):max a 0=0:=by omega
theorem max_high{a:Int}(h:0≤a):max a 0=a:=by omega
abbrev rom(a b c d k:Int):Value:=.agg #[.int .i64 a,.int .i64 b,.int .i64 c,.int .i64 d,.int .i64 k]
theorem rom_end{W:World}{T:TypeId}{cs:Array Value}{w:World}(xs:Array Value):Bl ((w.alloc (.cells cs T)).alloc (.cells xs 88)) (w.heap.size+1) 88 xs:=by
 have:=Bl.new_ (w.alloc (.cells cs T)) 88 xs
 simpa using this
set_option maxHeartbeats 4000000 in
set_option maxRecDepth 100000 in
theorem roomOf_any(a b c d:Int)(w:World):Calls Try.prog 51 #[lim a b c d] w fun e w'=>e=.returned (rom (max a 0) (max b 0) (max c 0) (max d 0) 0)∧Below w.heap.size w w':=by
 have HB:=Lib.hid (fun x y z v=>(((Below.refl w.heap.size w).alloc (Nat.le_refl _) (.cells #[.int .i64 a,.int .i64 b,.int .i64 c,.int .i64 d] 34)).alloc (by simp) (.cells #[.int .i64 x,.int .i64 y,.int .i64 z,.int .i64 v,.int .i64 0] 88)))
 go_enter Try.func51,Try.ntmps51
 go_wp2_with fail
 all_goals refine⟨rfl,_,results_c rfl _ _ _ ⟨w.heap.size+1,0,none⟩ _ (by kernel_rfl) (run_loadVar_row _ (w.heap.size+1) 88 88 _ (0,0) _ (rom_end (W:=w) _) Try.underlying88 rfl size92),?_,HB.out _ _ _ _⟩
 all_goals try exact rfl
 all_goals(unfold rom;first|rw[max_low (a:=a) (by assumption)]|rw[max_high (a:=a) (by assumption)])
 all_goals(first|rw[max_low (a:=b) (by assumption)]|rw[max_high (a:=b) (by assumption)])
 all_goals(first|rw[max_low (a:=c) (by assumption)]|rw[max_high (a:=c) (by assumption)])
 all_goals(first|rw[max_low (a:=d) (by assumption)]|rw[max_high (a:=d) (by assumption)])
end Go.Proofs.Ytkahelhoaihajaa.Wr
