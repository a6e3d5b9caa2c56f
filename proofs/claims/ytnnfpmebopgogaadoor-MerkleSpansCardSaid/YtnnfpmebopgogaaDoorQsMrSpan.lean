/- Joined texts. -/
import Derived.Deep.QuietTactic
import Derived.BigQuiet
import Derived.Test.YtnnfpmebopgogaaDoorQsMoTexts
import Derived.Test.YtnnfpmebopgogaaDoorQsMpProveB
set_option linter.unusedVariables false
namespace Go.Proofs.YtnnfpmebopgogaaDoor.Mk
open Go.RowKit Go.Proofs.YtnnfpmebopgogaaDoor.Gn Go.Proofs.YtnnfpmebopgogaaDoor.Fd Go.Deep
abbrev spv(a b:Int):Value:=.agg #[.int .i64 a,.int .i64 b]
theorem two_allocs(w:World)(o o':Obj):Below w.heap.size w ((w.alloc o).alloc o'):=((Below.refl _ _).alloc (Nat.le_refl _) o).alloc (by simp) o'
set_option maxHeartbeats 2000000 in
set_option maxRecDepth 100000 in
theorem apart_any(a b f t:Int)(z:Bool)(hz:z=decide (b≤f∨t≤a))(w:World) :
  Calls Tryd.prog 74 #[spv a b,spv f t] w fun e w'=>e=.returned (.bool z)∧Below w.heap.size w w':=by
 have HZ:=Lib.hid hz
 clear hz
 by_cases h1:b≤f
 ·have E:=Lib.hid (show z=true by rw[HZ.out];exact decide_eq_true (Or.inl h1))
  go_enter Tryd.func74,Tryd.ntmps74
  go_wp2_with fail
  go_ret
  exact⟨by rw[E.out];rfl,two_allocs _ _ _⟩
 ·have E:=Lib.hid (show z=decide (t≤a) by rw[HZ.out];exact decide_eq_decide.2 ⟨fun h=>h.resolve_left h1,Or.inr⟩)
  by_cases h2:t≤a
  ·have t1:decide (b≤f)=false:=decide_eq_false h1
   have t2:decide (t≤a)=true:=decide_eq_true h2
   rw[t2] at E
   go_enter Tryd.func74,Tryd.ntmps74
   go_wp2_with fail
   go_ret
   exact⟨by rw[E.out];rfl,two_allocs _ _ _⟩
  ·have t1:decide (b≤f)=false:=decide_eq_false h1
   have t2:decide (t≤a)=false:=decide_eq_false h2
   rw[t2] at E
   go_enter Tryd.func74,Tryd.ntmps74
   go_wp2_with fail
   go_ret
   exact⟨by rw[E.out];rfl,two_allocs _ _ _⟩
set_option maxHeartbeats 2000000 in
set_option maxRecDepth 100000 in
theorem within_any(a b f t:Int)(z:Bool)(hz:z=decide (f≤a∧b≤t))(w:World) :
  Calls Tryd.prog 75 #[spv a b,spv f t] w fun e w'=>e=.returned (.bool z)∧Below w.heap.size w w':=by
 have HZ:=Lib.hid hz
 clear hz
 by_cases h1:f≤a
 ·have E:=Lib.hid (show z=decide (b≤t) by rw[HZ.out];exact decide_eq_decide.2 ⟨fun h=>h.2,fun h=>⟨h1,h⟩⟩)
  by_cases h2:b≤t
  ·have t1:decide (f≤a)=true:=decide_eq_true h1
   have t2:decide (b≤t)=true:=decide_eq_true h2
   rw[t2] at E
   go_enter Tryd.func75,Tryd.ntmps75
   go_wp2_with fail
   go_ret
   exact⟨by rw[E.out];rfl,two_allocs _ _ _⟩
  ·have t1:decide (f≤a)=true:=decide_eq_true h1
   have t2:decide (b≤t)=false:=decide_eq_false h2
   rw[t2] at E
   go_enter Tryd.func75,Tryd.ntmps75
   go_wp2_with fail
   go_ret
   exact⟨by rw[E.out];rfl,two_allocs _ _ _⟩
 ·have E:=Lib.hid (show z=false by rw[HZ.out];exact decide_eq_false (fun h=>h1 h.1))
  have t1:decide (f≤a)=false:=decide_eq_false h1
  go_enter Tryd.func75,Tryd.ntmps75
  go_wp2_with fail
  go_ret
  exact⟨by rw[E.out];rfl,two_allocs _ _ _⟩
theorem sizeSp:(Tryd.prog.info? 75).map (·.size)=some 2:=by kernel_rfl
theorem results_cc{fn:Func}{a b:Tmp}{t t':TypeId}(h:fn.results = #[.cell a t,.cell b t'])(tmps:Array Value)(P:Program)(w:World)(ad ad':Addr)(v u:Value)(ha:tmps.getD a undef=.pointer (some ad))(hb:tmps.getD b undef=.pointer (some ad'))(hl:(loadVar t ad).run P w=.ok v w)(hl':(loadVar t' ad').run P w=.ok u w) :
  (results fn tmps).run P w=.ok (.tuple #[v,u]) w:=by
 have ha':tmps[a]?.getD undef=.pointer (some ad):=by simpa using ha
 have hb':tmps[b]?.getD undef=.pointer (some ad'):=by simpa using hb
 simp[results,h,ha',hb',hl,hl',asAddr]
theorem halves_end(w:World)(o:Obj)(a b c d:Int):∃W,W=(((w.alloc o).alloc (.cells #[.int .i64 a,.int .i64 b] 75)).alloc (.cells #[.int .i64 c,.int .i64 d] 75)).drew.drew∧Bl W (w.heap.size+1) 75 #[.int .i64 a,.int .i64 b]∧Bl W (w.heap.size+1+1) 75 #[.int .i64 c,.int .i64 d]∧Below w.heap.size w W:=by
 refine⟨_,rfl,?_,?_,?_⟩
 ·exact((Bl.new' (w:=w.alloc o) 75 #[.int .i64 a,.int .i64 b] (asize _ _)).alloc _).drew.drew
 ·exact(Bl.new' (w:=(w.alloc o).alloc (.cells #[.int .i64 a,.int .i64 b] 75)) 75 #[.int .i64 c,.int .i64 d] (by rw[asize,asize])).drew.drew
 ·exact((((Below.refl w.heap.size w).alloc (Nat.le_refl _) o).alloc (by rw[asize];omega) _).alloc (by rw[asize,asize];omega) _).drew.drew
set_option maxHeartbeats 2000000 in
set_option maxRecDepth 100000 in
theorem halves_any(a n:Nat)(h2:2≤n)(hn:n≤4096)(ha:a≤4096)(w:World) :
  Calls Tryd.prog 76 #[spv (a:Int) ((a+n:Nat):Int)] w fun e w'=>e=.returned (.tuple #[spv (a:Int) ((a+half n:Nat):Int),spv ((a+half n:Nat):Int) ((a+n:Nat):Int)])∧Below w.heap.size w w':=by
 have HF:=Lib.hid (fun w=>half_any h2 (by omega) w)
 have hs:=half_spec h2
 obtain⟨H,hH⟩:∃H,H=half n:=⟨_,rfl⟩
 rw[←hH] at HF hs ⊢
 obtain⟨b,hb⟩:∃b,b=a+n:=⟨_,rfl⟩
 obtain⟨d,hd⟩:∃d,d=a+H:=⟨_,rfl⟩
 rw[←hb,←hd]
 have e1:(b:Int) - (a:Int)=(n:Int):=by omega
 have e2:(a:Int)+(H:Int)=(d:Int):=by omega
 have w1:IntKind.i64.wrap (n:Int)=(n:Int):=Go.IntWalk.i64_in _ (by omega)
 have w2:IntKind.i64.wrap (d:Int)=(d:Int):=Go.IntWalk.i64_in _ (by omega)
 clear hb hd hH
 go_enter Tryd.func76,Tryd.ntmps76
 go_wp2_with fail
 obtain⟨W,hW,x1,x2,x3⟩:=halves_end w (.cells #[.int .i64 (a:Int),.int .i64 (b:Int)] 75) (a:Int) (d:Int) (d:Int) (b:Int)
 have HW:=Lib.hid hW
 have X1:=Lib.hid x1
 have X2:=Lib.hid x2
 have X3:=Lib.hid x3
 clear hW x1 x2 x3
 go_region_with ((go_at_call 69;(with_reducible refine(HF.out _).mono ?_);rintro e w1 ⟨rfl,rfl⟩))
 all_goals
  go_wp2_with fail
  go_region
 all_goals
  rw[←HW.out]
  go_wp2_with fail
  refine bodyPost_ret (v:=.tuple #[.agg #[.int .i64 (a:Int),.int .i64 (d:Int)],.agg #[.int .i64 (d:Int),.int .i64 (b:Int)]]) (results_cc Tryd.results76 _ _ _ ⟨w.heap.size+1,0,none⟩ ⟨w.heap.size+1+1,0,none⟩ _ _ (by kernel_rfl) (by kernel_rfl) (run_loadVar_row W (w.heap.size+1) 75 75 #[.int .i64 (a:Int),.int .i64 (d:Int)] (0,0) _ X1.out Tryd.underlying75 rfl sizeSp) (run_loadVar_row W (w.heap.size+1+1) 75 75 #[.int .i64 (d:Int),.int .i64 (b:Int)] (0,0) _ X2.out Tryd.underlying75 rfl sizeSp)) rfl ⟨rfl,X3.out⟩
end Go.Proofs.YtnnfpmebopgogaaDoor.Mk
