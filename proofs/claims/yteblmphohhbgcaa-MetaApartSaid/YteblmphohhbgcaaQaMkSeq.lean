/- Joined texts. -/
import Derived.Test.YteblmphohhbgcaaQaGnB
import Derived.Test.YteblmphohhbgcaaQaPuA
import Derived.BigQuiet
import Derived.IntWalk
import Derived.Deep.Cut
import Derived.Defers
import Derived.Recover
import Derived.Laws.Pointers
import Derived.Test.YteblmphohhbgcaaQaGnA
import Derived.OwnWalk
set_option linter.unusedVariables false
namespace Go.Proofs.Yteblmphohhbgcaa.Gn
open Go.RowKit Go.Deep
section
variable {P:Program} {ops:Array Oper} {Q:Exit→Act→World→Prop} {rest:List Oper} {o:Oper} {a:Act} {w w':World}
theorem sq_new(w':World)(v:Value)(hgd:o.guard=none)(h:(execOp a.eval o).run P w=.ok (.value v) w')(hk:wpList P ops Q rest (a.put o.dst v) w'):wpList P ops Q (o :: rest) a w :=
 wpList_plain hgd fun K hK=>wp_val h (hK _ _ hk)
theorem sq_run(v:Value)(hgd:o.guard=none)(h:(execOp a.eval o).run P w=.ok (.value v) w)(hk:wpList P ops Q rest (a.put o.dst v) w):wpList P ops Q (o :: rest) a w:=sq_new w v hgd h hk
theorem sq_done(h:Q .normal a w):wpList P ops Q [] a w:=h
end
end Go.Proofs.Yteblmphohhbgcaa.Gn
namespace Go.Proofs.Yteblmphohhbgcaa.Wr
open Go.RowKit Go.Proofs.Yteblmphohhbgcaa.Gn Go.Proofs.Yteblmphohhbgcaa.Fd Go.Deep
abbrev flt(a e:Int):Value:=.agg #[.int .i64 a,.int .i64 e]
theorem _root_.Go.World.grownBy.alloc_{w a:World}{row:Option Nat}(h:w.grownBy a row)(o:Obj):w.grownBy (a.alloc o) row :=
 ⟨h.os,h.tape,h.output,by have:=h.size;simp;omega,fun i hi hn=>(Below.heap_alloc a o i (Nat.lt_of_lt_of_le hi h.size)).trans (h.block i hi hn)⟩
theorem results_c{fn:Func}{a:Tmp}{t:TypeId}(h:fn.results = #[.cell a t])(tmps:Array Value)(P:Program)(w:World)(ad:Addr)(v:Value)(ha:tmps.getD a undef=.pointer (some ad))(hl:(loadVar t ad).run P w=.ok v w) :
  (results fn tmps).run P w=.ok v w:=by
 have ha':tmps[a]?.getD undef=.pointer (some ad):=by simpa using ha
 simp[results,h,ha',hl,asAddr]
theorem size97:(Try.prog.info? 123).map (·.size)=some 2:=by kernel_rfl
set_option maxRecDepth 100000 in
set_option maxHeartbeats 2000000 in
theorem catch_panicking(g:Nat)(x y a e:Int)(older:List PanicEntry)(w:World)(hc:w.cell? ⟨g,0,none⟩=some (.int .i64 x))(hc':w.cell? ⟨g,1,none⟩=some (.int .i64 y))(hz:w.frozen? ⟨g,0,none⟩=false)(hz':w.frozen? ⟨g,1,none⟩=false)(hg:g < w.heap.size) :
  CallsD Try.prog 78 #[.pointer (some ⟨g,0,none⟩)] (.panicking ({ v:=.iface 123 (flt a e),recovered:=false } :: older)) w fun r u' w' =>
   r=.returned (.tuple #[])∧u'=.panicking ({ v:=.iface 123 (flt a e),recovered:=true } :: older)∧w'=((w.setCell ⟨g,0,none⟩ (.int .i64 a)).setCell ⟨g,1,none⟩ (.int .i64 e)).alloc (.cells #[.int .i64 a,.int .i64 e] 123):=by
 refine callsD_of_wpS Try.func78 rfl fun c₀ cs hu=>?_
 apply wpS_seq
 apply wpS_region
 simp[wpOpsS,go_sem,recoverD,hu,Try.ntmps78,Exit.thenS]
 simp only[Array.replicate_succ,Array.replicate_zero,List.push_toArray,List.append_toArray,List.cons_append,List.nil_append,List.setIfInBounds_toArray,List.set_cons_zero,List.set_cons_succ]
 have hta:∀w,(Instr.typeAssert (.iface 123 (flt a e)) 20 123 true).run Try.prog w=.ok (.tuple #[flt a e,.bool true]) w:=fun w=>by rfl
 have hgne:¬g=w.heap.size:=by omega
 refine wpS_of_wp ?_
 go_wp2
 simp[bodyPostS,results,Try.results78]
set_option maxRecDepth 100000 in
set_option maxHeartbeats 2000000 in
theorem catch_idle(g:Nat)(w:World) :
  CallsD Try.prog 78 #[.pointer (some ⟨g,0,none⟩)] .returning w fun r u' w' =>
   r=.returned (.tuple #[])∧u'=.returning∧w'=w.alloc (.cells #[.int .i64 0,.int .i64 0] 123):=by
 refine callsD_of_wpS Try.func78 rfl fun c₀ cs hu=>?_
 apply wpS_seq
 apply wpS_region
 simp[wpOpsS,go_sem,recoverD,hu,Try.ntmps78,Exit.thenS]
 simp only[Array.replicate_succ,Array.replicate_zero,List.push_toArray,List.append_toArray,List.cons_append,List.nil_append,List.setIfInBounds_toArray,List.set_cons_zero,List.set_cons_succ]
 have hta:∀w,(Instr.typeAssert .nilIface 20 123 true).run Try.prog w=.ok (.tuple #[flt 0 0,.bool false]) w:=fun w=>by rfl
 refine wpS_of_wp ?_
 go_wp2
 cases c₀
 simp_all [bodyPostS,results,Try.results78]
set_option maxRecDepth 100000 in
set_option maxHeartbeats 2000000 in
theorem faultOf_ret(caps:Array Value)(w:World)(R:World→Prop)(hR:∀w2,R w2→w2.heap[w.heap.size]?=some (.cells #[.int .i64 0,.int .i64 0] 123 (0,0)))
  (hc:Calls Try.prog 59 caps (w.alloc (.cells #[.int .i64 0,.int .i64 0] 123)) fun e w2=>e=.returned (.tuple #[])∧R w2) :
  Calls Try.prog 58 #[.func (.func 59) #[] caps] w fun e w'=>e=.returned (flt 0 0)∧∃w2,R w2∧w2.grownBy w' (some w.heap.size):=by
 have hmf:∀(fn:Fn) (first cap:Array Value) (w:World),(Instr.makeFunc fn first cap).run Try.prog w=.ok (.func fn first cap) w:=fun _ _ _ _=>rfl
 have HC:=Lib.hid hc
 have HR:=Lib.hid hR
 clear hc hR
 go_enter_defers Try.func58,Try.ntmps58
 go_wp2_with (go_at_call 59;(refine HC.out.mono ?_);rintro e w2 ⟨rfl,hr⟩;have R2:=Lib.hid hr;have hh:=Lib.hid (HR.out w2 hr);have c0:w2.cell? ⟨w.heap.size,0,none⟩=some (.int .i64 0):=(by rw[cell_of_row _ _ _ _ _ _ hh.out];rfl);have c1:w2.cell? ⟨w.heap.size,1,none⟩=some (.int .i64 0):=(by rw[cell_of_row _ _ _ _ _ _ hh.out];rfl);have f0:w2.frozen? ⟨w.heap.size,0,none⟩=false:=(by simp[World.frozen?,hh.out]);have f1:w2.frozen? ⟨w.heap.size,1,none⟩=false:=(by simp[World.frozen?,hh.out]);clear hr)
 have HL:=Lib.hid (show Bl (((w2.setCell ⟨w.heap.size,0,none⟩ (.int .i64 0)).setCell ⟨w.heap.size,1,none⟩ (.int .i64 0)).alloc (.cells #[.int .i64 0,.int .i64 0] 123)) w.heap.size 123 #[.int .i64 0,.int .i64 0] from(((show Bl w2 w.heap.size 123 #[.int .i64 0,.int .i64 0] from hh.out).set_ 0 (.int .i64 0)).set_ 1 (.int .i64 0)).alloc _)
 have HG:=Lib.hid (show w2.grownBy (((w2.setCell ⟨w.heap.size,0,none⟩ (.int .i64 0)).setCell ⟨w.heap.size,1,none⟩ (.int .i64 0)).alloc (.cells #[.int .i64 0,.int .i64 0] 123)) (some w.heap.size) from(only_set (only_set (World.grownBy.refl w2 (some w.heap.size)) (p:=⟨w.heap.size,0,none⟩) (Or.inl rfl) (.int .i64 0)) (p:=⟨w.heap.size,1,none⟩) (Or.inl rfl) (.int .i64 0)).alloc_ _)
 refine leaves_cons (f:=78) (args:=#[.pointer (some ⟨w.heap.size,0,none⟩)]) (by simp) (by simp[go_sem]) ?_
 refine(catch_idle w.heap.size _).mono ?_
 rintro e u' w'' ⟨rfl,rfl,rfl⟩
 exact⟨_,results_c rfl _ _ _ ⟨w.heap.size,0,none⟩ _ (by kernel_rfl) (run_loadVar_row _ w.heap.size 123 123 #[.int .i64 0,.int .i64 0] (0,0) _ HL.out Try.underlying123 rfl size97),rfl,w2,R2.out,HG.out⟩
end Go.Proofs.Yteblmphohhbgcaa.Wr
namespace Go.Proofs.Yteblmphohhbgcaa.Wr
open Go.RowKit Go.Proofs.Yteblmphohhbgcaa.Gn Go.Proofs.Yteblmphohhbgcaa.Fd Go.Deep
abbrev pan(a e:Int):Ending:=.panicked [{ v:=.iface 123 (flt a e),recovered:=false }]
set_option maxHeartbeats 2000000 in
set_option maxRecDepth 100000 in
theorem begin_deep{g:Nat}{D:Int}{w:World}(h1:w.cell? ⟨g,1,none⟩=some (.int .i64 D))(at_ deep:Int)(h:D < deep) :
  Calls Try.prog 91 #[.pointer (some ⟨g,0,none⟩),.int .i64 at_,.int .i64 deep] w fun e w'=>e=pan at_ 23∧w=w':=by
 go_enter Try.func91,Try.ntmps91
 go_wp2_with fail
 exact⟨rfl,rfl,rfl⟩
set_option maxHeartbeats 2000000 in
set_option maxRecDepth 100000 in
theorem begin_many{g:Nat}{D M:Int}{w:World}(h1:w.cell? ⟨g,1,none⟩=some (.int .i64 D))(h2:w.cell? ⟨g,2,none⟩=some (.int .i64 M))(h4:w.cell? ⟨g,4,none⟩=some (.int .i64 M))(at_ deep:Int)(h:¬D < deep) :
  Calls Try.prog 91 #[.pointer (some ⟨g,0,none⟩),.int .i64 at_,.int .i64 deep] w fun e w'=>e=pan at_ 24∧∃q,w'=w.drewN q:=by
 go_enter Try.func91,Try.ntmps91
 go_wp2_with fail
 go_quiet (fail)
 go_wp2_with fail
 exact⟨rfl,rfl,_,rfl⟩
set_option maxHeartbeats 2000000 in
set_option maxRecDepth 100000 in
theorem begin_ok{g:Nat}{D M b:Int}{w:World}(h1:w.cell? ⟨g,1,none⟩=some (.int .i64 D))(h2:w.cell? ⟨g,2,none⟩=some (.int .i64 M))(h4:w.cell? ⟨g,4,none⟩=some (.int .i64 b))(hf:w.frozen? ⟨g,4,none⟩=false)(at_ deep:Int)(h:¬D < deep)(hb:¬b=M)(b0:0≤b)(b1:b≤1000000) :
  Calls Try.prog 91 #[.pointer (some ⟨g,0,none⟩),.int .i64 at_,.int .i64 deep] w fun e w'=>e=.returned (.tuple #[])∧∃q,w'=(w.drewN q).setCell ⟨g,4,none⟩ (.int .i64 (b+1)):=by
 go_enter Try.func91,Try.ntmps91
 go_wp2_with fail
 go_quiet (fail)
 go_wp2_with fail
 go_end0
 exact⟨rfl,_,rfl⟩
set_option maxHeartbeats 2000000 in
set_option maxRecDepth 100000 in
theorem hold_any{g:Nat}{E:Int}{w:World}(h3:w.cell? ⟨g,3,none⟩=some (.int .i64 E))(e0:0≤E)(e1:E≤9223372036854775807)(at_:Int)(n:Nat) :
  Calls Try.prog 93 #[.pointer (some ⟨g,0,none⟩),.int .i64 at_,.int .u64 (n:Int)] w fun e w'=>e=(if E < (n:Int) then pan at_ 2 else .returned (.tuple #[]))∧w=w':=by
 by_cases h:E < (n:Int)
 ·rw[if_pos h]
  go_enter Try.func93,Try.ntmps93
  go_wp2_with fail
  exact⟨rfl,rfl,rfl⟩
 ·rw[if_neg h]
  go_enter Try.func93,Try.ntmps93
  go_wp2_with fail
  go_end0
  exact⟨rfl,rfl⟩
abbrev lim(a b c d:Int):Value:=.agg #[.int .i64 a,.int .i64 b,.int .i64 c,.int .i64 d]
theorem size40:(Try.prog.info? 86).map (·.size)=some 4:=by kernel_rfl
theorem size92:(Try.prog.info? 118).map (·.size)=some 5:=by kernel_rfl
set_option maxHeartbeats 2000000 in
set_option maxRecDepth 100000 in
theorem Whole_any(w:World):Calls Try.prog 38 #[] w fun e w'=>e=.returned (lim 65536 16 16384 65536)∧Below w.heap.size w w':=by
 have HL:=Lib.hid (Bl.new_ w 86 #[.int .i64 65536,.int .i64 16,.int .i64 16384,.int .i64 65536])
 have HB:=Lib.hid ((Below.refl w.heap.size w).alloc (Nat.le_refl _) (.cells #[.int .i64 65536,.int .i64 16,.int .i64 16384,.int .i64 65536] 86))
 go_enter Try.func38,Try.ntmps38
 go_wp2_with fail
 exact⟨rfl,_,results_c rfl _ _ _ ⟨w.heap.size,0,none⟩ _ (by kernel_rfl) (run_loadVar_row _ w.heap.size 86 86 _ (0,0) _ HL.out Try.underlying86 rfl size40),rfl,HB.out⟩
theorem max_low{a:Int}(h:a < 0):max a 0=0:=by omega
theorem max_high{a:Int}(h:0≤a):max a 0=a:=by omega
abbrev rom(a b c d k:Int):Value:=.agg #[.int .i64 a,.int .i64 b,.int .i64 c,.int .i64 d,.int .i64 k]
theorem rom_end{W:World}{T:TypeId}{cs:Array Value}{w:World}(xs:Array Value):Bl ((w.alloc (.cells cs T)).alloc (.cells xs 118)) (w.heap.size+1) 118 xs:=by
 have:=Bl.new_ (w.alloc (.cells cs T)) 118 xs
 simpa using this
set_option maxHeartbeats 4000000 in
set_option maxRecDepth 100000 in
theorem roomOf_any(a b c d:Int)(w:World):Calls Try.prog 57 #[lim a b c d] w fun e w'=>e=.returned (rom (max a 0) (max b 0) (max c 0) (max d 0) 0)∧Below w.heap.size w w':=by
 have HB:=Lib.hid (fun x y z v=>(((Below.refl w.heap.size w).alloc (Nat.le_refl _) (.cells #[.int .i64 a,.int .i64 b,.int .i64 c,.int .i64 d] 86)).alloc (by simp) (.cells #[.int .i64 x,.int .i64 y,.int .i64 z,.int .i64 v,.int .i64 0] 118)))
 go_enter Try.func57,Try.ntmps57
 go_wp2_with fail
 all_goals refine⟨rfl,_,results_c rfl _ _ _ ⟨w.heap.size+1,0,none⟩ _ (by kernel_rfl) (run_loadVar_row _ (w.heap.size+1) 118 118 _ (0,0) _ (rom_end (W:=w) _) Try.underlying118 rfl size92),?_,HB.out _ _ _ _⟩
 all_goals try exact rfl
 all_goals(unfold rom;first|rw[max_low (a:=a) (by assumption)]|rw[max_high (a:=a) (by assumption)])
 all_goals(first|rw[max_low (a:=b) (by assumption)]|rw[max_high (a:=b) (by assumption)])
 all_goals(first|rw[max_low (a:=c) (by assumption)]|rw[max_high (a:=c) (by assumption)])
 all_goals(first|rw[max_low (a:=d) (by assumption)]|rw[max_high (a:=d) (by assumption)])
end Go.Proofs.Yteblmphohhbgcaa.Wr
