/- Joined texts. -/
import Derived.Deep.LoopGhost
import Derived.Test.YtnnfpmebopgogaaDoorQkMpPath
import Derived.Laws.EntriesVeiled
import Derived.Test.YtnnfpmebopgogaaDoorQkMpRTop
import Derived.RangeFuncNested
import Derived.RangeFuncBound
import Derived.RangeFuncCalls
import Derived.RangeFuncLeaves
import Derived.RangeFuncBox
import Derived.Shelf.Abstract
import Derived.Shelf.RegionOpen
import Derived.WalkKit
import Derived.OwnWalkIn
import Derived.TacticsInMore
import Derived.LoopNIn
import Derived.LoopIn
import Derived.Maps.AppendAt
import Derived.OrdersHeld
import Derived.RangeFuncOwn
import Derived.OrdersIn
import Derived.ControlIn
import Derived.OwnWalk
import Derived.Deep.RegionWith
import Derived.Laws.BytesArg
import Derived.Test.YtnnfpmebopgogaaDoorQkMkG
import Derived.Test.YtnnfpmebopgogaaDoorQkGnA
import Derived.Test.YtnnfpmebopgogaaDoorQkMpDoc
import Derived.Deep.QuietTactic
import Derived.BigQuiet
set_option linter.unusedVariables false
namespace Go.Proofs.YtnnfpmebopgogaaDoor.Mk
open Go.RowKit Go.Proofs.YtnnfpmebopgogaaDoor.Gn Go.Proofs.YtnnfpmebopgogaaDoor.Fd Go.Deep
theorem one_cell{w:World}{b:Nat}{v:Value}{t:TypeId}(h:w.heap[b]?=some (.cells #[v] t (0,0))):w.cell? ⟨b,0,none⟩=some v∧w.frozen? ⟨b,0,none⟩=false:=by
 refine⟨by rw[cell_of_row _ _ _ _ _ _ h];rfl,by simp[World.frozen?,h]⟩
end Go.Proofs.YtnnfpmebopgogaaDoor.Mk
namespace Go.Proofs.YtnnfpmebopgogaaDoor.Mk
open Go.RowKit Go.Proofs.YtnnfpmebopgogaaDoor.Gn Go.Proofs.YtnnfpmebopgogaaDoor.Fd Go.Deep
theorem asize(w:World)(o:Obj):(w.alloc o).heap.size=w.heap.size+1:=by first|exact Array.size_push _|exact Array.size_push _ _|exact Array.size_push ..
def ProveQ(l:List (List Nat))(w:World)(e:Ending)(w':World):Prop :=
 ∃A n cap us,e=.returned (.tuple #[.slice A n cap,.int .i64 0])∧OwnP0 w.heap.size w' (.slice A n cap) us∧us.length=n∧con us=l∧Below w.heap.size w w'
end Go.Proofs.YtnnfpmebopgogaaDoor.Mk
namespace Go.Proofs.YtnnfpmebopgogaaDoor.Mk
open Go.RowKit Go.Proofs.YtnnfpmebopgogaaDoor.Gn Go.Proofs.YtnnfpmebopgogaaDoor.Fd Go.Deep
set_option maxHeartbeats 4000000 in
set_option maxRecDepth 100000 in
theorem rok_any{B:Option Addr}{m c:Nat}{P:List Rw}{w:World}(hP:PAny w B m c P)(Z:Int)(hZ:Z=if all32 P=true then 0 else 1) :
  Calls Tryd.prog 41 #[.slice B m c] w fun e w'=>e=.returned (.int .i64 Z)∧w=w':=by
 have HP:=Lib.hid hP
 have PL:=Lib.hid hP.len
 have hm:=hP.few
 have HZ:=Lib.hid hZ
 clear hP hZ
 go_enter Tryd.func41,Tryd.ntmps41
 go_wp2_with fail
 go_loopg [3] m (fun g1 vi wr=>∃(i:Nat),vi=.int .i64 i∧i≤m∧m - i≤g1∧Hid (∀r∈P.take i,r.2.1=32)∧w=wr)
 case atStart=>exact⟨0,rfl,Nat.zero_le _,by omega,Lib.hid (fun r h=>by simp at h),rfl⟩
 case round =>
  obtain⟨i,rfl,him,hg,HA,rfl⟩:=hrel
  by_cases hlt:i < m
  ·have q0:(i:Int) < (m:Int):=by omega
   have hl0:i < P.length:=by have:=PL.out;omega
   obtain⟨l,hl⟩:∃l,P[i]?=some l:=⟨P[i],List.getElem?_eq_getElem hl0⟩
   obtain⟨ad,hB,c1⟩:=HP.out.row.at_ hlt
   rw[List.getElem?_map,hl] at c1
   have hTT:=take_all (p:=fun r:Rw=>r.2.1=32) HA.out hl
   have HN:=Lib.hid (fun h:l.2.1≠32=>all32_no (List.mem_of_getElem? hl) h)
   obtain⟨L,nl,cl,y⟩:=l
   have c1':w.cell? (ad.add i)=some (.slice L nl cl):=c1
   have HT:=Lib.hid (show nl=32→∀r∈P.take (i+1),r.2.1=32 from hTT)
   subst hB
   clear c1 hl hl0 hTT
   by_cases h32:nl=32
   ·have q1:((nl:Int) != 32)=false:=by rw[h32];rfl
    have HT2:=Lib.hid (HT.out h32)
    clear h32 HT
    go_wp2_with fail
    go_roundg (m - (i+1))
    case measure=>omega
    case rel=>exact⟨i+1,by go_num,by omega,Nat.le_refl _,HT2,rfl⟩
   ·have q1:((nl:Int) != 32)=true:=by rw[bne_iff_ne];omega
    have HZ1:=Lib.hid (show Z=1 from by rw[HZ.out,if_neg (by rw[HN.out h32];decide)])
    clear h32 HT
    go_wp2_with fail
    go_ret
    exact⟨by rw[HZ1.out];rfl,rfl⟩
  ·have q0:¬(i:Int) < (m:Int):=by omega
   have HZ1:=Lib.hid (show Z=0 from by
    rw[HZ.out,if_pos]
    unfold all32
    rw[List.all_eq_true]
    intro r hr
    refine decide_eq_true (HA.out r ?_)
    rw[List.take_of_length_le (by have:=PL.out;omega)]
    exact hr)
   go_wp2_with fail
   go_ret
   exact⟨by rw[HZ1.out];rfl,rfl⟩
def NoneQ(w:World)(e:Ending)(w':World):Prop:=e=.returned (.tuple #[.slice none 0 0,.int .i64 1])∧Below w.heap.size w w'
end Go.Proofs.YtnnfpmebopgogaaDoor.Mk
namespace Go.Proofs.YtnnfpmebopgogaaDoor.Mk
open Go.RowKit Go.Proofs.YtnnfpmebopgogaaDoor.Gn Go.Proofs.YtnnfpmebopgogaaDoor.Fd Go.Deep
theorem ownB_p{l:List Nat}{w:World}{e:Ending}{w':World}(hl:∀x∈l,x < 256)(h:OwnB l w e w'):∃A n c,e=.returned (.slice A n c)∧Po w' (A,n,c,l)∧Below w.heap.size w w':=OwnB.p h hl
end Go.Proofs.YtnnfpmebopgogaaDoor.Mk
namespace Go.Proofs.YtnnfpmebopgogaaDoor.Mk
open Go.RowKit Go.Proofs.YtnnfpmebopgogaaDoor.Gn Go.Proofs.YtnnfpmebopgogaaDoor.Fd Go.Deep
abbrev spv(a b:Int):Value:=.agg #[.int .i64 a,.int .i64 b]
theorem two_allocs(w:World)(o o':Obj):Below w.heap.size w ((w.alloc o).alloc o'):=((Below.refl _ _).alloc (Nat.le_refl _) o).alloc (by simp) o'
set_option maxHeartbeats 2000000 in
set_option maxRecDepth 100000 in
theorem apart_any(a b f t:Int)(z:Bool)(hz:z=decide (b≤f∨t≤a))(w:World) :
  Calls Tryd.prog 74 #[spv a b,spv f t] w fun e w'=>e=.returned (.bool z)∧Below w.heap.size w w':=by
 have HZ:=Lib.hid hz
 clear hz
 by_cases h1:b≤f
 ·have E:=Lib.hid (show z=true by rw[HZ.out];exact decide_eq_true (Or.inl h1))
  go_enter Tryd.func74,Tryd.ntmps74
  go_wp2_with fail
  go_ret
  exact⟨by rw[E.out];rfl,two_allocs _ _ _⟩
 ·have E:=Lib.hid (show z=decide (t≤a) by rw[HZ.out];exact decide_eq_decide.2 ⟨fun h=>h.resolve_left h1,Or.inr⟩)
  by_cases h2:t≤a
  ·have t1:decide (b≤f)=false:=decide_eq_false h1
   have t2:decide (t≤a)=true:=decide_eq_true h2
   rw[t2] at E
   go_enter Tryd.func74,Tryd.ntmps74
   go_wp2_with fail
   go_ret
   exact⟨by rw[E.out];rfl,two_allocs _ _ _⟩
  ·have t1:decide (b≤f)=false:=decide_eq_false h1
   have t2:decide (t≤a)=false:=decide_eq_false h2
   rw[t2] at E
   go_enter Tryd.func74,Tryd.ntmps74
   go_wp2_with fail
   go_ret
   exact⟨by rw[E.out];rfl,two_allocs _ _ _⟩
set_option maxHeartbeats 2000000 in
set_option maxRecDepth 100000 in
theorem within_any(a b f t:Int)(z:Bool)(hz:z=decide (f≤a∧b≤t))(w:World) :
  Calls Tryd.prog 75 #[spv a b,spv f t] w fun e w'=>e=.returned (.bool z)∧Below w.heap.size w w':=by
 have HZ:=Lib.hid hz
 clear hz
 by_cases h1:f≤a
 ·have E:=Lib.hid (show z=decide (b≤t) by rw[HZ.out];exact decide_eq_decide.2 ⟨fun h=>h.2,fun h=>⟨h1,h⟩⟩)
  by_cases h2:b≤t
  ·have t1:decide (f≤a)=true:=decide_eq_true h1
   have t2:decide (b≤t)=true:=decide_eq_true h2
   rw[t2] at E
   go_enter Tryd.func75,Tryd.ntmps75
   go_wp2_with fail
   go_ret
   exact⟨by rw[E.out];rfl,two_allocs _ _ _⟩
  ·have t1:decide (f≤a)=true:=decide_eq_true h1
   have t2:decide (b≤t)=false:=decide_eq_false h2
   rw[t2] at E
   go_enter Tryd.func75,Tryd.ntmps75
   go_wp2_with fail
   go_ret
   exact⟨by rw[E.out];rfl,two_allocs _ _ _⟩
 ·have E:=Lib.hid (show z=false by rw[HZ.out];exact decide_eq_false (fun h=>h1 h.1))
  have t1:decide (f≤a)=false:=decide_eq_false h1
  go_enter Tryd.func75,Tryd.ntmps75
  go_wp2_with fail
  go_ret
  exact⟨by rw[E.out];rfl,two_allocs _ _ _⟩
theorem sizeSp:(Tryd.prog.info? 75).map (·.size)=some 2:=by kernel_rfl
theorem results_cc{fn:Func}{a b:Tmp}{t t':TypeId}(h:fn.results = #[.cell a t,.cell b t'])(tmps:Array Value)(P:Program)(w:World)(ad ad':Addr)(v u:Value)(ha:tmps.getD a undef=.pointer (some ad))(hb:tmps.getD b undef=.pointer (some ad'))(hl:(loadVar t ad).run P w=.ok v w)(hl':(loadVar t' ad').run P w=.ok u w) :
  (results fn tmps).run P w=.ok (.tuple #[v,u]) w:=by
 have ha':tmps[a]?.getD undef=.pointer (some ad):=by simpa using ha
 have hb':tmps[b]?.getD undef=.pointer (some ad'):=by simpa using hb
 simp[results,h,ha',hb',hl,hl',asAddr]
theorem halves_end(w:World)(o:Obj)(a b c d:Int):∃W,W=(((w.alloc o).alloc (.cells #[.int .i64 a,.int .i64 b] 75)).alloc (.cells #[.int .i64 c,.int .i64 d] 75)).drew.drew∧Bl W (w.heap.size+1) 75 #[.int .i64 a,.int .i64 b]∧Bl W (w.heap.size+1+1) 75 #[.int .i64 c,.int .i64 d]∧Below w.heap.size w W:=by
 refine⟨_,rfl,?_,?_,?_⟩
 ·exact((Bl.new' (w:=w.alloc o) 75 #[.int .i64 a,.int .i64 b] (asize _ _)).alloc _).drew.drew
 ·exact(Bl.new' (w:=(w.alloc o).alloc (.cells #[.int .i64 a,.int .i64 b] 75)) 75 #[.int .i64 c,.int .i64 d] (by rw[asize,asize])).drew.drew
 ·exact((((Below.refl w.heap.size w).alloc (Nat.le_refl _) o).alloc (by rw[asize];omega) _).alloc (by rw[asize,asize];omega) _).drew.drew
set_option maxHeartbeats 2000000 in
set_option maxRecDepth 100000 in
theorem halves_any(a n:Nat)(h2:2≤n)(hn:n≤4096)(ha:a≤4096)(w:World) :
  Calls Tryd.prog 76 #[spv (a:Int) ((a+n:Nat):Int)] w fun e w'=>e=.returned (.tuple #[spv (a:Int) ((a+half n:Nat):Int),spv ((a+half n:Nat):Int) ((a+n:Nat):Int)])∧Below w.heap.size w w':=by
 have HF:=Lib.hid (fun w=>half_any h2 (by omega) w)
 have hs:=half_spec h2
 obtain⟨H,hH⟩:∃H,H=half n:=⟨_,rfl⟩
 rw[←hH] at HF hs ⊢
 obtain⟨b,hb⟩:∃b,b=a+n:=⟨_,rfl⟩
 obtain⟨d,hd⟩:∃d,d=a+H:=⟨_,rfl⟩
 rw[←hb,←hd]
 have e1:(b:Int) - (a:Int)=(n:Int):=by omega
 have e2:(a:Int)+(H:Int)=(d:Int):=by omega
 have w1:IntKind.i64.wrap (n:Int)=(n:Int):=Go.IntWalk.i64_in _ (by omega)
 have w2:IntKind.i64.wrap (d:Int)=(d:Int):=Go.IntWalk.i64_in _ (by omega)
 clear hb hd hH
 go_enter Tryd.func76,Tryd.ntmps76
 go_wp2_with fail
 obtain⟨W,hW,x1,x2,x3⟩:=halves_end w (.cells #[.int .i64 (a:Int),.int .i64 (b:Int)] 75) (a:Int) (d:Int) (d:Int) (b:Int)
 have HW:=Lib.hid hW
 have X1:=Lib.hid x1
 have X2:=Lib.hid x2
 have X3:=Lib.hid x3
 clear hW x1 x2 x3
 go_region_with ((go_at_call 69;(with_reducible refine(HF.out _).mono ?_);rintro e w1 ⟨rfl,rfl⟩))
 all_goals
  go_wp2_with fail
  go_region
 all_goals
  rw[←HW.out]
  go_wp2_with fail
  refine bodyPost_ret (v:=.tuple #[.agg #[.int .i64 (a:Int),.int .i64 (d:Int)],.agg #[.int .i64 (d:Int),.int .i64 (b:Int)]]) (results_cc Tryd.results76 _ _ _ ⟨w.heap.size+1,0,none⟩ ⟨w.heap.size+1+1,0,none⟩ _ _ (by kernel_rfl) (by kernel_rfl) (run_loadVar_row W (w.heap.size+1) 75 75 #[.int .i64 (a:Int),.int .i64 (d:Int)] (0,0) _ X1.out Tryd.underlying75 rfl sizeSp) (run_loadVar_row W (w.heap.size+1+1) 75 75 #[.int .i64 (d:Int),.int .i64 (b:Int)] (0,0) _ X2.out Tryd.underlying75 rfl sizeSp)) rfl ⟨rfl,X3.out⟩
end Go.Proofs.YtnnfpmebopgogaaDoor.Mk
