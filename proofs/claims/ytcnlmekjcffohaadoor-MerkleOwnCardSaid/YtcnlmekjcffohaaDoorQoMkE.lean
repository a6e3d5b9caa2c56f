/- Joined texts. -/
import Derived.Test.YtcnlmekjcffohaaDoorQoMkD
import Derived.Test.YtcnlmekjcffohaaDoorQoPuA
set_option linter.unusedVariables false
namespace Go.Proofs.YtcnlmekjcffohaaDoor.Mk
open Go.RowKit Go.Proofs.YtcnlmekjcffohaaDoor.Gn Go.Proofs.YtcnlmekjcffohaaDoor.Fd Go.Deep
set_option maxRecDepth 100000 in
set_option maxHeartbeats 2000000 in
theorem Empty_any(n k:Nat)(hn:n≤4096)(hk:k=(n+7) / 8)(w:World) :
  Calls Tryd.prog 28 #[.int .i64 (n:Int)] w fun e w'=>∃g,e=.returned (.tuple #[.slice (some ⟨g,0,none⟩) k k,.int .i64 0])∧Pc w' (some ⟨g,0,none⟩,k,k,List.replicate k 0)∧w.heap.size≤g∧Below w.heap.size w w':=by
 have hk9:k≤1000:=by omega
 have hmk:∀w,(Instr.makeSlice 22 (.int .i64 (k:Int)) (.int .i64 (k:Int))).run Tryd.prog w=.ok (.slice (some ⟨w.heap.size,0,none⟩) k k) (w.alloc (.cells (madeCells #[.int .u8 0] k) 5)) :=
  fun w=>run_make_row' (P:=Tryd.prog) 22 5 (.int .u8 0) 1 Tryd.underlying22 infob rfl .i64 .i64 k (by omega) (by omega) w
 have hZ:madeCells #[Value.int .u8 0] k=(bl (List.replicate k 0)).toArray:=by
  apply Array.toList_inj.1
  rw[toList_madeCells_one];unfold bl;simp
 rw[hZ] at hmk
 obtain⟨l,hl⟩:∃l,List.replicate k 0=l:=⟨_,rfl⟩
 have hll:l.length=k:=by rw[←hl];simp
 have PC:=Lib.hid (show Pc (w.alloc (.cells (bl l).toArray 5)) (some ⟨w.heap.size,0,none⟩,k,k,l) from
  ⟨hll.symm,Sl.of_bl (Bl.new_ w _ (bl l).toArray) 0 _ _ (by rw[bl_length]) (fun k v hk=>by rw[Nat.zero_add];simpa using hk),fun x hx=>by rw[←hl] at hx;rw[(List.mem_replicate.1 hx).2];decide,by show l.length≤k;omega,fun h=>by cases h⟩)
 have BB:=Lib.hid ((Below.refl w.heap.size w).alloc (Nat.le_refl _) (.cells (bl l).toArray 5))
 have t1:cnt (n:Int)=true:=by unfold cnt;rw[decide_eq_true (by omega),decide_eq_true (by omega)];rfl
 have CA:=fun w=>counted_any (n:Int) w
 have CB:=fun w=>mapSize_any n hn w
 rw[←hk] at CB
 rw[t1] at CA
 rw[hl] at hmk ⊢
 have CA:=Lib.hid CA
 have CB:=Lib.hid CB
 clear t1 hl hZ hk
 go_enter Tryd.func28,Tryd.ntmps28
 go_wp2_with (first|(go_at_call 51;(with_reducible refine(CA.out _).mono ?_);rintro e w1 ⟨rfl,rfl⟩)|(go_at_call 52;(with_reducible refine(CB.out _).mono ?_);rintro e w1 ⟨rfl,rfl⟩))
 go_ret2
 exact⟨_,rfl,PC.out,Nat.le_refl _,BB.out⟩
end Go.Proofs.YtcnlmekjcffohaaDoor.Mk
