/- Joined texts. -/
import Derived.Test.YtkahelhoaihajaaQfWrNext
import Derived.Test.YtkahelhoaihajaaQfScBytes
set_option linter.unusedVariables false
namespace Go.Proofs.Ytkahelhoaihajaa.Wr
open Go.RowKit Go.Proofs.Ytkahelhoaihajaa.Gn Go.Proofs.Ytkahelhoaihajaa.Fd Go.Deep
set_option maxRecDepth 100000
def inB(n a b:Int):Bool:=decide (a≤n) && decide (n≤b)
set_option maxHeartbeats 4000000 in
theorem within_int64(n a b:Int)(w:World):Calls Try.prog 68 #[.int .i64 n,.int .i64 a,.int .i64 b] w fun e w'=>e=.returned (.bool (inB n a b))∧w=w':=by
 unfold inB
 by_cases h:a≤n
 ·rw[decide_eq_true h,Bool.true_and]
  go_enter Try.func68,Try.ntmps68
  go_wp2_with fail
  go_ret
  exact⟨rfl,rfl⟩
 ·rw[decide_eq_false h,Bool.false_and]
  go_enter Try.func68,Try.ntmps68
  go_wp2_with fail
  go_ret
  exact⟨rfl,rfl⟩
set_option maxHeartbeats 4000000 in
theorem within_int(n a b:Int)(w:World):Calls Try.prog 70 #[.int .i64 n,.int .i64 a,.int .i64 b] w fun e w'=>e=.returned (.bool (inB n a b))∧w=w':=by
 unfold inB
 by_cases h:a≤n
 ·rw[decide_eq_true h,Bool.true_and]
  go_enter Try.func70,Try.ntmps70
  go_wp2_with fail
  go_ret
  exact⟨rfl,rfl⟩
 ·rw[decide_eq_false h,Bool.false_and]
  go_enter Try.func70,Try.ntmps70
  go_wp2_with fail
  go_ret
  exact⟨rfl,rfl⟩
set_option maxHeartbeats 4000000 in
theorem cl_Num{K:Int}{N:Nat}{r:Rw}{B:Option Addr}{cc:Nat}{us:List Tv}(w:World):Calls Try.prog 66 #[.agg #[.int .i64 K,.int .u64 (N:Int),.slice r.1 r.2.1 r.2.2.1,.slice B us.length cc]] w fun e w'=>e=.returned (.bool true)∧Below w.heap.size w w':=by
 have B0:=Lib.hid (below_one w (.cells #[.int .i64 K,.int .u64 (N:Int),.slice r.1 r.2.1 r.2.2.1,.slice B us.length cc] 26))
 go_enter Try.func66,Try.ntmps66
 go_wp2_with fail
 go_ret
 first|exact⟨rfl,B0.out⟩|exact⟨rfl,Below.refl _ _⟩
def isI(N:Nat):Bool:=decide ((N:Int)≤9223372036854775807)
set_option maxHeartbeats 4000000 in
theorem cl_Int{K:Int}{N:Nat}{r:Rw}{B:Option Addr}{cc:Nat}{us:List Tv}(pa pb:Nat)(a b:Int)(w:World)(ha:w.cell? ⟨pa,0,none⟩=some (.int .i64 a))(hb:w.cell? ⟨pb,0,none⟩=some (.int .i64 b)):Calls Try.prog 67 #[.agg #[.int .i64 K,.int .u64 (N:Int),.slice r.1 r.2.1 r.2.2.1,.slice B us.length cc],.pointer (some ⟨pa,0,none⟩),.pointer (some ⟨pb,0,none⟩)] w fun e w'=>e=.returned (.bool (isI N && inB (N:Int) a b))∧Below w.heap.size w w':=by
 obtain⟨m,hm⟩:∃m,us.length=m:=⟨_,rfl⟩
 rw[hm]
 clear hm
 have B0:=Lib.hid (below_one w (.cells #[.int .i64 K,.int .u64 (N:Int),.slice r.1 r.2.1 r.2.2.1,.slice B m cc] 26))
 have ha1:(w.alloc (.cells #[.int .i64 K,.int .u64 (N:Int),.slice r.1 r.2.1 r.2.2.1,.slice B m cc] 26)).cell? ⟨pa,0,none⟩=some (.int .i64 a):=(B0.out.cell (cell_lt ha)).trans ha
 have hb1:(w.alloc (.cells #[.int .i64 K,.int .u64 (N:Int),.slice r.1 r.2.1 r.2.2.1,.slice B m cc] 26)).cell? ⟨pb,0,none⟩=some (.int .i64 b):=(B0.out.cell (cell_lt hb)).trans hb
 have CI:=Lib.hid (fun u=>within_int64 (N:Int) a b u)
 obtain⟨rb,hrb⟩:∃rb,inB (N:Int) a b=rb:=⟨_,rfl⟩
 rw[hrb] at CI ⊢
 cases hi:isI N with
 |false =>
  have hi2:decide ((N:Int)≤9223372036854775807)=false:=hi
  clear hi hrb ha hb
  rw[Bool.false_and]
  go_enter Try.func67,Try.ntmps67
  go_wp2_with fail
  go_ret
  exact⟨rfl,B0.out⟩
 |true =>
  have hi2:decide ((N:Int)≤9223372036854775807)=true:=hi
  have ew:IntKind.i64.wrap (N:Int)=(N:Int):=_root_.Go.IntWalk.i64_in _ (by have:=of_decide_eq_true hi2;omega)
  clear hi hrb ha hb
  rw[Bool.true_and]
  go_enter Try.func67,Try.ntmps67
  go_wp2_with (go_at_call 68;(refine(CI.out _).mono ?_);rintro e w1 ⟨rfl,rfl⟩)
  go_ret
  exact⟨rfl,B0.out⟩
set_option maxHeartbeats 4000000 in
theorem cl_Bytes{K:Int}{N:Nat}{r:Rw}{B:Option Addr}{cc:Nat}{us:List Tv}(pa pb:Nat)(a b:Int)(w:World)(ha:w.cell? ⟨pa,0,none⟩=some (.int .i64 a))(hb:w.cell? ⟨pb,0,none⟩=some (.int .i64 b)):Calls Try.prog 69 #[.agg #[.int .i64 K,.int .u64 (N:Int),.slice r.1 r.2.1 r.2.2.1,.slice B us.length cc],.pointer (some ⟨pa,0,none⟩),.pointer (some ⟨pb,0,none⟩)] w fun e w'=>e=.returned (.bool (inB (r.2.1:Int) a b))∧Below w.heap.size w w':=by
 obtain⟨m,hm⟩:∃m,us.length=m:=⟨_,rfl⟩
 rw[hm]
 clear hm
 have B0:=Lib.hid (below_one w (.cells #[.int .i64 K,.int .u64 (N:Int),.slice r.1 r.2.1 r.2.2.1,.slice B m cc] 26))
 have ha1:(w.alloc (.cells #[.int .i64 K,.int .u64 (N:Int),.slice r.1 r.2.1 r.2.2.1,.slice B m cc] 26)).cell? ⟨pa,0,none⟩=some (.int .i64 a):=(B0.out.cell (cell_lt ha)).trans ha
 have hb1:(w.alloc (.cells #[.int .i64 K,.int .u64 (N:Int),.slice r.1 r.2.1 r.2.2.1,.slice B m cc] 26)).cell? ⟨pb,0,none⟩=some (.int .i64 b):=(B0.out.cell (cell_lt hb)).trans hb
 have CI:=Lib.hid (fun u=>within_int (r.2.1:Int) a b u)
 clear ha hb
 go_enter Try.func69,Try.ntmps69
 go_wp2_with (go_at_call 70;(refine(CI.out _).mono ?_);rintro e w1 ⟨rfl,rfl⟩)
 go_ret
 exact⟨rfl,B0.out⟩
set_option maxHeartbeats 4000000 in
theorem cl_List{K:Int}{N:Nat}{r:Rw}{B:Option Addr}{cc:Nat}{us:List Tv}(pa pb:Nat)(a b:Int)(w:World)(ha:w.cell? ⟨pa,0,none⟩=some (.int .i64 a))(hb:w.cell? ⟨pb,0,none⟩=some (.int .i64 b)):Calls Try.prog 75 #[.agg #[.int .i64 K,.int .u64 (N:Int),.slice r.1 r.2.1 r.2.2.1,.slice B us.length cc],.pointer (some ⟨pa,0,none⟩),.pointer (some ⟨pb,0,none⟩)] w fun e w'=>e=.returned (.bool (inB (us.length:Int) a b))∧Below w.heap.size w w':=by
 obtain⟨m,hm⟩:∃m,us.length=m:=⟨_,rfl⟩
 rw[hm]
 clear hm
 have B0:=Lib.hid (below_one w (.cells #[.int .i64 K,.int .u64 (N:Int),.slice r.1 r.2.1 r.2.2.1,.slice B m cc] 26))
 have ha1:(w.alloc (.cells #[.int .i64 K,.int .u64 (N:Int),.slice r.1 r.2.1 r.2.2.1,.slice B m cc] 26)).cell? ⟨pa,0,none⟩=some (.int .i64 a):=(B0.out.cell (cell_lt ha)).trans ha
 have hb1:(w.alloc (.cells #[.int .i64 K,.int .u64 (N:Int),.slice r.1 r.2.1 r.2.2.1,.slice B m cc] 26)).cell? ⟨pb,0,none⟩=some (.int .i64 b):=(B0.out.cell (cell_lt hb)).trans hb
 have CI:=Lib.hid (fun u=>within_int (m:Int) a b u)
 clear ha hb
 go_enter Try.func75,Try.ntmps75
 go_wp2_with (go_at_call 70;(refine(CI.out _).mono ?_);rintro e w1 ⟨rfl,rfl⟩)
 go_ret
 exact⟨rfl,B0.out⟩
set_option maxHeartbeats 4000000 in
theorem cl_Score{K:Int}{N:Nat}{r:Rw}{B:Option Addr}{cc:Nat}{us:List Tv}{w:World}(hr:Pc w r)(hn:r.2.1≤1000000):Calls Try.prog 73 #[.agg #[.int .i64 K,.int .u64 (N:Int),.slice r.1 r.2.1 r.2.2.1,.slice B us.length cc]] w fun e w'=>e=.returned (.bool (decide (Sc.rdE r.2.2.2=0)))∧Below w.heap.size w w':=by
 obtain⟨m,hm⟩:∃m,us.length=m:=⟨_,rfl⟩
 rw[hm]
 clear hm
 have B0:=Lib.hid (below_one w (.cells #[.int .i64 K,.int .u64 (N:Int),.slice r.1 r.2.1 r.2.2.1,.slice B m cc] 26))
 have CR:=Lib.hid (fun u (hu:Below w.heap.size w u)=>Sc.read_any r.1 r.2.1 r.2.2.1 r.2.2.2 u (by omega) hr.lt (by have h:=(hr.below hu).row;rw[←hr.len] at h;exact⟨h.1,h.2⟩))
 obtain⟨er,her⟩:∃er,Sc.rdE r.2.2.2=er:=⟨_,rfl⟩
 rw[her] at CR ⊢
 clear her hr hn
 go_enter Try.func73,Try.ntmps73
 go_wp2_with (go_at_call 74;(refine(CR.out _ B0.out).mono ?_);rintro e w1 ⟨rfl,rfl⟩)
 go_ret
 exact⟨by rfl,B0.out⟩
end Go.Proofs.Ytkahelhoaihajaa.Wr
