/- Joined texts. -/
import Derived.WalkKit
import Derived.WalkSpells
import Derived.WalkLawsBesides
import Derived.Lib.Hide
import Derived.ProofKit
import Derived.OpenShut
import Derived.Deep.Slices
import Derived.Deep.RegionWith
import Derived.Test.YteblmphohhbgcaaProg
import Derived.Test.YteblmphohhbgcaaQaWrNext
set_option linter.unusedVariables false
namespace Go.Proofs.Yteblmphohhbgcaa.Sc
open Go.RowKit
def bl(l:List Nat):List Value:=l.map fun(x:Nat)=>Value.int .u8 (x:Int)
end Go.Proofs.Yteblmphohhbgcaa.Sc
namespace Go.Proofs.Yteblmphohhbgcaa.Wr
open Go.RowKit Go.Proofs.Yteblmphohhbgcaa.Gn Go.Proofs.Yteblmphohhbgcaa.Fd Go.Deep
set_option maxRecDepth 100000
def inB(n a b:Int):Bool:=decide (a≤n) && decide (n≤b)
set_option maxHeartbeats 4000000 in
theorem within_int64(n a b:Int)(w:World):Calls Try.prog 87 #[.int .i64 n,.int .i64 a,.int .i64 b] w fun e w'=>e=.returned (.bool (inB n a b))∧w=w':=by
 unfold inB
 by_cases h:a≤n
 ·rw[decide_eq_true h,Bool.true_and]
  go_enter Try.func87,Try.ntmps87
  go_wp2_with fail
  go_ret
  exact⟨rfl,rfl⟩
 ·rw[decide_eq_false h,Bool.false_and]
  go_enter Try.func87,Try.ntmps87
  go_wp2_with fail
  go_ret
  exact⟨rfl,rfl⟩
set_option maxHeartbeats 4000000 in
theorem within_int(n a b:Int)(w:World):Calls Try.prog 89 #[.int .i64 n,.int .i64 a,.int .i64 b] w fun e w'=>e=.returned (.bool (inB n a b))∧w=w':=by
 unfold inB
 by_cases h:a≤n
 ·rw[decide_eq_true h,Bool.true_and]
  go_enter Try.func89,Try.ntmps89
  go_wp2_with fail
  go_ret
  exact⟨rfl,rfl⟩
 ·rw[decide_eq_false h,Bool.false_and]
  go_enter Try.func89,Try.ntmps89
  go_wp2_with fail
  go_ret
  exact⟨rfl,rfl⟩
def isI(N:Nat):Bool:=decide ((N:Int)≤9223372036854775807)
set_option maxHeartbeats 4000000 in
theorem cl_Int{K:Int}{N:Nat}{r:Rw}{B:Option Addr}{cc:Nat}{us:List Tv}(pa pb:Nat)(a b:Int)(w:World)(ha:w.cell? ⟨pa,0,none⟩=some (.int .i64 a))(hb:w.cell? ⟨pb,0,none⟩=some (.int .i64 b)):Calls Try.prog 86 #[.agg #[.int .i64 K,.int .u64 (N:Int),.slice r.1 r.2.1 r.2.2.1,.slice B us.length cc],.pointer (some ⟨pa,0,none⟩),.pointer (some ⟨pb,0,none⟩)] w fun e w'=>e=.returned (.bool (isI N && inB (N:Int) a b))∧Below w.heap.size w w':=by
 obtain⟨m,hm⟩:∃m,us.length=m:=⟨_,rfl⟩
 rw[hm]
 clear hm
 have B0:=Lib.hid (below_one w (.cells #[.int .i64 K,.int .u64 (N:Int),.slice r.1 r.2.1 r.2.2.1,.slice B m cc] 80))
 have ha1:(w.alloc (.cells #[.int .i64 K,.int .u64 (N:Int),.slice r.1 r.2.1 r.2.2.1,.slice B m cc] 80)).cell? ⟨pa,0,none⟩=some (.int .i64 a):=(B0.out.cell (cell_lt ha)).trans ha
 have hb1:(w.alloc (.cells #[.int .i64 K,.int .u64 (N:Int),.slice r.1 r.2.1 r.2.2.1,.slice B m cc] 80)).cell? ⟨pb,0,none⟩=some (.int .i64 b):=(B0.out.cell (cell_lt hb)).trans hb
 have CI:=Lib.hid (fun u=>within_int64 (N:Int) a b u)
 obtain⟨rb,hrb⟩:∃rb,inB (N:Int) a b=rb:=⟨_,rfl⟩
 rw[hrb] at CI ⊢
 cases hi:isI N with
 |false =>
  have hi2:decide ((N:Int)≤9223372036854775807)=false:=hi
  clear hi hrb ha hb
  rw[Bool.false_and]
  go_enter Try.func86,Try.ntmps86
  go_wp2_with fail
  go_ret
  exact⟨rfl,B0.out⟩
 |true =>
  have hi2:decide ((N:Int)≤9223372036854775807)=true:=hi
  have ew:IntKind.i64.wrap (N:Int)=(N:Int):=_root_.Go.IntWalk.i64_in _ (by have:=of_decide_eq_true hi2;omega)
  clear hi hrb ha hb
  rw[Bool.true_and]
  go_enter Try.func86,Try.ntmps86
  go_wp2_with (go_at_call 87;(refine(CI.out _).mono ?_);rintro e w1 ⟨rfl,rfl⟩)
  go_ret
  exact⟨rfl,B0.out⟩
set_option maxHeartbeats 4000000 in
theorem cl_Bytes{K:Int}{N:Nat}{r:Rw}{B:Option Addr}{cc:Nat}{us:List Tv}(pa pb:Nat)(a b:Int)(w:World)(ha:w.cell? ⟨pa,0,none⟩=some (.int .i64 a))(hb:w.cell? ⟨pb,0,none⟩=some (.int .i64 b)):Calls Try.prog 88 #[.agg #[.int .i64 K,.int .u64 (N:Int),.slice r.1 r.2.1 r.2.2.1,.slice B us.length cc],.pointer (some ⟨pa,0,none⟩),.pointer (some ⟨pb,0,none⟩)] w fun e w'=>e=.returned (.bool (inB (r.2.1:Int) a b))∧Below w.heap.size w w':=by
 obtain⟨m,hm⟩:∃m,us.length=m:=⟨_,rfl⟩
 rw[hm]
 clear hm
 have B0:=Lib.hid (below_one w (.cells #[.int .i64 K,.int .u64 (N:Int),.slice r.1 r.2.1 r.2.2.1,.slice B m cc] 80))
 have ha1:(w.alloc (.cells #[.int .i64 K,.int .u64 (N:Int),.slice r.1 r.2.1 r.2.2.1,.slice B m cc] 80)).cell? ⟨pa,0,none⟩=some (.int .i64 a):=(B0.out.cell (cell_lt ha)).trans ha
 have hb1:(w.alloc (.cells #[.int .i64 K,.int .u64 (N:Int),.slice r.1 r.2.1 r.2.2.1,.slice B m cc] 80)).cell? ⟨pb,0,none⟩=some (.int .i64 b):=(B0.out.cell (cell_lt hb)).trans hb
 have CI:=Lib.hid (fun u=>within_int (r.2.1:Int) a b u)
 clear ha hb
 go_enter Try.func88,Try.ntmps88
 go_wp2_with (go_at_call 89;(refine(CI.out _).mono ?_);rintro e w1 ⟨rfl,rfl⟩)
 go_ret
 exact⟨rfl,B0.out⟩
set_option maxHeartbeats 4000000 in
theorem cl_List{K:Int}{N:Nat}{r:Rw}{B:Option Addr}{cc:Nat}{us:List Tv}(pa pb:Nat)(a b:Int)(w:World)(ha:w.cell? ⟨pa,0,none⟩=some (.int .i64 a))(hb:w.cell? ⟨pb,0,none⟩=some (.int .i64 b)):Calls Try.prog 94 #[.agg #[.int .i64 K,.int .u64 (N:Int),.slice r.1 r.2.1 r.2.2.1,.slice B us.length cc],.pointer (some ⟨pa,0,none⟩),.pointer (some ⟨pb,0,none⟩)] w fun e w'=>e=.returned (.bool (inB (us.length:Int) a b))∧Below w.heap.size w w':=by
 obtain⟨m,hm⟩:∃m,us.length=m:=⟨_,rfl⟩
 rw[hm]
 clear hm
 have B0:=Lib.hid (below_one w (.cells #[.int .i64 K,.int .u64 (N:Int),.slice r.1 r.2.1 r.2.2.1,.slice B m cc] 80))
 have ha1:(w.alloc (.cells #[.int .i64 K,.int .u64 (N:Int),.slice r.1 r.2.1 r.2.2.1,.slice B m cc] 80)).cell? ⟨pa,0,none⟩=some (.int .i64 a):=(B0.out.cell (cell_lt ha)).trans ha
 have hb1:(w.alloc (.cells #[.int .i64 K,.int .u64 (N:Int),.slice r.1 r.2.1 r.2.2.1,.slice B m cc] 80)).cell? ⟨pb,0,none⟩=some (.int .i64 b):=(B0.out.cell (cell_lt hb)).trans hb
 have CI:=Lib.hid (fun u=>within_int (m:Int) a b u)
 clear ha hb
 go_enter Try.func94,Try.ntmps94
 go_wp2_with (go_at_call 89;(refine(CI.out _).mono ?_);rintro e w1 ⟨rfl,rfl⟩)
 go_ret
 exact⟨rfl,B0.out⟩
end Go.Proofs.Yteblmphohhbgcaa.Wr
namespace Go.Proofs.Yteblmphohhbgcaa.Wr
open Go.RowKit Go.Proofs.Yteblmphohhbgcaa.Gn Go.Proofs.Yteblmphohhbgcaa.Fd Go.Deep
set_option maxRecDepth 100000
theorem miss_on{w w1:World}{g:Nat}{wh:Bool}{ks:List Tv}(h:Fl w g wh ks)(hb:Below (w.heap.size+1) (w.alloc nodo) w1)(U:World)(hU:U=(w1.setCell ⟨g,0,none⟩ (.bool false)).setCell ⟨g,1,none⟩ (.slice none 0 0)) :
  Bl U g 146 #[.bool false,.slice none 0 0]∧Bl U w.heap.size 80 #[.int .i64 0,.int .u64 0,.slice none 0 0,.slice none 0 0]∧w.grownBy U (some g):=by
 obtain⟨A,c,hr,-⟩:=h.row
 have glt:=hr.lt
 have hb':Below (w.alloc nodo).heap.size (w.alloc nodo) w1:=by rw[show(w.alloc nodo).heap.size=w.heap.size+1 by simp];exact hb
 have RG:=(hr.alloc nodo).below' hb'
 have HL:=(Bl.new_ w 80 #[.int .i64 0,.int .u64 0,.slice none 0 0,.slice none 0 0]).below' hb'
 have BW:Below w.heap.size w w1:=(below_one w nodo).trans (hb.mono (Nat.le_succ _))
 subst hU
 exact⟨(RG.set_ 0 _).set_ 1 _,(HL.other (p:=⟨g,0,none⟩) (by show w.heap.size≠g;omega) _).other (p:=⟨g,1,none⟩) (by show w.heap.size≠g;omega) _,only_set (only_set (only_below BW (some g)) (p:=⟨g,0,none⟩) (Or.inl rfl) _) (p:=⟨g,1,none⟩) (Or.inl rfl) _⟩
set_option maxHeartbeats 4000000 in
theorem next_kind{w:World}{g:Nat}{wh:Bool}{K:Int}{N:Nat}{r:Rw}{B:Option Addr}{cc:Nat}{us ks:List Tv}(h:Fl w g wh ((.mk K N r B cc us) :: ks))(k:Int)(hk:¬K=k)(fv:Value):Calls Try.prog 85 #[.pointer (some ⟨g,0,none⟩),.int .i64 k,fv] w (NxQ tv0 false [] g w):=by
 obtain⟨U,hU⟩:∃U,((w.alloc nodo).setCell ⟨g,0,none⟩ (.bool false)).setCell ⟨g,1,none⟩ (.slice none 0 0)=U:=⟨_,rfl⟩
 obtain⟨RU,LU,GU,-⟩:=miss_end h U hU.symm
 obtain⟨A,c,hr,hs,h0,hc,hA⟩:=h.row
 obtain⟨ad,rfl,k0,k1,k2,k3⟩:=head_cells (hs.below (below_one w nodo))
 obtain⟨m,hm⟩:∃m,(Tv.mk K N r B cc us :: ks).length=m:=⟨_,rfl⟩
 have m1:1≤m:=by rw[←hm];simp
 have m0:¬(m:Int)=0:=by omega
 have m2:0 < (m:Int):=by omega
 have glt:=hr.lt
 have RG:=hr.alloc nodo
 rw[hm] at RG
 have r0:(w.alloc nodo).cell? ⟨g,0,none⟩=some (.bool wh):=RG.cell_ rfl
 have r1:(w.alloc nodo).cell? ⟨g,1,none⟩=some (.slice (some ad) m c):=RG.cell_ rfl
 have f0:=RG.frozen 0
 have f1:=RG.frozen 1
 have c0:U.cell? ⟨w.heap.size,0,none⟩=some (.int .i64 0):=LU.cell_ rfl
 have c1:U.cell? ⟨w.heap.size,1,none⟩=some (.int .u64 0):=LU.cell_ rfl
 have c2:U.cell? ⟨w.heap.size,2,none⟩=some (.slice none 0 0):=LU.cell_ rfl
 have c3:U.cell? ⟨w.heap.size,3,none⟩=some (.slice none 0 0):=LU.cell_ rfl
 have z0:=LU.frozen 0
 have z1:=LU.frozen 1
 have z2:=LU.frozen 2
 have z3:=LU.frozen 3
 have HZ:=Lib.hid (And.intro glt (And.intro RU (And.intro LU GU)))
 clear h hr hs h0 hc hA hm m1 RG glt RU LU GU
 go_enter Try.func85,Try.ntmps85
 go_wp2_with fail
 obtain⟨glt,RU,LU,GU⟩:=HZ.out
 exact⟨rfl,_,results_c rfl _ _ _ ⟨w.heap.size,0,none⟩ _ (by kernel_rfl) (run_loadVar_row _ w.heap.size 80 80 #[.int .i64 0,.int .u64 0,.slice none 0 0,.slice none 0 0] (0,0) _ (st4_bl LU _ _ _ _) Try.underlying80 rfl size34),rfl,st4_fl (fl_nil RU) glt _ _ _ _,st4_only GU (Nat.le_refl _) _ _ _ _,ok_tv0 _⟩
end Go.Proofs.Yteblmphohhbgcaa.Wr
