/- Joined texts. -/
import Derived.Test.YteblmphohhbgcaaQaWrCopy
import Derived.Deep.RegionWith
import Derived.Deep.RegionHeld3
import Derived.Laws.BytesArg
import Derived.Test.YteblmphohhbgcaaQaMkSeq
set_option linter.unusedVariables false
namespace Go.Proofs.Yteblmphohhbgcaa.Wr
open Go.RowKit Go.Proofs.Yteblmphohhbgcaa.Gn Go.Proofs.Yteblmphohhbgcaa.Fd Go.Deep
theorem szC_le{l:List Nat}(h:noC l=false):szC l≤9:=by
 cases l with
 |nil=>simp[szC]
 |cons x t =>
  simp only[szC]
  split
  ·omega
  ·simp only[noC] at h
   by_cases h2:199 < x
   ·exfalso;revert h;cases t <;> simp[show ¬x < 192 by omega,h2]
   ·omega
theorem rcl_lt{l:List Nat}(hl:∀x∈l,x < 256){n m:Nat}(h:rcl l=(n,m,0)):n < 18446744073709551616:=by
 unfold rcl at h
 split at h
 ·cases h
 ·rename_i h1
  split at h
  ·cases h
  ·split at h
   ·cases h
    cases l with
    |nil=>decide
    |cons x t=>have:=hl x List.mem_cons_self;simp only[List.headD_cons];omega
   ·cases h
    have h3:=szC_le (l:=l) (by simpa using h1)
    have h4:=be_lt _ ((l.drop 1).take (szC l - 1)) rfl (fun x hx=>hl x (List.mem_of_mem_drop (List.mem_of_mem_take hx)))
    refine Nat.lt_of_lt_of_le h4 ?_
    refine Nat.le_trans (Nat.pow_le_pow_right (n:=256) (by decide) (show _≤8 from ?_)) (by decide)
    rw[List.length_take];omega
theorem tvalue_any:∀F,Vf F:=by
 intro F
 induction F using Nat.strongRecOn with
 |ind F IH =>
 intro w g a b c d k r p deep h d0 d1 k0 k1 hl9 dp0 dp1 hF
 obtain⟨f,rfl⟩:∃f,F=f+1:=⟨F - 1,by omega⟩
 have pl:p≤r.2.2.2.length:=h.le
 rw[rdv]
 by_cases hp:p=r.2.2.2.length
 ·rw[if_pos hp];exact tval_short h deep hp
 rw[if_neg hp]
 by_cases hd:b < deep
 ·rw[if_pos hd];exact tval_deep h deep hp hd
 rw[if_neg hd]
 by_cases hk:k=c
 ·rw[if_pos hk];subst hk;exact tval_many h deep hp hd
 rw[if_neg hk]
 have k9:k≤1000000:=by omega
 obtain⟨x,hx⟩:∃x,r.2.2.2[p]?=some x:=⟨_,List.getElem?_eq_getElem (by omega)⟩
 have hg:r.2.2.2.getD p 0=x:=by rw[List.getD_eq_getElem?_getD,hx];rfl
 rw[hg]
 rcases hr:rcl (r.2.2.2.drop (p+1)) with⟨n,m,e⟩
 have hm:=rcl_le hr
 rw[List.length_drop] at hm
 simp only[]
 by_cases x1:x=1
 ·rw[if_pos x1]
  subst x1
  by_cases he:e=0
  ·rw[if_pos he];subst he
   exact tval_num h deep hp hd hk k0 k9 hl9 hx hr (rcl_lt (fun y hy=>h.pc.lt y (List.mem_of_mem_drop hy)) hr)
  ·rw[if_neg he];exact(tval_numbad h deep hp hd hk k0 k9 hl9 hx hr he).mono fun e_ w' hh=>⟨by rw[hh.1];rfl,hh.2⟩
 rw[if_neg x1]
 by_cases x2:x=2
 ·rw[if_pos x2]
  subst x2
  by_cases he:e=0
  ·rw[if_pos he];subst he
   by_cases hn:d < (n:Int)
   ·rw[if_pos hn];exact tval_long h deep hp hd hk k0 k9 hl9 hx hr d0 d1 hn
   rw[if_neg hn]
   by_cases hs:r.2.2.2.length < p+1+m+n
   ·rw[if_pos hs];exact tval_few h deep hp hd hk k0 k9 hl9 hx hr d0 d1 hn hs
   ·rw[if_neg hs];exact tval_bytes h deep hp hd hk k0 k9 hl9 hx hr d0 d1 hn (by omega)
  ·rw[if_neg he];exact(tval_bytesbad h deep hp hd hk k0 k9 hl9 hx hr he).mono fun e_ w' hh=>⟨by rw[hh.1];rfl,hh.2⟩
 rw[if_neg x2]
 by_cases x3:x=3
 ·rw[if_pos x3]
  subst x3
  by_cases he:e=0
  ·rw[if_pos he];subst he
   have hpos:1≤m:=by have:=rcl_pos (l:=r.2.2.2.drop (p+1)) (by rw[hr]);rwa [hr] at this
   have hv:∀w3,Rt w3 g a b c d (k+1) r (p+1+m)→_:=fun w3 h3=>tvalues_any f (fun f' hf'=>IH f' (by omega)) h3 d0 d1 (by omega) (by omega) hl9 (deep+1) (by omega) (by omega) (by omega) n (rcl_lt (fun y hy=>h.pc.lt y (List.mem_of_mem_drop hy)) hr)
   cases hres:rds b c d r.2.2.2 f n (deep+1) (p+1+m) (k+1) [] with
   |bad q en=>exact tval_lbad h deep hp hd hk k0 k9 hl9 hx dp0 (by omega) hr hv hres
   |good vs p2 k2=>exact tval_lgood h deep hp hd hk k0 k9 hl9 hx dp0 (by omega) hr hv hres
  ·rw[if_neg he];exact(tval_listbad h deep hp hd hk k0 k9 hl9 hx hr he).mono fun e_ w' hh=>⟨by rw[hh.1];rfl,hh.2⟩
 rw[if_neg x3]
 exact tval_kind h deep hp hd hk k0 k9 hl9 hx x1 x2 x3
end Go.Proofs.Yteblmphohhbgcaa.Wr
namespace Go.Proofs.Yteblmphohhbgcaa.Wr
open Go.RowKit Go.Proofs.Yteblmphohhbgcaa.Gn Go.Proofs.Yteblmphohhbgcaa.Fd Go.Deep
set_option maxRecDepth 100000 in
set_option maxHeartbeats 2000000 in
theorem faultOf_retR(caps:Array Value)(w:World)(R:World→Prop)(hR:∀w2,R w2→w2.heap[w.heap.size]?=some (.cells #[.int .i64 0,.int .i64 0] 123 (0,0)))
  (hc:Calls Try.prog 74 caps (w.alloc (.cells #[.int .i64 0,.int .i64 0] 123)) fun e w2=>e=.returned (.tuple #[])∧R w2) :
  Calls Try.prog 58 #[.func (.func 74) #[] caps] w fun e w'=>e=.returned (flt 0 0)∧∃w2,R w2∧w2.grownBy w' (some w.heap.size):=by
 have hmf:∀(fn:Fn) (first cap:Array Value) (w:World),(Instr.makeFunc fn first cap).run Try.prog w=.ok (.func fn first cap) w:=fun _ _ _ _=>rfl
 have HC:=Lib.hid hc
 have HR:=Lib.hid hR
 clear hc hR
 go_enter_defers Try.func58,Try.ntmps58
 go_wp2_with (go_at_call 74;(refine HC.out.mono ?_);rintro e w2 ⟨rfl,hr⟩;have R2:=Lib.hid hr;have hh:=Lib.hid (HR.out w2 hr);have c0:w2.cell? ⟨w.heap.size,0,none⟩=some (.int .i64 0):=(by rw[cell_of_row _ _ _ _ _ _ hh.out];rfl);have c1:w2.cell? ⟨w.heap.size,1,none⟩=some (.int .i64 0):=(by rw[cell_of_row _ _ _ _ _ _ hh.out];rfl);have f0:w2.frozen? ⟨w.heap.size,0,none⟩=false:=(by simp[World.frozen?,hh.out]);have f1:w2.frozen? ⟨w.heap.size,1,none⟩=false:=(by simp[World.frozen?,hh.out]);clear hr)
 have HL:=Lib.hid (show Bl (((w2.setCell ⟨w.heap.size,0,none⟩ (.int .i64 0)).setCell ⟨w.heap.size,1,none⟩ (.int .i64 0)).alloc (.cells #[.int .i64 0,.int .i64 0] 123)) w.heap.size 123 #[.int .i64 0,.int .i64 0] from(((show Bl w2 w.heap.size 123 #[.int .i64 0,.int .i64 0] from hh.out).set_ 0 (.int .i64 0)).set_ 1 (.int .i64 0)).alloc _)
 have HG:=Lib.hid (show w2.grownBy (((w2.setCell ⟨w.heap.size,0,none⟩ (.int .i64 0)).setCell ⟨w.heap.size,1,none⟩ (.int .i64 0)).alloc (.cells #[.int .i64 0,.int .i64 0] 123)) (some w.heap.size) from(only_set (only_set (World.grownBy.refl w2 (some w.heap.size)) (p:=⟨w.heap.size,0,none⟩) (Or.inl rfl) (.int .i64 0)) (p:=⟨w.heap.size,1,none⟩) (Or.inl rfl) (.int .i64 0)).alloc_ _)
 refine leaves_cons (f:=78) (args:=#[.pointer (some ⟨w.heap.size,0,none⟩)]) (by simp) (by simp[go_sem]) ?_
 refine(catch_idle w.heap.size _).mono ?_
 rintro e u' w'' ⟨rfl,rfl,rfl⟩
 exact⟨_,results_c rfl _ _ _ ⟨w.heap.size,0,none⟩ _ (by kernel_rfl) (run_loadVar_row _ w.heap.size 123 123 #[.int .i64 0,.int .i64 0] (0,0) _ HL.out Try.underlying123 rfl size97),rfl,w2,R2.out,HG.out⟩
set_option maxRecDepth 100000 in
set_option maxHeartbeats 2000000 in
theorem faultOf_panR(caps:Array Value)(w:World)(a b:Int)(R:World→Prop)(hR:∀w2,R w2→w2.heap[w.heap.size]?=some (.cells #[.int .i64 0,.int .i64 0] 123 (0,0)))
  (hc:Calls Try.prog 74 caps (w.alloc (.cells #[.int .i64 0,.int .i64 0] 123)) fun e w2=>e=.panicked [{ v:=.iface 123 (flt a b),recovered:=false }]∧R w2) :
  Calls Try.prog 58 #[.func (.func 74) #[] caps] w fun e w'=>e=.returned (flt a b)∧∃w2,R w2∧w2.grownBy w' (some w.heap.size):=by
 have hmf:∀(fn:Fn) (first cap:Array Value) (w:World),(Instr.makeFunc fn first cap).run Try.prog w=.ok (.func fn first cap) w:=fun _ _ _ _=>rfl
 have HC:=Lib.hid hc
 have HR:=Lib.hid hR
 clear hc hR
 go_enter_defers Try.func58,Try.ntmps58
 go_wp2_with (go_at_call 74;(refine HC.out.mono ?_);rintro e w2 ⟨rfl,hr⟩;have R2:=Lib.hid hr;have hh:=Lib.hid (HR.out w2 hr);clear hr)
 have HL:=Lib.hid (show Bl (((w2.setCell ⟨w.heap.size,0,none⟩ (.int .i64 a)).setCell ⟨w.heap.size,1,none⟩ (.int .i64 b)).alloc (.cells #[.int .i64 a,.int .i64 b] 123)) w.heap.size 123 #[.int .i64 a,.int .i64 b] from(((show Bl w2 w.heap.size 123 #[.int .i64 0,.int .i64 0] from hh.out).set_ 0 (.int .i64 a)).set_ 1 (.int .i64 b)).alloc _)
 have HG:=Lib.hid (show w2.grownBy (((w2.setCell ⟨w.heap.size,0,none⟩ (.int .i64 a)).setCell ⟨w.heap.size,1,none⟩ (.int .i64 b)).alloc (.cells #[.int .i64 a,.int .i64 b] 123)) (some w.heap.size) from(only_set (only_set (World.grownBy.refl w2 (some w.heap.size)) (p:=⟨w.heap.size,0,none⟩) (Or.inl rfl) (.int .i64 a)) (p:=⟨w.heap.size,1,none⟩) (Or.inl rfl) (.int .i64 b)).alloc_ _)
 refine leaves_cons (f:=78) (args:=#[.pointer (some ⟨w.heap.size,0,none⟩)]) (by simp) (by simp[go_sem]) ?_
 refine(catch_panicking w.heap.size 0 0 a b [] _ ?_ ?_ ?_ ?_ ?_).mono ?_
 ·rw[cell_of_row _ _ _ _ _ _ hh.out];rfl
 ·rw[cell_of_row _ _ _ _ _ _ hh.out];rfl
 ·simp[World.frozen?,hh.out]
 ·simp[World.frozen?,hh.out]
 ·exact Bl.lt (t:=123) hh.out
 rintro e u' w'' ⟨rfl,rfl,rfl⟩
 exact⟨_,results_c rfl _ _ _ ⟨w.heap.size,0,none⟩ _ (by kernel_rfl) (run_loadVar_row _ w.heap.size 123 123 #[.int .i64 a,.int .i64 b] (0,0) _ HL.out Try.underlying123 rfl size97),rfl,w2,R2.out,HG.out⟩
theorem samebytes_any(A B:Option Addr)(n m c d:Nat)(l k:List Nat)(w:World)(hl:∀x∈l,x < 256)(hk:∀x∈k,x < 256)(h1:Sl w A n (bl l))(h2:Sl w B m (bl k)) :
  Calls Try.prog 16 #[.slice A n c,.slice B m d] w fun e w'=>e=.returned (.bool (l == k))∧w=w':=by
 have r1:=run_txt (P:=Try.prog) w 25 9 5 Try.underlying25 Try.underlying5 Try.underlying9 A n c l h1
 have r2:=run_txt (P:=Try.prog) w 25 9 5 Try.underlying25 Try.underlying5 Try.underlying9 B m d k h2
 have HE:=Lib.hid (fun h=>txt_inj (l:=l) (k:=k) hl hk h)
 clear h1 h2 hl hk
 obtain⟨s,hs⟩:∃s,s=txt l:=⟨_,rfl⟩
 obtain⟨t,ht⟩:∃t,t=txt k:=⟨_,rfl⟩
 rw[←hs] at r1
 rw[←ht] at r2
 have HS:=Lib.hid hs
 have HT:=Lib.hid ht
 clear hs ht
 go_enter Try.func16,Try.ntmps16
 go_wp2
 go_ret
 refine⟨ret_bool ?_,rfl⟩
 rw[HS.out,HT.out,ByteArray.toList_eq,ByteArray.toList_eq,Bool.eq_iff_iff,beq_iff_eq,beq_iff_eq]
 constructor
 ·intro h
  exact HE.out (Go.WideShapes.bytes_inj h)
 ·intro h;rw[h]
end Go.Proofs.Yteblmphohhbgcaa.Wr
