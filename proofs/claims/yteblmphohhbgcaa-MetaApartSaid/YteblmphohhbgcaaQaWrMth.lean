/- Joined texts. -/
import Derived.Test.YteblmphohhbgcaaQaWrNx1
import Derived.Test.YteblmphohhbgcaaQaWrNext
set_option linter.unusedVariables false
namespace Go.Proofs.Yteblmphohhbgcaa.Wr
open Go.RowKit Go.Proofs.Yteblmphohhbgcaa.Gn Go.Proofs.Yteblmphohhbgcaa.Fd Go.Deep
set_option maxRecDepth 100000
theorem grown_trans{w a b:World}{g:Nat}(h:w.grownBy a (some g))(k:a.grownBy b (some g)):w.grownBy b (some g) :=
 ⟨k.os.trans h.os,k.tape.trans h.tape,k.output.trans h.output,Nat.le_trans h.size k.size,fun i hi hn=>(k.block i (Nat.lt_of_lt_of_le hi h.size) hn).trans (h.block i hi hn)⟩
theorem grown_more{w a b:World}{g:Nat}(h:w.grownBy a (some g))(k:Below a.heap.size a b):w.grownBy b (some g):=grown_trans h (only_below k (some g))
theorem nxt_sz{F:Tv→Bool}{k:Int}{wh:Bool}{ks:List Tv}(hz:∀t∈ks,sz t≤1000000):sz (nxt F k wh ks).1≤1000000∧∀t∈(nxt F k wh ks).2.2,sz t≤1000000:=by
 rcases nxt_is F k wh ks with⟨h1,h2⟩|⟨t,ts,rfl,-, -, h⟩
 ·rw[h1,h2];exact⟨by decide,fun t ht=>(List.not_mem_nil ht).elim⟩
 ·rw[h];exact⟨hz t List.mem_cons_self,fun x hx=>hz x (List.mem_cons_of_mem _ hx)⟩
theorem rw_sz(t:Tv):(rw_ t).2.1≤sz t:=by cases t;rw[sz];show _≤1+_+_;simp only[rw_];omega
theorem nxt_I{a b:Int}{wh:Bool}{ks:List Tv}:(nm (nxt (FI a b) 1 wh ks).1:Int)≤9223372036854775807:=by
 rcases nxt_is (FI a b) 1 wh ks with⟨h1,h2⟩|⟨t,ts,rfl,-, h2,h⟩
 ·rw[h1];decide
 ·rw[h];unfold FI at h2;rw[Bool.and_eq_true] at h2;exact of_decide_eq_true h2.1
structure Lf (w:World) (g:Nat) (wh:Bool) (ks:List Tv) (w0:World):Prop where
 fl:Fl w g wh ks
 grown:w0.grownBy w (some g)
set_option maxHeartbeats 4000000 in
theorem Int_any_{w:World}{g:Nat}{wh:Bool}{ks:List Tv}(h:Fl w g wh ks)(hz:∀t∈ks,sz t≤1000000)(a b:Int):Calls Try.prog 76 #[.pointer (some ⟨g,0,none⟩),.int .i64 a,.int .i64 b] w fun e w'=>e=.returned (.int .i64 (nm (nxt (FI a b) 1 wh ks).1:Int))∧Lf w' g (nxt (FI a b) 1 wh ks).2.1 (nxt (FI a b) 1 wh ks).2.2 w:=by
 obtain⟨U,hU⟩:∃U,((w.alloc (.cells #[.int .i64 a] 2)).alloc (.cells #[.int .i64 b] 2))=U:=⟨_,rfl⟩
 have BU:=Lib.hid (show Below w.heap.size w U from by rw[←hU];exact((Below.refl _ w).alloc (Nat.le_refl _) _).alloc (by simp) _)
 have FU:=h.below BU.out
 have CA:U.cell? ⟨w.heap.size,0,none⟩=some (.int .i64 a):=Bl.cell_ (show Bl U w.heap.size 2 #[.int .i64 a] from by rw[←hU];exact(Bl.new_ w _ _).alloc _) rfl
 have CB:U.cell? ⟨w.heap.size+1,0,none⟩=some (.int .i64 b):=Bl.cell_ (show Bl U (w.heap.size+1) 2 #[.int .i64 b] from by rw[←hU];exact Bl.new' _ _ (by simp)) rfl
 have CN:=Lib.hid (nextI FU 1 w.heap.size (w.heap.size+1) a b CA CB)
 have HZ:=Lib.hid (nxt_sz (F:=(FI a b)) (k:=1) (wh:=wh) hz)
 have e1:IntKind.i64.wrap (nm (nxt (FI a b) 1 wh ks).1:Int)=(nm (nxt (FI a b) 1 wh ks).1:Int):=_root_.Go.IntWalk.i64_in _ (by have:=nxt_I (a:=a) (b:=b) (wh:=wh) (ks:=ks);omega)
 obtain⟨x,hx⟩:∃x,nxt (FI a b) 1 wh ks=x:=⟨_,rfl⟩
 rw[hx] at CN HZ ⊢
 rw[hx] at e1
 clear hx h FU CA CB hz
 obtain⟨⟨K,N,r,B,cc,us⟩,wh',ks'⟩:=x
 have e2:IntKind.i64.wrap (N:Int)=(N:Int):=e1
 clear e1
 go_enter Try.func76,Try.ntmps76
 go_wp2_with (first|(go_at_call 85;(refine CN.out.mono ?_);rintro e w1 ⟨rfl,hf,hg,hok⟩;simp only[Tv.val,Tv.row];have X1:=Lib.hid (below_one w1 (.cells #[.int .i64 K,.int .u64 (N:Int),.slice r.1 r.2.1 r.2.2.1,.slice B us.length cc] 80));have O1:=Lib.hid (hok.keep X1.out);have L1:=Lib.hid (Lf.mk (hf.below X1.out) (grown_more (grown_trans (only_below BU.out (some g)) hg) X1.out));clear hf hg hok))
 go_ret
 exact⟨rfl,L1.out⟩
set_option maxHeartbeats 4000000 in
theorem Bytes_any_{w:World}{g:Nat}{wh:Bool}{ks:List Tv}(h:Fl w g wh ks)(hz:∀t∈ks,sz t≤1000000)(a b:Int):Calls Try.prog 77 #[.pointer (some ⟨g,0,none⟩),.int .i64 a,.int .i64 b] w fun e w'=>(∃A c,e=.returned (.slice A (rw_ (nxt (FB a b) 2 wh ks).1).2.1 c)∧Pc w' (A,(rw_ (nxt (FB a b) 2 wh ks).1).2.1,c,(rw_ (nxt (FB a b) 2 wh ks).1).2.2.2))∧Lf w' g (nxt (FB a b) 2 wh ks).2.1 (nxt (FB a b) 2 wh ks).2.2 w:=by
 obtain⟨U,hU⟩:∃U,((w.alloc (.cells #[.int .i64 a] 3)).alloc (.cells #[.int .i64 b] 3))=U:=⟨_,rfl⟩
 have BU:=Lib.hid (show Below w.heap.size w U from by rw[←hU];exact((Below.refl _ w).alloc (Nat.le_refl _) _).alloc (by simp) _)
 have FU:=h.below BU.out
 have CA:U.cell? ⟨w.heap.size,0,none⟩=some (.int .i64 a):=Bl.cell_ (show Bl U w.heap.size 3 #[.int .i64 a] from by rw[←hU];exact(Bl.new_ w _ _).alloc _) rfl
 have CB:U.cell? ⟨w.heap.size+1,0,none⟩=some (.int .i64 b):=Bl.cell_ (show Bl U (w.heap.size+1) 3 #[.int .i64 b] from by rw[←hU];exact Bl.new' _ _ (by simp)) rfl
 have CN:=Lib.hid (nextB FU 2 w.heap.size (w.heap.size+1) a b CA CB)
 have HZ:=Lib.hid (nxt_sz (F:=(FB a b)) (k:=2) (wh:=wh) hz)
 obtain⟨x,hx⟩:∃x,nxt (FB a b) 2 wh ks=x:=⟨_,rfl⟩
 rw[hx] at CN HZ ⊢
 clear hx h FU CA CB hz
 obtain⟨⟨K,N,r,B,cc,us⟩,wh',ks'⟩:=x
 go_enter Try.func77,Try.ntmps77
 go_wp2_with (first|(go_at_call 85;(refine CN.out.mono ?_);rintro e w1 ⟨rfl,hf,hg,hok⟩;simp only[Tv.val,Tv.row];have X1:=Lib.hid (below_one w1 (.cells #[.int .i64 K,.int .u64 (N:Int),.slice r.1 r.2.1 r.2.2.1,.slice B us.length cc] 80));have O1:=Lib.hid (hok.keep X1.out);have L1:=Lib.hid (Lf.mk (hf.below X1.out) (grown_more (grown_trans (only_below BU.out (some g)) hg) X1.out));clear hf hg hok)|(go_at_call 62;(refine(Clone_pc (r:=r) (by have h:=O1.out;cases h with|mk hn hr hs hm hc h0 hk=>exact hr) (by have h:=HZ.out.1;have h2:=rw_sz (.mk K N r B cc us);exact Nat.le_trans h2 h)).mono ?_);rintro e w2 ⟨A2,c2,rfl,hp,-, hb⟩;have P2:=Lib.hid hp;have L2:=Lib.hid (Lf.mk (L1.out.fl.below hb) (grown_more L1.out.grown hb));clear hp hb))
 go_ret
 exact⟨⟨_,_,rfl,P2.out⟩,L2.out⟩
set_option maxHeartbeats 4000000 in
theorem List_any_{w:World}{g:Nat}{wh:Bool}{ks:List Tv}(h:Fl w g wh ks)(hz:∀t∈ks,sz t≤1000000)(a b:Int):Calls Try.prog 82 #[.pointer (some ⟨g,0,none⟩),.int .i64 a,.int .i64 b] w fun e w'=>(∃us A c,e=.returned (.slice A us.length c)∧nds us=nds (kids (nxt (FL a b) 3 wh ks).1)∧Sl w' A (4*us.length) (flat us)∧(A=none→c=0)∧us.length≤c∧(∀t∈us,Ok w' t))∧Lf w' g (nxt (FL a b) 3 wh ks).2.1 (nxt (FL a b) 3 wh ks).2.2 w:=by
 obtain⟨U,hU⟩:∃U,((w.alloc (.cells #[.int .i64 a] 3)).alloc (.cells #[.int .i64 b] 3))=U:=⟨_,rfl⟩
 have BU:=Lib.hid (show Below w.heap.size w U from by rw[←hU];exact((Below.refl _ w).alloc (Nat.le_refl _) _).alloc (by simp) _)
 have FU:=h.below BU.out
 have CA:U.cell? ⟨w.heap.size,0,none⟩=some (.int .i64 a):=Bl.cell_ (show Bl U w.heap.size 3 #[.int .i64 a] from by rw[←hU];exact(Bl.new_ w _ _).alloc _) rfl
 have CB:U.cell? ⟨w.heap.size+1,0,none⟩=some (.int .i64 b):=Bl.cell_ (show Bl U (w.heap.size+1) 3 #[.int .i64 b] from by rw[←hU];exact Bl.new' _ _ (by simp)) rfl
 have CN:=Lib.hid (nextL FU 3 w.heap.size (w.heap.size+1) a b CA CB)
 have HZ:=Lib.hid (nxt_sz (F:=(FL a b)) (k:=3) (wh:=wh) hz)
 obtain⟨x,hx⟩:∃x,nxt (FL a b) 3 wh ks=x:=⟨_,rfl⟩
 rw[hx] at CN HZ ⊢
 clear hx h FU CA CB hz
 obtain⟨⟨K,N,r,B,cc,us⟩,wh',ks'⟩:=x
 go_enter Try.func82,Try.ntmps82
 go_wp2_with (first|(go_at_call 85;(refine CN.out.mono ?_);rintro e w1 ⟨rfl,hf,hg,hok⟩;simp only[Tv.val,Tv.row];have X1:=Lib.hid (below_one w1 (.cells #[.int .i64 K,.int .u64 (N:Int),.slice r.1 r.2.1 r.2.2.1,.slice B us.length cc] 80));have O1:=Lib.hid (hok.keep X1.out);have L1:=Lib.hid (Lf.mk (hf.below X1.out) (grown_more (grown_trans (only_below BU.out (some g)) hg) X1.out));clear hf hg hok)|(go_at_call 61;(refine(copies_any O1.out K N r B cc us rfl HZ.out.1 _ (Below.refl _ _)).mono ?_);rintro e w2 ⟨us2,A2,c2,rfl,h1,h2,h3,h4,h5,h6,h7,h8,hb⟩;have P2:=Lib.hid (And.intro h1 (And.intro h3 (And.intro h4 (And.intro h5 h6))));have L2:=Lib.hid (Lf.mk (L1.out.fl.below hb) (grown_more L1.out.grown hb));clear h1 h2 h3 h4 h5 h6 h7 h8 hb))
 go_ret
 exact⟨⟨_,_,_,rfl,P2.out⟩,L2.out⟩
set_option maxHeartbeats 4000000 in
theorem Done_any_{w:World}{g:Nat}{wh:Bool}{ks:List Tv}(h:Fl w g wh ks):Calls Try.prog 66 #[.pointer (some ⟨g,0,none⟩)] w fun e w'=>e=.returned (.bool (wh && decide (ks.length=0)))∧w=w':=by
 obtain⟨A,c,h1,-⟩:=h.row
 obtain⟨m,hm⟩:∃m,ks.length=m:=⟨_,rfl⟩
 rw[hm] at h1 ⊢
 have r0:w.cell? ⟨g,0,none⟩=some (.bool wh):=h1.cell_ rfl
 have r1:w.cell? ⟨g,1,none⟩=some (.slice A m c):=h1.cell_ rfl
 clear h1 h hm
 cases wh with
 |false =>
  rw[Bool.false_and]
  go_enter Try.func66,Try.ntmps66
  go_wp2_with fail
  go_ret
  exact⟨rfl,rfl⟩
 |true =>
  rw[Bool.true_and]
  by_cases hm0:m=0
  ·subst hm0
   go_enter Try.func66,Try.ntmps66
   go_wp2_with fail
   go_ret
   exact⟨rfl,rfl⟩
  ·have e1:¬(m:Int)=0:=by omega
   have e2:decide (m=0)=false:=decide_eq_false hm0
   have e3:((m:Int) == 0)=false:=by simp;omega
   rw[e2]
   clear e2 hm0
   go_enter Try.func66,Try.ntmps66
   go_wp2_with fail
   go_ret
   exact⟨rfl,rfl⟩
end Go.Proofs.Yteblmphohhbgcaa.Wr
