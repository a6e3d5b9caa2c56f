/- Joined texts. -/
import Derived.Test.YtjimhjfjfpeojaaDoorQbFsScal
set_option linter.unusedVariables false
namespace Go.Proofs.YtjimhjfjfpeojaaDoor.Fd
open Go.RowKit Go.Proofs.YtjimhjfjfpeojaaDoor.Gn Go.Deep
abbrev C8(w:World)(g a b c d e f h i:Nat):Prop:=w.cell? ⟨g,0,none⟩=some (.int .u64 (a:Int))∧w.cell? ⟨g,1,none⟩=some (.int .u64 (b:Int))∧w.cell? ⟨g,2,none⟩=some (.int .u64 (c:Int))∧w.cell? ⟨g,3,none⟩=some (.int .u64 (d:Int))∧w.cell? ⟨g,4,none⟩=some (.int .u64 (e:Int))∧w.cell? ⟨g,5,none⟩=some (.int .u64 (f:Int))∧w.cell? ⟨g,6,none⟩=some (.int .u64 (h:Int))∧w.cell? ⟨g,7,none⟩=some (.int .u64 (i:Int))
abbrev v8(a b c d e f h i:Nat):Array Value:=#[.int .u64 (a:Int),.int .u64 (b:Int),.int .u64 (c:Int),.int .u64 (d:Int),.int .u64 (e:Int),.int .u64 (f:Int),.int .u64 (h:Int),.int .u64 (i:Int)]
theorem c8_of{w:World}{g:Nat}{t:TypeId}{a b c d e f h i:Nat}(hb:Bl w g t (v8 a b c d e f h i)):C8 w g a b c d e f h i :=
 ⟨hb.cell_ rfl,hb.cell_ rfl,hb.cell_ rfl,hb.cell_ rfl,hb.cell_ rfl,hb.cell_ rfl,hb.cell_ rfl,hb.cell_ rfl⟩
theorem guard4:Tryd.prog.eqGuardType Tryd.prog.depth 65=false:=by kernel_rfl
theorem equal4(a b c d p q r s:Nat)(w:World):(Op.equalIn 10000 65 (.agg #[.int .u64 (p:Int),.int .u64 (q:Int),.int .u64 (r:Int),.int .u64 (s:Int)]) (.agg #[.int .u64 (a:Int),.int .u64 (b:Int),.int .u64 (c:Int),.int .u64 (d:Int)])).run Tryd.prog w=.ok (decide ([p,q,r,s]=[a,b,c,d])) w:=by
 have h:=run_equalIn_arr (P:=Tryd.prog) 9998 (t:=65) (e:=36) (n:=4) (ik:=.u64) Tryd.underlying65 Tryd.underlying36 (by kernel_rfl) w [(p:Int),q,r,s] [(a:Int),b,c,d] rfl rfl
 have e:decide ([(p:Int),q,r,s]=[(a:Int),b,c,d])=decide ([p,q,r,s]=[a,b,c,d]):=by
  rw[decide_eq_decide];simp;omega
 rw[←e];exact h
theorem wl8(l:List Nat):∃a b c d e f h i,wl l 8=[a,b,c,d,e,f,h,i]∧wl l 4=[a,b,c,d]:=⟨_,_,_,_,_,_,_,_,rfl,rfl⟩
theorem words_same{v a b c d:Nat}(h:Wo B64 [a,b,c,d])(hv:vb B64 [a,b,c,d]=v):(words4 (v%Lq)=[a,b,c,d])↔v < Lq:=by
 constructor
 ·intro e
  have l1:v%Lq < Lq:=Nat.mod_lt _ Lq_pos
  have l2:v%Lq < 115792089237316195423570985008687907853269984665640564039457584007913129639936:=Nat.lt_trans l1 (by unfold Lq;decide)
  obtain⟨m,hm⟩:∃m,v%Lq=m:=⟨_,rfl⟩
  rw[hm] at e l1 l2
  have ev:v=a+18446744073709551616*(b+18446744073709551616*(c+18446744073709551616*d)):=by
   rw[←hv,←B64_eq];simp[vb_cons,vb_nil]
  clear hv h hm
  suffices hvm:v=m by rw[hvm];exact l1
  clear l1
  unfold words4 at e
  simp only[List.cons.injEq,and_true] at e
  obtain⟨e1,e2,e3,e4⟩:=e
  omega
 ·intro e
  rw[Nat.mod_eq_of_lt e]
  exact(four_words h hv).symm
set_option maxRecDepth 100000 in
set_option maxHeartbeats 1000000 in
theorem Scalar_any(A:Option Addr)(n c:Nat)(l:List Nat)(w:World)(tab:TabL w)(hn:n≤1000)(hl:∀x∈l,x < 256)(hs:Sl w A n (bl l)) :
  Calls Tryd.prog 22 #[.slice A n c] w fun e w'=>e=.returned (.int .i64 (scErr l))∧Below w.heap.size w w':=by
 have hln:l.length=n:=by simpa[bl] using hs.1
 by_cases h32:n=32
 ·have t0:((n:Int) != 32)=false:=by simp;omega
  have WW:=wordsOf_any A n c l w (by omega) hl hs
  have hv:=wl_vb 8 l (by omega)
  have hv4:=wl_vb 4 l (by omega)
  have hw:=wl_wo l 8 hl
  have hw4:=wl_wo l 4 hl
  obtain⟨x0,x1,x2,x3,x4,x5,x6,x7,e8,e4⟩:=wl8 l
  rw[e8] at WW hv hw
  rw[e4] at hv4 hw4
  obtain⟨p,q,r,s,hpq⟩:∃p q r s,words4 (le l%Lq)=[p,q,r,s]:=⟨_,_,_,_,rfl⟩
  have hsame:=words_same hw4 hv4
  rw[hpq] at hsame
  have HE:=Lib.hid (show scErr l=if le l < Lq then 0 else 31 by unfold scErr;rw[if_pos (by omega)])
  have FF:=Lib.hid (show ∀u,TabL u→Calls Tryd.prog 39 #[.agg #[.int .u64 (x0:Int),.int .u64 (x1:Int),.int .u64 (x2:Int),.int .u64 (x3:Int),.int .u64 (x4:Int),.int .u64 (x5:Int),.int .u64 (x6:Int),.int .u64 (x7:Int)]] u fun e w'=>e=.returned (.agg #[.int .u64 (p:Int),.int .u64 (q:Int),.int .u64 (r:Int),.int .u64 (s:Int)])∧Below u.heap.size u w' from fun u h=>by
   refine(folded_any [x0,x1,x2,x3,x4,x5,x6,x7] u h rfl hw).mono ?_
   rintro e w' ⟨a,b,c',d,rfl,k1,k2,k3⟩
   have:=four_words k1 k2
   rw[hv,hpq] at this
   simp only[List.cons.injEq,and_true] at this
   obtain⟨rfl,rfl,rfl,rfl⟩:=this
   exact⟨rfl,k3⟩)
  have WW:=Lib.hid (show Calls Tryd.prog 41 #[.slice A n c] w fun e w'=>e=.returned (.agg #[.int .u64 (x0:Int),.int .u64 (x1:Int),.int .u64 (x2:Int),.int .u64 (x3:Int),.int .u64 (x4:Int),.int .u64 (x5:Int),.int .u64 (x6:Int),.int .u64 (x7:Int)])∧Below w.heap.size w w' from WW)
  have TB:=Lib.hid tab
  have G1:=guard4
  have G2:=fun w=>equal4 x0 x1 x2 x3 p q r s w
  obtain⟨b,hb⟩:∃b,decide ([p,q,r,s]=[x0,x1,x2,x3])=b:=⟨_,rfl⟩
  rw[hb] at G2
  have HX:=Lib.hid (show scErr l=if b=true then 0 else 31 by
   rw[HE.out,←hb];simp only[decide_eq_true_eq,hsame])
  clear hl hs hln h32 hb hsame hpq e8 e4 hv hv4 hw hw4 tab HE
  go_enter Tryd.func22,Tryd.ntmps22
  go_wp2_with fail
  (with_reducible refine WW.out.mono ?_)
  rintro e w1 ⟨rfl,hb1⟩
  have B1:=Lib.hid (hb1.alloc hb1.size (.cells (v8 x0 x1 x2 x3 x4 x5 x6 x7) 67))
  have TB1:=Lib.hid (TB.out.below B1.out)
  have SK:=Lib.hid (show ∀z:World,Below (w1.alloc (.cells (v8 x0 x1 x2 x3 x4 x5 x6 x7) 67)).heap.size (w1.alloc (.cells (v8 x0 x1 x2 x3 x4 x5 x6 x7) 67)) z→C8 z w1.heap.size x0 x1 x2 x3 x4 x5 x6 x7 from fun z h=>c8_of (Bl.below' (Bl.new_ w1 67 (v8 x0 x1 x2 x3 x4 x5 x6 x7)) h))
  clear hb1 WW
  go_wp2_with fail
  go_region_held3 (fun z=>C8 z w1.heap.size x0 x1 x2 x3 x4 x5 x6 x7)
   (first|exact SK.out _ ((Below.refl _ _).drew)|exact SK.out _ (((Below.refl _ _).drew).trans hb2))
   ((go_at_call 39;(with_reducible refine(FF.out _ (TB1.out.below ((Below.refl _ _).drew))).mono ?_);rintro e w2 ⟨rfl,hb2⟩))
  all_goals
   rename_i hHeld
   clear hHeld
   have D1:=Lib.hid (bel_n3 B1.out (((Below.refl _ _).drew).trans hb2))
   clear hb2
   cases b
   ·go_wp2
    go_ret
    exact⟨ret_int HX.out.symm,D1.out⟩
   ·go_wp2
    go_ret
    exact⟨ret_int HX.out.symm,D1.out⟩
 ·have t0:((n:Int) != 32)=true:=by simp;omega
  have HX:=Lib.hid (show scErr l=1 by unfold scErr;rw[if_neg (by omega)])
  clear hl hs hln h32
  go_enter Tryd.func22,Tryd.ntmps22
  go_wp2
  go_ret
  exact⟨ret_int HX.out.symm,Below.refl _ _⟩
end Go.Proofs.YtjimhjfjfpeojaaDoor.Fd
