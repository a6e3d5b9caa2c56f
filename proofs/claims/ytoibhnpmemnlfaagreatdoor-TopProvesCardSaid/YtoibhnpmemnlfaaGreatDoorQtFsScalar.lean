/- Joined texts. -/
import Derived.Test.YtoibhnpmemnlfaaGreatDoorQtRfScal
import Derived.Test.YtoibhnpmemnlfaaGreatDoorQtSaE
import Derived.Lib.SmallJoins
import Derived.Test.YtoibhnpmemnlfaaGreatDoorQtGnA
set_option linter.unusedVariables false
namespace Go.Proofs.YtoibhnpmemnlfaaGreatDoor.Fd
open Go.RowKit Go.Proofs.YtoibhnpmemnlfaaGreatDoor.Gn Go.Deep
abbrev C8(w:World)(g a b c d e f h i:Nat):Prop:=w.cell? ⟨g,0,none⟩=some (.int .u64 (a:Int))∧w.cell? ⟨g,1,none⟩=some (.int .u64 (b:Int))∧w.cell? ⟨g,2,none⟩=some (.int .u64 (c:Int))∧w.cell? ⟨g,3,none⟩=some (.int .u64 (d:Int))∧w.cell? ⟨g,4,none⟩=some (.int .u64 (e:Int))∧w.cell? ⟨g,5,none⟩=some (.int .u64 (f:Int))∧w.cell? ⟨g,6,none⟩=some (.int .u64 (h:Int))∧w.cell? ⟨g,7,none⟩=some (.int .u64 (i:Int))
abbrev v8(a b c d e f h i:Nat):Array Value:=#[.int .u64 (a:Int),.int .u64 (b:Int),.int .u64 (c:Int),.int .u64 (d:Int),.int .u64 (e:Int),.int .u64 (f:Int),.int .u64 (h:Int),.int .u64 (i:Int)]
theorem c8_of{w:World}{g:Nat}{t:TypeId}{a b c d e f h i:Nat}(hb:Bl w g t (v8 a b c d e f h i)):C8 w g a b c d e f h i :=
 ⟨hb.cell_ rfl,hb.cell_ rfl,hb.cell_ rfl,hb.cell_ rfl,hb.cell_ rfl,hb.cell_ rfl,hb.cell_ rfl,hb.cell_ rfl⟩
theorem guard4:Tryz.prog.eqGuardType Tryz.prog.depth 51=false:=by kernel_rfl
theorem equal4(a b c d p q r s:Nat)(w:World):(Op.equalIn 10000 51 (.agg #[.int .u64 (p:Int),.int .u64 (q:Int),.int .u64 (r:Int),.int .u64 (s:Int)]) (.agg #[.int .u64 (a:Int),.int .u64 (b:Int),.int .u64 (c:Int),.int .u64 (d:Int)])).run Tryz.prog w=.ok (decide ([p,q,r,s]=[a,b,c,d])) w:=by
 have h:=run_equalIn_arr (P:=Tryz.prog) 9998 (t:=51) (e:=29) (n:=4) (ik:=.u64) Tryz.underlying51 Tryz.underlying29 (by kernel_rfl) w [(p:Int),q,r,s] [(a:Int),b,c,d] rfl rfl
 have e:decide ([(p:Int),q,r,s]=[(a:Int),b,c,d])=decide ([p,q,r,s]=[a,b,c,d]):=by
  rw[decide_eq_decide];simp;omega
 rw[←e];exact h
theorem wl8(l:List Nat):∃a b c d e f h i,wl l 8=[a,b,c,d,e,f,h,i]∧wl l 4=[a,b,c,d]:=⟨_,_,_,_,_,_,_,_,rfl,rfl⟩
theorem words_same{v a b c d:Nat}(h:Wo B64 [a,b,c,d])(hv:vb B64 [a,b,c,d]=v):(words4 (v%Lq)=[a,b,c,d])↔v < Lq:=by
 constructor
 ·intro e
  have l1:v%Lq < Lq:=Nat.mod_lt _ Lq_pos
  have l2:v%Lq < 115792089237316195423570985008687907853269984665640564039457584007913129639936:=Nat.lt_trans l1 (by unfold Lq;decide)
  obtain⟨m,hm⟩:∃m,v%Lq=m:=⟨_,rfl⟩
  rw[hm] at e l1 l2
  have ev:v=a+18446744073709551616*(b+18446744073709551616*(c+18446744073709551616*d)):=by
   rw[←hv,←B64_eq];simp[vb_cons,vb_nil]
  clear hv h hm
  suffices hvm:v=m by rw[hvm];exact l1
  clear l1
  unfold words4 at e
  simp only[List.cons.injEq,and_true] at e
  obtain⟨e1,e2,e3,e4⟩:=e
  omega
 ·intro e
  rw[Nat.mod_eq_of_lt e]
  exact(four_words h hv).symm
set_option maxRecDepth 100000 in
set_option maxHeartbeats 1000000 in
theorem Scalar_any(A:Option Addr)(n c:Nat)(l:List Nat)(w:World)(tab:TabL w)(hn:n≤1000)(hl:∀x∈l,x < 256)(hs:Sl w A n (bl l)) :
  Calls Tryz.prog 44 #[.slice A n c] w fun e w'=>e=.returned (.int .i64 (scErr l))∧Below w.heap.size w w':=by
 have hln:l.length=n:=by simpa[bl] using hs.1
 by_cases h32:n=32
 ·have t0:((n:Int) != 32)=false:=by simp;omega
  have WW:=wordsOf_any A n c l w (by omega) hl hs
  have hv:=wl_vb 8 l (by omega)
  have hv4:=wl_vb 4 l (by omega)
  have hw:=wl_wo l 8 hl
  have hw4:=wl_wo l 4 hl
  obtain⟨x0,x1,x2,x3,x4,x5,x6,x7,e8,e4⟩:=wl8 l
  rw[e8] at WW hv hw
  rw[e4] at hv4 hw4
  obtain⟨p,q,r,s,hpq⟩:∃p q r s,words4 (le l%Lq)=[p,q,r,s]:=⟨_,_,_,_,rfl⟩
  have hsame:=words_same hw4 hv4
  rw[hpq] at hsame
  have HE:=Lib.hid (show scErr l=if le l < Lq then 0 else 31 by unfold scErr;rw[if_pos (by omega)])
  have FF:=Lib.hid (show ∀u,TabL u→Calls Tryz.prog 26 #[.agg #[.int .u64 (x0:Int),.int .u64 (x1:Int),.int .u64 (x2:Int),.int .u64 (x3:Int),.int .u64 (x4:Int),.int .u64 (x5:Int),.int .u64 (x6:Int),.int .u64 (x7:Int)]] u fun e w'=>e=.returned (.agg #[.int .u64 (p:Int),.int .u64 (q:Int),.int .u64 (r:Int),.int .u64 (s:Int)])∧Below u.heap.size u w' from fun u h=>by
   refine(folded_any [x0,x1,x2,x3,x4,x5,x6,x7] u h rfl hw).mono ?_
   rintro e w' ⟨a,b,c',d,rfl,k1,k2,k3⟩
   have:=four_words k1 k2
   rw[hv,hpq] at this
   simp only[List.cons.injEq,and_true] at this
   obtain⟨rfl,rfl,rfl,rfl⟩:=this
   exact⟨rfl,k3⟩)
  have WW:=Lib.hid (show Calls Tryz.prog 27 #[.slice A n c] w fun e w'=>e=.returned (.agg #[.int .u64 (x0:Int),.int .u64 (x1:Int),.int .u64 (x2:Int),.int .u64 (x3:Int),.int .u64 (x4:Int),.int .u64 (x5:Int),.int .u64 (x6:Int),.int .u64 (x7:Int)])∧Below w.heap.size w w' from WW)
  have TB:=Lib.hid tab
  have G1:=guard4
  have G2:=fun w=>equal4 x0 x1 x2 x3 p q r s w
  obtain⟨b,hb⟩:∃b,decide ([p,q,r,s]=[x0,x1,x2,x3])=b:=⟨_,rfl⟩
  rw[hb] at G2
  have HX:=Lib.hid (show scErr l=if b=true then 0 else 31 by
   rw[HE.out,←hb];simp only[decide_eq_true_eq,hsame])
  clear hl hs hln h32 hb hsame hpq e8 e4 hv hv4 hw hw4 tab HE
  go_enter Tryz.func44,Tryz.ntmps44
  go_wp2_with fail
  (with_reducible refine WW.out.mono ?_)
  rintro e w1 ⟨rfl,hb1⟩
  have B1:=Lib.hid (hb1.alloc hb1.size (.cells (v8 x0 x1 x2 x3 x4 x5 x6 x7) 53))
  have TB1:=Lib.hid (TB.out.below B1.out)
  have SK:=Lib.hid (show ∀z:World,Below (w1.alloc (.cells (v8 x0 x1 x2 x3 x4 x5 x6 x7) 53)).heap.size (w1.alloc (.cells (v8 x0 x1 x2 x3 x4 x5 x6 x7) 53)) z→C8 z w1.heap.size x0 x1 x2 x3 x4 x5 x6 x7 from fun z h=>c8_of (Bl.below' (Bl.new_ w1 53 (v8 x0 x1 x2 x3 x4 x5 x6 x7)) h))
  clear hb1 WW
  go_wp2_with fail
  go_region_held3 (fun z=>C8 z w1.heap.size x0 x1 x2 x3 x4 x5 x6 x7)
   (first|exact SK.out _ ((Below.refl _ _).drew)|exact SK.out _ (((Below.refl _ _).drew).trans hb2))
   ((go_at_call 26;(with_reducible refine(FF.out _ (TB1.out.below ((Below.refl _ _).drew))).mono ?_);rintro e w2 ⟨rfl,hb2⟩))
  all_goals
   rename_i hHeld
   clear hHeld
   have D1:=Lib.hid (bel_n3 B1.out (((Below.refl _ _).drew).trans hb2))
   clear hb2
   cases b
   ·go_wp2
    go_ret
    exact⟨ret_int HX.out.symm,D1.out⟩
   ·go_wp2
    go_ret
    exact⟨ret_int HX.out.symm,D1.out⟩
 ·have t0:((n:Int) != 32)=true:=by simp;omega
  have HX:=Lib.hid (show scErr l=1 by unfold scErr;rw[if_neg (by omega)])
  clear hl hs hln h32
  go_enter Tryz.func44,Tryz.ntmps44
  go_wp2
  go_ret
  exact⟨ret_int HX.out.symm,Below.refl _ _⟩
end Go.Proofs.YtoibhnpmemnlfaaGreatDoor.Fd
namespace Go.Proofs.YtoibhnpmemnlfaaGreatDoor.Sh
open Go.RowKit Go.Proofs.YtoibhnpmemnlfaaGreatDoor.Gn Go.Deep
attribute [local go_sem ↓] Go.wp_at_zero Go.wp_at_succ
theorem Sl_block{w:World}{A:Option Addr}{n:Nat}{xs:List Value}(h:Sl w A n xs)(h0:0 < n):∀ad,A=some ad→ad.block < w.heap.size:=by
 rintro ad rfl
 obtain⟨ad',e,hc⟩:=h.at_ h0
 cases e
 have h1:0 < xs.length:=by rw[h.1];exact h0
 rw[List.getElem?_eq_getElem h1] at hc
 have:=cell_lt hc
 rwa [add_block] at this
theorem put64_none(g c:Nat)(A:Option Addr)(w:World)(b0:w.cell? ⟨g,0,none⟩=some (.int .i64 512)) :
  Calls Tryz.prog 71 #[.pointer (some ⟨g,0,none⟩),.slice A 0 c] w fun e w'=>e=.returned (.tuple #[])∧w=w':=by
 go_enter Tryz.func71,Tryz.ntmps71
 go_wp2_with (go_at_call 83;refine(block_512 _).mono ?_;rintro e w' ⟨rfl,rfl⟩)
 go_loop [1] (fun b=>b=.slice A 0 c) (fun _=>0)
 case atStart=>rfl
 case round =>
  obtain rfl:=hrel
  go_wp2
  go_end0
  exact⟨rfl,rfl⟩
theorem write64_none(T:List Nat)(g:Nat)(A:Option Addr)(c:Nat)(w:World)(h:Hs true T g w)(hT:T.length≤1048576) :
  Calls Tryz.prog 51 #[.pointer (some ⟨g,0,none⟩),.slice A 0 c] w fun e w'=>e=.returned (.int .i64 0)∧w=w':=by
 obtain⟨ws,rs,hb,hst⟩:=h
 have b0:w.cell? ⟨g,0,none⟩=some (.int .i64 512):=hb.cell_ rfl
 have b1:w.cell? ⟨g,1,none⟩=some (.int .i64 (T.length:Int)):=hb.cell_ rfl
 have t1:decide ((1048576:Int) - (T.length:Int) < 0)=false:=decide_eq_false (by omega)
 clear hb hst
 go_enter Tryz.func51,Tryz.ntmps51
 go_wp2_with (first|(go_at_call 70;refine(none64 g _ b0).mono ?_;rintro e w' ⟨rfl,rfl⟩)|(go_at_call 71;refine(put64_none g _ _ _ b0).mono ?_;rintro e w' ⟨rfl,rfl⟩))
 go_ret
 exact⟨rfl,rfl⟩
theorem writex64(T l:List Nat)(n:Nat)(hn:l.length=n)(g:Nat)(A:Option Addr)(c:Nat)(w:World)(hg:(8 < g∧5 < g))(hl:∀x∈l,x < 256)(hsl:Sl w A n (bl l))(hA:0 < n→∀ad,A=some ad→ad.block≠g)(hlc:n≤c)(h:Hs true T g w)(hmax:T.length+n≤1048576)(tab:Tab w) :
  Calls Tryz.prog 51 #[.pointer (some ⟨g,0,none⟩),.slice A n c] w
   fun e w'=>e=.returned (.int .i64 0)∧Hs true (T ++ l) g w'∧w.grownBy w' (some g)∧Tab w':=by
 subst hn
 rcases Nat.eq_zero_or_pos l.length with h0|h0
 ·have hl0:l=[]:=List.length_eq_zero_iff.1 h0
  subst hl0
  exact(write64_none T g A c w h (by simpa using hmax)).mono fun e w' ⟨h1,h2⟩=>by subst h2;exact⟨h1,by rw[List.append_nil];exact h,World.grownBy.refl _ _,tab⟩
 ·exact write64_any T l g A c w hg hl hsl (hA h0) hlc h hmax tab
end Go.Proofs.YtoibhnpmemnlfaaGreatDoor.Sh
namespace Go.Proofs.YtoibhnpmemnlfaaGreatDoor.Gn
open Go.RowKit Go.Deep
abbrev Rw:=Option Addr × Nat × Nat × List Nat
def rwv(r:Rw):Value:=.slice r.1 r.2.1 r.2.2.1
section
variable {H:Type} {enc:TypeId × Value→H} {P:Program} {w:World} {base:Nat} {spare:Nat→Bool} {held:Bool}
end
end Go.Proofs.YtoibhnpmemnlfaaGreatDoor.Gn
