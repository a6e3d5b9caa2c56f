/- Joined texts. -/
import Derived.Test.YtmfpckbahgpojaaDoorQmMkRb
import Derived.Test.YtmfpckbahgpojaaDoorQmMkJ
set_option linter.unusedVariables false
namespace Go.Proofs.YtmfpckbahgpojaaDoor.Mk
open Go.RowKit Go.Proofs.YtmfpckbahgpojaaDoor.Gn Go.Proofs.YtmfpckbahgpojaaDoor.Fd Go.Deep
set_option maxRecDepth 100000 in
theorem RPut_arg(n:Int)(hn:n < 0∨4096 < n)(A:Option Addr)(m c:Nat)(hm:m≤100000)(p:Int)(w:World) :
  Calls Tryd.prog 14 #[.slice A m c,.int .i64 n,.int .i64 p] w fun e w'=>e=.returned (.tuple #[.slice none 0 0,.int .i64 1])∧Qt w w':=by
 have C:=Lib.hid (RRight_arg n hn A m c hm w)
 clear hn
 go_enter Tryd.func14,Tryd.ntmps14
 go_wp2_with (go_at_call 16;(with_reducible refine C.out.mono ?_);rintro e w1 ⟨rfl,q1⟩;have Q1:=Lib.hid q1;clear q1)
 go_ret2
 exact⟨rfl,Q1.out⟩
set_option maxRecDepth 100000 in
set_option maxHeartbeats 2000000 in
theorem RPut_no{A:Option Addr}{n c:Nat}{l:List Nat}{w:World}(h:Pc w (A,l.length,c,l))(hn:n≤4096)(hl:l.length≤100000)(p:Int)(hno:holdsB l n p=false) :
  Calls Tryd.prog 14 #[.slice A l.length c,.int .i64 (n:Int),.int .i64 p] w fun e w'=>e=.returned (.tuple #[.slice none 0 0,.int .i64 1])∧Qt w w':=by
 have C:=RRight_any h hn hl
 obtain⟨L,hL⟩:∃L,l.length=L:=⟨_,rfl⟩
 rw[hL] at C ⊢
 rcases hr:rightB l n with _|_
 ·rw[hr] at C
  have C:=Lib.hid C
  clear hr hno h hL hl
  go_enter Tryd.func14,Tryd.ntmps14
  go_wp2_with (go_at_call 16;(with_reducible refine C.out.mono ?_);rintro e w1 ⟨rfl,q1⟩;have Q1:=Lib.hid q1;clear q1)
  go_ret2
  exact⟨rfl,Q1.out⟩
 ·rw[hr] at C
  have C:=Lib.hid C
  unfold holdsB at hno
  rw[hr] at hno
  by_cases h1:p < 0
  ·have t1:decide (p < 0)=true:=decide_eq_true h1
   clear hr hno h hL hl
   go_enter Tryd.func14,Tryd.ntmps14
   go_wp2_with (go_at_call 16;(with_reducible refine C.out.mono ?_);rintro e w1 ⟨rfl,q1⟩;have Q1:=Lib.hid q1;clear q1)
   go_ret2
   exact⟨rfl,Q1.out⟩
  ·have t1:decide (p < 0)=false:=decide_eq_false h1
   have h2:(n:Int)≤p:=by
    rw[decide_eq_true (by omega:(0:Int)≤p)] at hno
    have:=of_decide_eq_false (show decide (p < (n:Int))=false from hno)
    omega
   have t2:decide ((n:Int)≤p)=true:=decide_eq_true h2
   clear hr hno h hL hl
   go_enter Tryd.func14,Tryd.ntmps14
   go_wp2_with (go_at_call 16;(with_reducible refine C.out.mono ?_);rintro e w1 ⟨rfl,q1⟩;have Q1:=Lib.hid q1;clear q1)
   go_ret2
   exact⟨rfl,Q1.out⟩
theorem or_no:∀x:Nat,x < 256→∀r:Nat,r < 8→x / 2 ^ r%2≠1→x ||| 2 ^ r=x+2 ^ r∧x+2 ^ r < 256:=by decide +kernel
theorem or_yes:∀x:Nat,x < 256→∀r:Nat,r < 8→x / 2 ^ r%2=1→x ||| 2 ^ r=x:=by decide +kernel
set_option maxRecDepth 100000 in
set_option maxHeartbeats 4000000 in
theorem RPut_yes{A:Option Addr}{n c:Nat}{l:List Nat}{w:World}(h:Pc w (A,l.length,c,l))(hn:n≤4096)(hl:l.length≤1000)(p:Nat)(hy:holdsB l n (p:Int)=true) :
  Calls Tryd.prog 14 #[.slice A l.length c,.int .i64 (n:Int),.int .i64 (p:Int)] w fun e w'=>∃g cap,e=.returned (.tuple #[.slice (some ⟨g,0,none⟩) l.length cap,.int .i64 0])∧Pc w' (some ⟨g,0,none⟩,l.length,cap,putB l p)∧w.heap.size≤g∧Below w.heap.size w w':=by
 obtain⟨i0,hi,hz0,hz1,hz2⟩:=info_parts infob
 have C:=RRight_any h hn (by omega)
 obtain⟨h1,h2⟩:=Bool.and_eq_true_iff.1 hy
 obtain⟨h3,h4⟩:=Bool.and_eq_true_iff.1 h2
 have h4:=of_decide_eq_true h4
 have hlen:=right_len h1
 have h0:0 < l.length:=by omega
 rw[h1] at C
 have C:=Lib.hid C
 have HS:=Lib.hid (fun(wr:World) (hb:Below w.heap.size w wr)=>RHas_any (h.below hb) hn (by omega) (p:Int))
 have HDG:=hasB_dig h1 (show p < n by omega)
 obtain⟨q,hq⟩:∃q,p / 8=q:=⟨_,rfl⟩
 obtain⟨x,hx⟩:∃x,l.getD q 0=x:=⟨_,rfl⟩
 obtain⟨r,hr⟩:∃r,p%8=r:=⟨_,rfl⟩
 have hr8:r < 8:=by omega
 have hqn:q < l.length:=by omega
 have hg:l[q]?=some x:=by rw[←hx,List.getD_eq_getElem?_getD,List.getElem?_eq_getElem hqn];rfl
 have hx8:x < 256:=h.lt x (List.mem_of_getElem? hg)
 have e1:(p:Int) / 8=(q:Int):=by omega
 have e2:(p:Int)%8=(r:Int):=by omega
 have ew:IntKind.i64.wrap (q:Int)=(q:Int):=_root_.Go.IntWalk.i64_in _ (by omega)
 have ew2:IntKind.u64.wrap (r:Int)=(r:Int):=by rw[IntKind.wrap_u64];omega
 have hr9:r≤8:=by omega
 have ep:putB l p=l.set q (x ||| 2 ^ r):=by unfold putB;rw[hq,hx,hr]
 have ed:dig l p=decide (x / 2 ^ r%2=1):=by unfold dig;rw[hq,hx,hr]
 have HLT:=Lib.hid h.lt
 have hrow:Sl w A l.length (bl l):=h.row
 obtain⟨ad,rfl,-⟩:=hrow.at_ h0
 clear hrow
 have SM:=Lib.hid h.row
 have CAP:=Lib.hid h.cap
 have HG:=Lib.hid hg
 have t1:decide ((p:Int) < 0)=false:=decide_eq_false (by omega)
 have t2:decide (n≤p)=false:=decide_eq_false (by omega)
 have hpn:p < n:=by omega
 have NIL:=Lib.hid h.nil
 have YES:=Lib.hid (fun h=>or_yes x hx8 r hr8 h)
 have NO:=Lib.hid (fun h=>or_no x hx8 r hr8 h)
 rw[ep]
 rw[ed] at HDG
 have HDG:=Lib.hid HDG
 clear ep ed hx hr hq h hg h1 h2 h3 h4 hlen hy
 obtain⟨L,hL⟩:∃L,l.length=L:=⟨_,rfl⟩
 have HL:=Lib.hid hL
 rw[hL] at C HS h0 hqn hl CAP NIL SM ⊢
 clear hL
 by_cases hd:x / 2 ^ r%2=1
 ·rw[YES.out hd]
  have HX:=Lib.hid hd
  clear hd
  go_enter Tryd.func14,Tryd.ntmps14
  go_wp2_with (first|(go_at_call 16;(with_reducible refine C.out.mono ?_);rintro e w1 ⟨rfl,q1⟩;have Q1:=Lib.hid q1;have B1:=Lib.hid q1.below;clear q1)|(at_builtin;refine wpList_append_sl rfl (.tmp 22) (.tmp 23) 22 rfl w1.heap.size 5 i0 _ (8 / 8) Tryd.underlying22 hi hz0 hz1 hz2 rfl _ 0 [] rfl (own_nil _ _ _) (some ad) L c (bl l) rfl NIL.out (SM.out.below B1.out) (bl_one _) (by unfold maxLen;omega) (by omega) (Nat.le_refl _) ?_;intro v2 w2 hown hgrow;rw[Nat.zero_add,List.nil_append] at hown;obtain⟨g,cap,cur,rfl,hb,k1,k2,k3,k4⟩:=own_cur hown h0;have D2:=Lib.hid (B1.out.grown hgrow B1.out.size (by intro k e;cases e));have HB:=Lib.hid hb;have K1:=Lib.hid k1;have K2:=Lib.hid k2;have K3:=Lib.hid k3;have K4:=Lib.hid (Nat.le_trans B1.out.size k4);have H2:=Lib.hid (by have:=HS.out w2 D2.out;rw[HDG.out,decide_eq_true HX.out] at this;exact this);clear hown hgrow hb k1 k2 k3 k4))
  go_wp2_with (go_at_call 21;(with_reducible refine H2.out.mono ?_);rintro e w3 ⟨rfl,q3⟩;have D3:=Lib.hid (D2.out.trans (q3.below.mono D2.out.size));have HB3:=Lib.hid (HB.out.below' q3.below);clear q3 H2)
  go_ret2
  have es:l.set q x=l:=by
   obtain⟨h1,h2⟩:=List.getElem?_eq_some_iff.1 HG.out
   rw[←h2];exact List.set_getElem_self _
  refine⟨g,cap,rfl,?_,K4.out,D3.out⟩
  rw[es]
  refine⟨by show L=_;rw[HL.out],?_,HLT.out,by show l.length≤cap;rw[HL.out];exact K1.out,fun e=>by cases e⟩
  refine Sl.of_bl HB3.out 0 _ _ (by rw[bl_length]) fun k v hk=>?_
  rw[Nat.zero_add]
  have hkl:k < L:=by have:=(List.getElem?_eq_some_iff.1 hk).1;rwa [bl_length,HL.out] at this
  have hk:(bl l)[k]?=some v:=hk
  rw[←K3.out,List.getElem?_take,if_pos hkl] at hk
  rwa [Array.getElem?_toList] at hk
 ·obtain⟨hx1,hx2⟩:=NO.out hd
  rw[hx1]
  have HX:=Lib.hid hd
  have CX:=Lib.hid (fun(cur:Array Value) (h3:cur.toList.take L=bl l)=>show cur[q]?=some (.int .u8 (x:Int)) by
   have:=congrArg (fun z=>z[q]?) h3
   simp only[List.getElem?_take,if_pos hqn,bl_get,HG.out] at this
   simpa using this)
  clear hd hx1
  go_enter Tryd.func14,Tryd.ntmps14
  go_wp2_with (first|(go_at_call 16;(with_reducible refine C.out.mono ?_);rintro e w1 ⟨rfl,q1⟩;have Q1:=Lib.hid q1;have B1:=Lib.hid q1.below;clear q1)|(at_builtin;refine wpList_append_sl rfl (.tmp 22) (.tmp 23) 22 rfl w1.heap.size 5 i0 _ (8 / 8) Tryd.underlying22 hi hz0 hz1 hz2 rfl _ 0 [] rfl (own_nil _ _ _) (some ad) L c (bl l) rfl NIL.out (SM.out.below B1.out) (bl_one _) (by unfold maxLen;omega) (by omega) (Nat.le_refl _) ?_;intro v2 w2 hown hgrow;rw[Nat.zero_add,List.nil_append] at hown;obtain⟨g,cap,cur,rfl,hb,k1,k2,k3,k4⟩:=own_cur hown h0;have D2:=Lib.hid (B1.out.grown hgrow B1.out.size (by intro k e;cases e));have HB:=Lib.hid hb;have K1:=Lib.hid k1;have K2:=Lib.hid k2;have K3:=Lib.hid k3;have K4:=Lib.hid (Nat.le_trans B1.out.size k4);have H2:=Lib.hid (by have:=HS.out w2 D2.out;rw[HDG.out,decide_eq_false HX.out] at this;exact this);clear hown hgrow hb k1 k2 k3 k4))
  go_wp2_with (go_at_call 21;(with_reducible refine H2.out.mono ?_);rintro e w3 ⟨rfl,q3⟩;have D3:=Lib.hid (D2.out.trans (q3.below.mono D2.out.size));have HB3:=Lib.hid (HB.out.below' q3.below);have c2:=HB3.out.cell_ (CX.out cur K3.out);have c3:=HB3.out.frozen q;clear q3 H2)
  have ev:((x:Int)+2 ^ r)%256=((x+2 ^ r:Nat):Int):=by
   have e:(x:Int)+2 ^ r=((x+2 ^ r:Nat):Int):=by simp
   rw[e]
   generalize x+2 ^ r=y at hx2 ⊢
   omega
  rw[ev]
  have E1:=Lib.hid (D3.out.setCell (p:=⟨g,q,none⟩) K4.out (.int .u8 ((x+2 ^ r:Nat):Int)))
  have B9:=Lib.hid (HB3.out.set_ q (.int .u8 ((x+2 ^ r:Nat):Int)))
  generalize w3.setCell ⟨g,q,none⟩ (.int .u8 ((x+2 ^ r:Nat):Int))=W at E1 B9 ⊢
  go_ret2
  refine⟨g,cap,rfl,⟨by show L=_;rw[List.length_set,HL.out],?_,?_,?_,fun e=>by cases e⟩,K4.out,E1.out⟩
  ·exact Sl.of_bl B9.out 0 _ _ (by rw[bl_length]) (set_at (by rw[HL.out];exact K3.out) (by rw[HL.out];exact hqn))
  ·intro z hz
   rcases List.mem_or_eq_of_mem_set hz with h|h
   ·exact HLT.out z h
   ·rw[h];exact hx2
  ·show(l.set q (x+2 ^ r)).length≤cap
   rw[List.length_set,HL.out];exact K1.out
end Go.Proofs.YtmfpckbahgpojaaDoor.Mk
