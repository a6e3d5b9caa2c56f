/- Joined texts. -/
import Derived.Test.YtcnlmekjcffohaaDoorQpMkG
import Derived.IntWalk
import Derived.Test.YtcnlmekjcffohaaDoorQpPuA
set_option linter.unusedVariables false
namespace Go.Proofs.YtcnlmekjcffohaaDoor.Mk
open Go.RowKit Go.Proofs.YtcnlmekjcffohaaDoor.Gn Go.Proofs.YtcnlmekjcffohaaDoor.Fd Go.Deep
theorem or_bit:∀x:Nat,x < 256→∀r:Nat,r < 8→bits .or .u8 (x:Int) ((2 ^ r:Nat):Int)=((x ||| 2 ^ r:Nat):Int):=by decide +kernel
def putB(l:List Nat)(p:Nat):List Nat:=l.set (p / 8) (l.getD (p / 8) 0 ||| 2 ^ (p%8))
theorem set_at{cur:Array Value}{l:List Nat}{q y:Nat}(h:cur.toList.take l.length=bl l)(hq:q < l.length)(k:Nat)(v:Value)(hv:(bl (l.set q y))[k]?=some v):(cur.setIfInBounds q (.int .u8 (y:Int)))[0+k]?=some v:=by
 rw[Nat.zero_add]
 have hk:k < l.length:=by
  have:=(List.getElem?_eq_some_iff.1 hv).1
  rwa [bl_length,List.length_set] at this
 have hcs:l.length≤cur.size:=by
  have:=congrArg List.length h
  simp only[List.length_take,Array.length_toList,bl,List.length_map] at this
  omega
 rw[Array.getElem?_setIfInBounds]
 by_cases e:q=k
 ·subst e
  rw[if_pos rfl,if_pos (by omega)]
  rw[bl_get,List.getElem?_set_self hq] at hv
  exact hv
 ·rw[if_neg e]
  rw[bl_get,List.getElem?_set_ne e,←bl_get,←h,List.getElem?_take,if_pos hk,Array.getElem?_toList] at hv
  exact hv
set_option maxRecDepth 100000 in
set_option maxHeartbeats 2000000 in
theorem Put_yes{A:Option Addr}{n c:Nat}{l:List Nat}{w:World}(h:Pc w (A,l.length,c,l))(hn:n≤4096)(hl:l.length≤1000)(p:Nat)(hy:holdsB l n (p:Int)=true) :
  Calls Tryd.prog 29 #[.slice A l.length c,.int .i64 (n:Int),.int .i64 (p:Int)] w fun e w'=>∃g cap,e=.returned (.tuple #[.slice (some ⟨g,0,none⟩) l.length cap,.int .i64 0])∧Pc w' (some ⟨g,0,none⟩,l.length,cap,putB l p)∧w.heap.size≤g∧Below w.heap.size w w':=by
 have C:=holds_any h hn (by omega) (p:Int)
 rw[hy] at C
 have C:=Lib.hid C
 obtain⟨h1,h2⟩:=Bool.and_eq_true_iff.1 hy
 obtain⟨h3,h4⟩:=Bool.and_eq_true_iff.1 h2
 have h4:=of_decide_eq_true h4
 have hlen:=right_len h1
 have h0:0 < l.length:=by omega
 have CL:=Lib.hid (fun(wr:World) (hb:Below w.heap.size w wr)=>Clone_any A l.length c l wr h0 (by omega) h.cap (h.below hb).row)
 obtain⟨q,hq⟩:∃q,p / 8=q:=⟨_,rfl⟩
 obtain⟨x,hx⟩:∃x,l.getD q 0=x:=⟨_,rfl⟩
 have hqn:q < l.length:=by omega
 have hg:l[q]?=some x:=by rw[←hx,List.getD_eq_getElem?_getD,List.getElem?_eq_getElem hqn];rfl
 have hx8:x < 256:=h.lt x (List.mem_of_getElem? hg)
 have e1:(p:Int) / 8=(q:Int):=by omega
 have ew:IntKind.i64.wrap (q:Int)=(q:Int):=Go.IntWalk.i64_in _ (by omega)
 have ep:putB l p=l.set q (x ||| 2 ^ (p%8)):=by unfold putB;rw[hq,hx]
 have BC:=fun w=>(bit_any p (by omega) w)
 obtain⟨r,hr8⟩:∃r,p%8=r:=⟨_,rfl⟩
 have hr:r < 8:=by omega
 rw[hr8] at ep BC
 have OB:=or_bit x hx8 r hr
 have hy8:x ||| 2 ^ r < 256:=Nat.or_lt_two_pow (n:=8) hx8 (Nat.pow_lt_pow_right (by decide) hr)
 obtain⟨y,hy0⟩:∃y,x ||| 2 ^ r=y:=⟨_,rfl⟩
 rw[hy0] at OB hy8 ep
 generalize((2 ^ r:Nat):Int)=B at OB BC
 rw[ep]
 have BC:=Lib.hid BC
 have HLT:=Lib.hid h.lt
 have HG:=Lib.hid hg
 obtain⟨L,hL⟩:∃L,l.length=L:=⟨_,rfl⟩
 have HL:=Lib.hid hL
 rw[hL] at C CL hqn ⊢
 clear ep hy hr8 hr hx8 hx hq hl h hL h1 h2 h3 h4 hlen h0 hy0 hn hg
 go_enter Tryd.func29,Tryd.ntmps29
 go_upto_region 4 with(first|(go_at_call 53;(with_reducible refine C.out.mono ?_);rintro e w1 ⟨rfl,b1⟩;have D1:=Lib.hid b1;have C1:=Lib.hid (CL.out _ b1);clear b1)|(go_at_call 54;(with_reducible refine C1.out.mono ?_);rintro e w2 ⟨g,cap,cur,rfl,hbl,h1,h2,h3,G2,b2⟩;have D2:=Lib.hid (D1.out.trans (b2.mono D1.out.size));have HGG:=Lib.hid (Nat.le_trans D1.out.size G2);clear b2 G2))
 rw[HL.out] at h1 h2 h3 ⊢
 have hcx:cur[q]?=some (.int .u8 (x:Int)):=by
  have:=congrArg (fun z=>z[q]?) h3
  simp only[List.getElem?_take,if_pos hqn,bl_get,HG.out] at this
  simpa using this
 have c2:=hbl.cell_ hcx
 have c3:=hbl.frozen q
 have HB:=Lib.hid hbl
 have H1:=Lib.hid h1
 have H2:=Lib.hid h2
 have H3:=Lib.hid h3
 clear hbl h2 h3 hcx
 go_region_with ((go_at_call 55;(with_reducible refine(BC.out _).mono ?_);rintro e w3 ⟨rfl,rfl⟩))
 all_goals
  have E1:=Lib.hid (D2.out.setCell (p:=⟨g,q,none⟩) HGG.out (.int .u8 (y:Int))).drew
  have B1:=Lib.hid (HB.out.set_ q (.int .u8 (y:Int))).drew
  generalize(w2.setCell ⟨g,q,none⟩ (.int .u8 (y:Int))).drew=W at E1 B1 ⊢
  go_wp2_with fail
  go_ret2
  refine⟨g,cap,rfl,⟨by show L=_;rw[List.length_set,HL.out],?_,?_,?_,fun e=>by cases e⟩,HGG.out,E1.out⟩
  ·exact Sl.of_bl B1.out 0 _ _ (by rw[bl_length]) (set_at (by rw[HL.out];exact H3.out) (by rw[HL.out];exact hqn))
  ·intro z hz
   rcases List.mem_or_eq_of_mem_set hz with h|h
   ·exact HLT.out z h
   ·rw[h];exact hy8
  ·show(l.set q y).length≤cap
   rw[List.length_set,HL.out];exact h1
end Go.Proofs.YtcnlmekjcffohaaDoor.Mk
namespace Go.Proofs.YtcnlmekjcffohaaDoor.Mk
open Go.RowKit Go.Proofs.YtcnlmekjcffohaaDoor.Gn Go.Deep
set_option maxRecDepth 100000 in
theorem Count_ok(s c:Int)(hc:64≤c∧c≤1024)(hs:0≤s∧s≤131072)(w:World) :
  Calls Tryd.prog 27 #[.int .i64 s,.int .i64 c] w fun e w'=>e=.returned (.tuple #[.int .i64 ((s+c - 1) / c),.int .i64 0])∧w=w':=by
 obtain⟨h1,h2⟩:=hc
 obtain⟨h3,h4⟩:=hs
 obtain⟨q,hq⟩:∃q,(s+c - 1) / c=q:=⟨_,rfl⟩
 have q0:0≤q:=by rw[←hq];exact Int.ediv_nonneg (by omega) (by omega)
 have q1:q≤s+c - 1:=by rw[←hq];exact Int.ediv_le_self _ (by omega)
 rw[hq]
 go_enter Tryd.func27,Tryd.ntmps27
 go_wp2_with fail
 go_ret2
 exact⟨congrArg (fun z=>Ending.returned (.tuple #[.int .i64 z,.int .i64 0])) hq,rfl⟩
end Go.Proofs.YtcnlmekjcffohaaDoor.Mk
