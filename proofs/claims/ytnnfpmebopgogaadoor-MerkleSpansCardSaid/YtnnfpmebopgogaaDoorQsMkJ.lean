/- Joined texts. -/
import Derived.Test.YtnnfpmebopgogaaDoorQsMkG
import Derived.Test.YtnnfpmebopgogaaDoorQsMkR
import Derived.Test.YtnnfpmebopgogaaDoorQsMpProveB
set_option linter.unusedVariables false
namespace Go.Proofs.YtnnfpmebopgogaaDoor.Mk
open Go.RowKit Go.Proofs.YtnnfpmebopgogaaDoor.Gn Go.Proofs.YtnnfpmebopgogaaDoor.Fd Go.Deep
theorem or_bit:∀x:Nat,x < 256→∀r:Nat,r < 8→bits .or .u8 (x:Int) ((2 ^ r:Nat):Int)=((x ||| 2 ^ r:Nat):Int):=by decide +kernel
def putB(l:List Nat)(p:Nat):List Nat:=l.set (p / 8) (l.getD (p / 8) 0 ||| 2 ^ (p%8))
theorem set_at{cur:Array Value}{l:List Nat}{q y:Nat}(h:cur.toList.take l.length=bl l)(hq:q < l.length)(k:Nat)(v:Value)(hv:(bl (l.set q y))[k]?=some v):(cur.setIfInBounds q (.int .u8 (y:Int)))[0+k]?=some v:=by
 rw[Nat.zero_add]
 have hk:k < l.length:=by
  have:=(List.getElem?_eq_some_iff.1 hv).1
  rwa [bl_length,List.length_set] at this
 have hcs:l.length≤cur.size:=by
  have:=congrArg List.length h
  simp only[List.length_take,Array.length_toList,bl,List.length_map] at this
  omega
 rw[Array.getElem?_setIfInBounds]
 by_cases e:q=k
 ·subst e
  rw[if_pos rfl,if_pos (by omega)]
  rw[bl_get,List.getElem?_set_self hq] at hv
  exact hv
 ·rw[if_neg e]
  rw[bl_get,List.getElem?_set_ne e,←bl_get,←h,List.getElem?_take,if_pos hk,Array.getElem?_toList] at hv
  exact hv
set_option maxRecDepth 100000 in
set_option maxHeartbeats 2000000 in
theorem Put_yes{A:Option Addr}{n c:Nat}{l:List Nat}{w:World}(h:Pc w (A,l.length,c,l))(hn:n≤4096)(hl:l.length≤1000)(p:Nat)(hy:holdsB l n (p:Int)=true) :
  Calls Tryd.prog 32 #[.slice A l.length c,.int .i64 (n:Int),.int .i64 (p:Int)] w fun e w'=>∃g cap,e=.returned (.tuple #[.slice (some ⟨g,0,none⟩) l.length cap,.int .i64 0])∧Pc w' (some ⟨g,0,none⟩,l.length,cap,putB l p)∧w.heap.size≤g∧Below w.heap.size w w':=by
 have C:=holds_any h hn (by omega) (p:Int)
 rw[hy] at C
 have C:=Lib.hid C
 obtain⟨h1,h2⟩:=Bool.and_eq_true_iff.1 hy
 obtain⟨h3,h4⟩:=Bool.and_eq_true_iff.1 h2
 have h4:=of_decide_eq_true h4
 have hlen:=right_len h1
 have h0:0 < l.length:=by omega
 have CL:=Lib.hid (fun(wr:World) (hb:Below w.heap.size w wr)=>Clone_any A l.length c l wr h0 (by omega) h.cap (h.below hb).row)
 obtain⟨q,hq⟩:∃q,p / 8=q:=⟨_,rfl⟩
 obtain⟨x,hx⟩:∃x,l.getD q 0=x:=⟨_,rfl⟩
 have hqn:q < l.length:=by omega
 have hg:l[q]?=some x:=by rw[←hx,List.getD_eq_getElem?_getD,List.getElem?_eq_getElem hqn];rfl
 have hx8:x < 256:=h.lt x (List.mem_of_getElem? hg)
 have e1:(p:Int) / 8=(q:Int):=by omega
 have ew:IntKind.i64.wrap (q:Int)=(q:Int):=Go.IntWalk.i64_in _ (by omega)
 have ep:putB l p=l.set q (x ||| 2 ^ (p%8)):=by unfold putB;rw[hq,hx]
 have BC:=fun w=>(bit_any p (by omega) w)
 obtain⟨r,hr8⟩:∃r,p%8=r:=⟨_,rfl⟩
 have hr:r < 8:=by omega
 rw[hr8] at ep BC
 have OB:=or_bit x hx8 r hr
 have hy8:x ||| 2 ^ r < 256:=Nat.or_lt_two_pow (n:=8) hx8 (Nat.pow_lt_pow_right (by decide) hr)
 obtain⟨y,hy0⟩:∃y,x ||| 2 ^ r=y:=⟨_,rfl⟩
 rw[hy0] at OB hy8 ep
 generalize((2 ^ r:Nat):Int)=B at OB BC
 rw[ep]
 have BC:=Lib.hid BC
 have HLT:=Lib.hid h.lt
 have HG:=Lib.hid hg
 obtain⟨L,hL⟩:∃L,l.length=L:=⟨_,rfl⟩
 have HL:=Lib.hid hL
 rw[hL] at C CL hqn ⊢
 clear ep hy hr8 hr hx8 hx hq hl h hL h1 h2 h3 h4 hlen h0 hy0 hn hg
 go_enter Tryd.func32,Tryd.ntmps32
 go_upto_region 4 with(first|(go_at_call 61;(with_reducible refine C.out.mono ?_);rintro e w1 ⟨rfl,b1⟩;have D1:=Lib.hid b1;have C1:=Lib.hid (CL.out _ b1);clear b1)|(go_at_call 62;(with_reducible refine C1.out.mono ?_);rintro e w2 ⟨g,cap,cur,rfl,hbl,h1,h2,h3,G2,b2⟩;have D2:=Lib.hid (D1.out.trans (b2.mono D1.out.size));have HGG:=Lib.hid (Nat.le_trans D1.out.size G2);clear b2 G2))
 rw[HL.out] at h1 h2 h3 ⊢
 have hcx:cur[q]?=some (.int .u8 (x:Int)):=by
  have:=congrArg (fun z=>z[q]?) h3
  simp only[List.getElem?_take,if_pos hqn,bl_get,HG.out] at this
  simpa using this
 have c2:=hbl.cell_ hcx
 have c3:=hbl.frozen q
 have HB:=Lib.hid hbl
 have H1:=Lib.hid h1
 have H2:=Lib.hid h2
 have H3:=Lib.hid h3
 clear hbl h2 h3 hcx
 go_region_with ((go_at_call 63;(with_reducible refine(BC.out _).mono ?_);rintro e w3 ⟨rfl,rfl⟩))
 all_goals
  have E1:=Lib.hid (D2.out.setCell (p:=⟨g,q,none⟩) HGG.out (.int .u8 (y:Int))).drew
  have B1:=Lib.hid (HB.out.set_ q (.int .u8 (y:Int))).drew
  generalize(w2.setCell ⟨g,q,none⟩ (.int .u8 (y:Int))).drew=W at E1 B1 ⊢
  go_wp2_with fail
  go_ret2
  refine⟨g,cap,rfl,⟨by show L=_;rw[List.length_set,HL.out],?_,?_,?_,fun e=>by cases e⟩,HGG.out,E1.out⟩
  ·exact Sl.of_bl B1.out 0 _ _ (by rw[bl_length]) (set_at (by rw[HL.out];exact H3.out) (by rw[HL.out];exact hqn))
  ·intro z hz
   rcases List.mem_or_eq_of_mem_set hz with h|h
   ·exact HLT.out z h
   ·rw[h];exact hy8
  ·show(l.set q y).length≤cap
   rw[List.length_set,HL.out];exact h1
end Go.Proofs.YtnnfpmebopgogaaDoor.Mk
namespace Go.Proofs.YtnnfpmebopgogaaDoor.Mk
open Go.RowKit Go.Proofs.YtnnfpmebopgogaaDoor.Gn Go.Proofs.YtnnfpmebopgogaaDoor.Fd Go.Deep
theorem Missing_zero{A:Option Addr}{c:Nat}{w:World}(h:Pc w (A,2,c,[0,1])) :
  Calls Tryd.prog 33 #[.slice A 2 c,.int .i64 9] w fun e w'=>e=.returned (.int .i64 0)∧Below w.heap.size w w':=by
 refine(Missing_any (n:=9) (l:=[0,1]) h (by decide) (by decide)).mono ?_
 rintro e w' ⟨h1,h2⟩
 refine⟨?_,h2⟩
 rw[show rightB [0,1] 9=true by decide +kernel] at h1
 obtain⟨m,rfl,-, h3,-⟩:=h1
 have:m=0:=by
  rcases Nat.eq_zero_or_pos m with h|h
  ·exact h
  ·have:=h3 0 h;exact absurd this (by decide +kernel)
 rw[this];rfl
theorem Empty_nine(w:World):Calls Tryd.prog 31 #[.int .i64 9] w fun e w'=>∃g,e=.returned (.tuple #[.slice (some ⟨g,0,none⟩) 2 2,.int .i64 0])∧Pc w' (some ⟨g,0,none⟩,2,2,[0,0])∧w.heap.size≤g∧Below w.heap.size w w':=Empty_any 9 2 (by decide) rfl w
theorem Put_eight{A:Option Addr}{c:Nat}{w:World}(h:Pc w (A,2,c,[0,0])) :
  Calls Tryd.prog 32 #[.slice A 2 c,.int .i64 9,.int .i64 8] w fun e w'=>∃g cap,e=.returned (.tuple #[.slice (some ⟨g,0,none⟩) 2 cap,.int .i64 0])∧Pc w' (some ⟨g,0,none⟩,2,cap,[0,1])∧w.heap.size≤g∧Below w.heap.size w w':=by
 refine(Put_yes (n:=9) (l:=[0,0]) h (by decide) (by decide) 8 (by decide +kernel)).mono ?_
 rintro e w' ⟨g,cap,h1,h2,h3,h4⟩
 rw[show putB [0,0] 8=[0,1] by decide +kernel] at h2
 exact⟨g,cap,h1,h2,h3,h4⟩
theorem Leaf_five(w:World)(ts:Sh.Tab w):Calls Tryd.prog 9 #[.int .i64 0,.slice (some ⟨w.heap.size,0,none⟩) 1 1] (w.alloc (.cells #[.int .u8 5] 5)) fun e w'=>∃g x,e=.returned (.tuple #[.slice (some ⟨g,0,none⟩) 32 32,.int .i64 0])∧Pc w' (some ⟨g,0,none⟩,32,32,x)∧Below w.heap.size w w':=by
 have BB:=(Below.refl w.heap.size w).alloc (Nat.le_refl _) (.cells #[.int .u8 5] 5)
 refine(Leaf_any 0 (by decide) (A:=some ⟨w.heap.size,0,none⟩) (m:=1) (c:=1) (x:=[5]) ⟨rfl,Sl.new_ w 5 (bl [5]),(show ∀x∈[5],x < 256 by decide),Nat.le_refl _,fun h=>by cases h⟩ (by decide) (ts.below BB)).mono ?_
 rintro e w' ⟨g,h1,h2,h3,h4⟩
 exact⟨g,_,h1,h2,BB.trans (h4.mono BB.size)⟩
theorem Root_of{A:Option Addr}{c:Nat}{x:List Nat}{w:World}(h:Pc w (A,32,c,x))(ts:Sh.Tab w) :
  Calls Tryd.prog 11 #[.slice (some ⟨w.heap.size,0,none⟩) 1 1] (w.alloc (.cells #[.slice A 32 c] 22)) fun e w'=>∃g,e=.returned (.tuple #[.slice (some ⟨g,0,none⟩) 32 32,.int .i64 0])∧Pc w' (some ⟨g,0,none⟩,32,32,rootOf 1 x)∧Below w.heap.size w w':=by
 have BB:=(Below.refl w.heap.size w).alloc (Nat.le_refl _) (.cells #[.slice A 32 c] 22)
 refine(Root_one (c:=1) (r:=(A,32,c,x)) ⟨one_sl w (A,32,c,x),h.below BB,h.len.symm⟩ (ts.below BB)).mono ?_
 rintro e w' ⟨g,h1,h2,h3,h4⟩
 exact⟨g,h1,h2,BB.trans (h4.mono BB.size)⟩
theorem cells_two{g cap:Nat}{w:World}(h:Pc w (some ⟨g,0,none⟩,2,cap,[0,1])):w.cell? ⟨g,0,none⟩=some (.int .u8 0)∧w.cell? ⟨g,1,none⟩=some (.int .u8 1):=by
 have hr:Sl w (some ⟨g,0,none⟩) 2 (bl [0,1]):=h.row
 constructor
 ·obtain⟨a,e,hc⟩:=hr.at_ (by decide:0 < 2)
  cases e
  exact hc
 ·obtain⟨a,e,hc⟩:=hr.at_ (by decide:1 < 2)
  cases e
  exact hc
set_option maxRecDepth 100000 in
set_option maxHeartbeats 8000000 in
theorem known_any(w:World)(ts:Sh.Tab w):Calls Tryd.prog 8 #[] w fun e w'=>e=.returned (.bool true)∧Below w.heap.size w w':=by
 have C1:=Lib.hid (Count_ok 65 64 (by decide) (by decide) w)
 have TS:=Lib.hid ts
 clear ts
 go_enter Tryd.func8,Tryd.ntmps8
 go_wp2_with (go_at_call 30;(with_reducible refine C1.out.mono ?_);rintro e w0 ⟨rfl,rfl⟩;have C2:=Lib.hid (Empty_nine w);clear C1)
 go_wp2_with (go_at_call 31;(with_reducible refine C2.out.mono ?_);rintro e w1 ⟨g1,rfl,p1,h1,b1⟩;have D1:=Lib.hid b1;have C3:=Lib.hid (Put_eight p1);clear C2 p1 h1 b1)
 go_wp2_with (go_at_call 32;(with_reducible refine C3.out.mono ?_);rintro e w2 ⟨g2,cap,rfl,p2,h2,b2⟩;have D2:=Lib.hid (D1.out.trans (b2.mono D1.out.size));have P2:=Lib.hid p2;have C4:=Lib.hid (Leaf_five w2 (TS.out.below D2.out));clear C3 p2 h2 b2)
 go_wp2_with (go_at_call 9;(with_reducible refine C4.out.mono ?_);rintro e w3 ⟨g3,x,rfl,p3,b3⟩;have D3:=Lib.hid (D2.out.trans (b3.mono D2.out.size));have P23:=Lib.hid (P2.out.below b3);have P3:=Lib.hid p3;have C5:=Lib.hid (Root_of p3 (TS.out.below D3.out));clear C4 p3 b3)
 go_wp2_with (go_at_call 11;(with_reducible refine C5.out.mono ?_);rintro e w4 ⟨g4,rfl,p4,b4⟩;have D4:=Lib.hid (D3.out.trans (b4.mono D3.out.size));have P24:=Lib.hid (P23.out.below b4);have P34:=Lib.hid (P3.out.below b4);have P4:=Lib.hid p4;have C6:=Lib.hid (Missing_zero P24.out);obtain⟨k0,k1⟩:=cells_two P24.out;clear C5 p4 b4)
 go_wp2_with (go_at_call 33;(with_reducible refine C6.out.mono ?_);rintro e w5 ⟨rfl,b5⟩;have D5:=Lib.hid (D4.out.trans (b5.mono D4.out.size));have C7:=Lib.hid (Check_one (P4.out.below b5) (P34.out.below b5) (TS.out.below D5.out));clear C6 b5)
 go_wp2_with (go_at_call 16;(with_reducible refine C7.out.mono ?_);rintro e w6 ⟨rfl,b6⟩;have D6:=Lib.hid (D5.out.trans (b6.mono D5.out.size));clear C7 b6)
 go_ret
 exact⟨rfl,D6.out⟩
end Go.Proofs.YtnnfpmebopgogaaDoor.Mk
