/- Joined texts. -/
import Derived.Test.YtnnfpmebopgogaaDoorQsMrProg
set_option linter.unusedVariables false
namespace Go.Proofs.YtnnfpmebopgogaaDoor.Mk
open Go.RowKit Go.Proofs.YtnnfpmebopgogaaDoor.Gn Go.Proofs.YtnnfpmebopgogaaDoor.Fd Go.Deep
theorem digests_ranges{R BL B:Option Addr}{nr cr ml cl m c:Nat}{lr:List Nat}{Lv P:List Rw}{w:World}(hr:Pc w (R,nr,cr,lr))(hL:PAny w BL ml cl Lv)(hP:PAny w B m c P)(h1:nr≤1000)(z:Bool)(hz:z=(decide (nr=32) && (all32 Lv && all32 P))) :
  Calls Tryd.prog 45 #[.slice (some ⟨w.heap.size+1,0,none⟩) 3 3] ((w.alloc (.cells #[.slice R nr cr] 22)).alloc (.cells #[.slice (some ⟨w.heap.size,0,none⟩) 1 1,.slice BL ml cl,.slice B m c] 23)) fun e w'=>e=.returned (.bool z)∧Below w.heap.size w w':=by
 have B1:=(Below.refl w.heap.size w).alloc (Nat.le_refl _) (.cells #[.slice R nr cr] 22)
 have S1:Sl (w.alloc (.cells #[.slice R nr cr] 22)) (some ⟨w.heap.size,0,none⟩) 1 ([((R,nr,cr,lr):Rw)].map rwv):=Sl.new_ w 22 [.slice R nr cr]
 have P1:=hP.below B1
 have L1:=hL.below B1
 rw[show w.heap.size+1=(w.alloc (.cells #[.slice R nr cr] 22)).heap.size by simp]
 generalize w.alloc (.cells #[.slice R nr cr] 22)=w1 at B1 S1 P1 L1 ⊢
 have B2:=(Below.refl w1.heap.size w1).alloc (Nat.le_refl _) (.cells #[.slice (some ⟨w.heap.size,0,none⟩) 1 1,.slice BL ml cl,.slice B m c] 23)
 have P2:=P1.below B2
 have L2:=L1.below B2
 have S2:Sl (w1.alloc (.cells #[.slice (some ⟨w.heap.size,0,none⟩) 1 1,.slice BL ml cl,.slice B m c] 23)) (some ⟨w1.heap.size,0,none⟩) 3 ([((some ⟨w.heap.size,0,none⟩,1,1,[(R,nr,cr,lr)]):Lw),(BL,ml,cl,Lv),(B,m,c,P)].map lwv):=Sl.new_ w1 23 [.slice (some ⟨w.heap.size,0,none⟩) 1 1,.slice BL ml cl,.slice B m c]
 have:=digests_any [(some ⟨w.heap.size,0,none⟩,1,1,[(R,nr,cr,lr)]),(BL,ml,cl,Lv),(B,m,c,P)] _ 3 3 _ S2 (by
  intro l hl
  simp at hl
  rcases hl with rfl|rfl|rfl
  ·exact⟨rfl,S1.below B2,show 1≤1000000 by decide⟩
  ·exact⟨L2.len.symm,L2.row,show ml≤1000000 by have:=L2.few;omega⟩
  ·exact⟨P2.len.symm,P2.row,show m≤1000000 by have:=P2.few;omega⟩) (by
  intro l hl r hr
  simp at hl
  rcases hl with rfl|rfl|rfl
  ·simp at hr
   subst hr
   show nr≤1099511627776;omega
  ·have:=(L2.pcs r hr).2;omega
  ·have:=(P2.pcs r hr).2;omega) (by decide)
 rw[show allAll [(some ⟨w.heap.size,0,none⟩,1,1,[((R,nr,cr,lr):Rw)]),(BL,ml,cl,Lv),(B,m,c,P)]=z by rw[hz];simp[allAll,all32]] at this
 refine this.mono fun e w' h=>?_
 obtain⟨h1,rfl⟩:=h
 exact⟨h1,B1.trans (B2.mono B1.size)⟩
set_option maxHeartbeats 4000000 in
set_option maxRecDepth 100000 in
theorem checkR_bad{R BL B:Option Addr}{nr cr ml cl m c:Nat}{lr:List Nat}{Lv Q:List Rw}{w:World}(hr:Pc w (R,nr,cr,lr))(h9:nr≤1000)(hL:PAny w BL ml cl Lv)(hQ:PAny w B m c Q){n f:Int}(hfb : -9223372036854775808≤f∧f≤9223372036854775807)(hb:badR n f nr ml Lv Q) :
  Calls Tryd.prog 25 #[.slice R nr cr,.int .i64 n,.int .i64 f,.slice BL ml cl,.slice B m c] w (OneQ w):=by
 have hlf:=hL.few
 have hqf:=hQ.few
 have C:=Lib.hid (fun z hz=>digests_ranges hr hL hQ h9 z hz)
 clear hr h9 hL hQ
 by_cases c1:n < 1
 ·clear hb C
  go_enter Tryd.func25,Tryd.ntmps25
  go_wp2_with fail
  go_ret
  exact⟨rfl,Below.refl _ _⟩
 by_cases c2:(4096:Int) < n
 ·clear hb C
  go_enter Tryd.func25,Tryd.ntmps25
  go_wp2_with fail
  go_ret
  exact⟨rfl,Below.refl _ _⟩
 by_cases c3:ml=0
 ·subst c3
  clear hb C
  go_enter Tryd.func25,Tryd.ntmps25
  go_wp2_with fail
  go_ret
  exact⟨rfl,Below.refl _ _⟩
 have q3:((ml:Int) == 0)=false:=beq_eq_false_iff_ne.2 (by omega)
 by_cases c4:f < 0
 ·clear hb C
  go_enter Tryd.func25,Tryd.ntmps25
  go_wp2_with fail
  go_ret
  exact⟨rfl,Below.refl _ _⟩
 by_cases c6:n - (ml:Int) < f
 ·clear hb C
  go_enter Tryd.func25,Tryd.ntmps25
  go_wp2_with fail
  go_ret
  exact⟨rfl,Below.refl _ _⟩
 have C2:=Lib.hid (C.out false (by
  rcases hb with h|h|h|h|h|h|h|h
  ·omega
  ·omega
  ·omega
  ·omega
  ·omega
  ·rw[decide_eq_false h];rfl
  ·rw[h];simp
  ·rw[h];simp))
 clear hb C
 go_enter Tryd.func25,Tryd.ntmps25
 go_wp2_with (go_at_call 45;(with_reducible refine C2.out.mono ?_);rintro e w1 ⟨rfl,b1⟩;have D1:=Lib.hid b1;clear b1)
 go_ret
 exact⟨rfl,D1.out⟩
set_option maxHeartbeats 4000000 in
set_option maxRecDepth 100000 in
theorem checkR_ok{R BL B:Option Addr}{cr ml cl m c:Nat}{lr:List Nat}{Lv Q:List Rw}{w:World}(hr:Pc w (R,32,cr,lr))(hL:PAny w BL ml cl Lv)(hl32:all32 Lv=true)(hQ:PAny w B m c Q)(hq32:all32 Q=true){n f:Nat}(hn:n≤4096)(h1:1≤ml)(hfn:f+ml≤n)(ts:Sh.Tab w) :
  Calls Tryd.prog 25 #[.slice R 32 cr,.int .i64 (n:Int),.int .i64 (f:Int),.slice BL ml cl,.slice B m c] w (ErrQ (checkRE n f lr (con Lv) (con Q)) w):=by
 have hlf:=hL.few
 have hqf:=hQ.few
 have C:=Lib.hid (digests_ranges hr hL hQ (by decide) true (by rw[hl32,hq32];rfl))
 obtain⟨t,ht⟩:∃t,t=f+ml:=⟨_,rfl⟩
 have et:(f:Int)+(ml:Int)=(t:Int):=by omega
 have BE:=Lib.hid (fun w=>beside_any n f t (by omega) hn (by omega) (by omega) w)
 have LE:=Lib.hid (show(con Lv).length=ml∧(con Q).length=m from⟨by rw[con_len,hL.len],by rw[con_len,hQ.len]⟩)
 obtain⟨k,hk⟩:∃k,k=(bes f t 0 n).length:=⟨_,rfl⟩
 have hkn:k≤4096:=by rw[hk];have:=bes_len n n (Nat.le_refl _) (by omega) f t 0;omega
 have HK:=Lib.hid hk
 have TW:=Lib.hid (fun(hfit:k=m) (wq:World) (hb:Below w.heap.size w wq)=>topWith_any (ts.below hb) (f:=f) (t:=t) (n:=n) ((hL.below hb).p32 hl32) ht.symm (by omega) h1 ((hQ.below hb).p32 hq32) (by omega) (by omega) hn (by rw[←hk];exact hfit))
 have CC:=Lib.hid (fun(w1:World) (T:Option Addr) (ct:Nat) (x:List Nat) (hb:Below w.heap.size w w1) (hp:Pc w1 (T,32,ct,x))=>compared_any n (by omega) (hr.below hb) hp (by rw[←hp.len];show 32 < 1000000;decide) (ts.below hb))
 obtain⟨Z,hZ⟩:∃Z,Z=checkRE n f lr (con Lv) (con Q):=⟨_,rfl⟩
 rw[←hZ]
 have HZ:=Lib.hid (show Z=if m≠k then 50 else if lr=rootOf n (upv (con Lv) (con Q) f t 0 n 0) then 0 else 50 from by rw[hZ,checkRE,LE.out.1,LE.out.2,←ht,←hk])
 have g1:¬(n:Int) < 1:=by omega
 have g2:¬(4096:Int) < (n:Int):=by omega
 have g3:((ml:Int) == 0)=false:=beq_eq_false_iff_ne.2 (by omega)
 have g4:¬(f:Int) < 0:=by omega
 have g6:¬(n:Int) - (ml:Int) < (f:Int):=by omega
 clear hr hL hl32 hQ hq32 hZ hk ht ts
 by_cases hmk:m=k
 ·have t0:((m:Int) != (k:Int))=false:=by rw[hmk];simp
  have TW2:=Lib.hid (TW.out hmk.symm)
  clear TW
  have hz:=HZ.out
  rw[if_neg (by rw[hmk];simp)] at hz
  have HZ2:=Lib.hid hz
  clear hz
  generalize upv (con Lv) (con Q) f t 0 n 0=x at TW2 HZ2
  have CC:=Lib.hid (fun(w1:World) (T:Option Addr) (ct:Nat) (hb:Below w.heap.size w w1) (hp:Pc w1 (T,32,ct,x))=>show Calls Tryd.prog 48 #[.slice R 32 cr,.int .i64 (n:Int),.slice T 32 ct] w1 (fun e w'=>e=.returned (.int .i64 Z)∧Below w1.heap.size w1 w') from by have h:=CC.out w1 T ct x hb hp;rwa [←HZ2.out] at h)
  clear HZ HZ2 hmk
  go_enter Tryd.func25,Tryd.ntmps25
  go_wp2_with (first
   |(go_at_call 45;(with_reducible refine C.out.mono ?_);rintro e w1 ⟨rfl,b1⟩;have D1:=Lib.hid b1;obtain⟨s0,s1⟩:=two_cells (Bl.new_ w1 75 #[.int .i64 (f:Int),.int .i64 (t:Int)]);have D2:=Lib.hid (b1.alloc b1.size (.cells #[.int .i64 (f:Int),.int .i64 (t:Int)] 75));clear b1 C)
   |(go_at_call 51;(with_reducible refine(BE.out _).mono ?_);rintro e w3 ⟨A3,m3,c3,rfl,hm3,-, b3⟩;rw[←HK.out] at hm3;subst hm3;obtain⟨s2,s3⟩:=two_cells ((Bl.new_ w1 75 #[.int .i64 (f:Int),.int .i64 (t:Int)]).below' b3);have D3:=Lib.hid (D2.out.trans (b3.mono D2.out.size));clear b3)
   |(go_at_call 53;(with_reducible refine(TW2.out _ D3.out).mono ?_);rintro e w4 ⟨A4,c4,rfl,p4,b4⟩;have D4:=Lib.hid (D3.out.trans (b4.mono D3.out.size));have C5:=Lib.hid (CC.out w4 A4 c4 D4.out p4);clear p4 b4)
   |(go_at_call 48;(with_reducible refine C5.out.mono ?_);rintro e w5 ⟨rfl,b5⟩;have D5:=Lib.hid (D4.out.trans (b5.mono D4.out.size));clear b5))
  go_ret
  exact⟨rfl,D5.out⟩
 ·have t0:((m:Int) != (k:Int))=true:=by rw[bne_iff_ne];omega
  have HZ2:=Lib.hid (show Z=50 from by rw[HZ.out,if_pos hmk])
  clear HZ hmk TW CC
  go_enter Tryd.func25,Tryd.ntmps25
  go_wp2_with (first
   |(go_at_call 45;(with_reducible refine C.out.mono ?_);rintro e w1 ⟨rfl,b1⟩;have D1:=Lib.hid b1;obtain⟨s0,s1⟩:=two_cells (Bl.new_ w1 75 #[.int .i64 (f:Int),.int .i64 (t:Int)]);have D2:=Lib.hid (b1.alloc b1.size (.cells #[.int .i64 (f:Int),.int .i64 (t:Int)] 75));clear b1 C)
   |(go_at_call 51;(with_reducible refine(BE.out _).mono ?_);rintro e w3 ⟨A3,m3,c3,rfl,hm3,-, b3⟩;rw[←HK.out] at hm3;subst hm3;have D3:=Lib.hid (D2.out.trans (b3.mono D2.out.size));clear b3))
  go_ret
  exact⟨by rw[HZ2.out];rfl,D3.out⟩
end Go.Proofs.YtnnfpmebopgogaaDoor.Mk
