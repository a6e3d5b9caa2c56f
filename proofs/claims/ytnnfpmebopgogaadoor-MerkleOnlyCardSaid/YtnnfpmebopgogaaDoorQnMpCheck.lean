/- Joined texts. -/
import Derived.Deep.LoopGhost
import Derived.Test.YtnnfpmebopgogaaDoorQnMpDoc
import Derived.Test.YtnnfpmebopgogaaDoorQnMkO
set_option linter.unusedVariables false
namespace Go.Proofs.YtnnfpmebopgogaaDoor.Mk
open Go.RowKit Go.Proofs.YtnnfpmebopgogaaDoor.Gn Go.Proofs.YtnnfpmebopgogaaDoor.Fd Go.Deep
structure PAny (w:World) (B:Option Addr) (m c:Nat) (P:List Rw):Prop where
 row:Sl w B m (P.map rwv)
 pcs:∀r∈P,Pc w r∧r.2.1≤1500
 few:m≤1500
 cap:m≤c
theorem PAny.below{w w':World}{B:Option Addr}{m c:Nat}{P:List Rw}(h:PAny w B m c P)(hb:Below w.heap.size w w'):PAny w' B m c P:=⟨h.row.below hb,fun r hr=>⟨(h.pcs r hr).1.below hb,(h.pcs r hr).2⟩,h.few,h.cap⟩
theorem PAny.len{w:World}{B:Option Addr}{m c:Nat}{P:List Rw}(h:PAny w B m c P):P.length=m:=by have:=h.row.1;rwa [List.length_map] at this
theorem PAny.p32{w:World}{B:Option Addr}{m c:Nat}{P:List Rw}(h:PAny w B m c P)(ha:all32 P=true):P32 w B m c P :=
 ⟨h.row,fun r hr=>⟨(h.pcs r hr).1,by
  unfold all32 at ha
  rw[List.all_eq_true] at ha
  have:=of_decide_eq_true (ha r hr)
  rw[←(h.pcs r hr).1.len];exact this⟩,h.cap,by have:=h.few;omega⟩
theorem digests_three{R A B:Option Addr}{nr nx m cr ca c:Nat}{lr x:List Nat}{P:List Rw}{w:World}(hr:Pc w (R,nr,cr,lr))(hx:Pc w (A,nx,ca,x))(hP:PAny w B m c P)(h1:nr≤1000)(h2:nx≤1000) :
  Calls Tryd.prog 45 #[.slice (some ⟨w.heap.size+1,0,none⟩) 2 2] ((w.alloc (.cells #[.slice R nr cr,.slice A nx ca] 22)).alloc (.cells #[.slice (some ⟨w.heap.size,0,none⟩) 2 2,.slice B m c] 23)) fun e w'=>e=.returned (.bool (decide (nr=32∧nx=32) && all32 P))∧Below w.heap.size w w':=by
 have B1:=(Below.refl w.heap.size w).alloc (Nat.le_refl _) (.cells #[.slice R nr cr,.slice A nx ca] 22)
 have S1:Sl (w.alloc (.cells #[.slice R nr cr,.slice A nx ca] 22)) (some ⟨w.heap.size,0,none⟩) 2 ([((R,nr,cr,lr):Rw),(A,nx,ca,x)].map rwv):=Sl.new_ w 22 [.slice R nr cr,.slice A nx ca]
 have P1:=hP.below B1
 rw[show w.heap.size+1=(w.alloc (.cells #[.slice R nr cr,.slice A nx ca] 22)).heap.size by simp]
 generalize w.alloc (.cells #[.slice R nr cr,.slice A nx ca] 22)=w1 at B1 S1 P1 ⊢
 have B2:=(Below.refl w1.heap.size w1).alloc (Nat.le_refl _) (.cells #[.slice (some ⟨w.heap.size,0,none⟩) 2 2,.slice B m c] 23)
 have P2:=P1.below B2
 have S2:Sl (w1.alloc (.cells #[.slice (some ⟨w.heap.size,0,none⟩) 2 2,.slice B m c] 23)) (some ⟨w1.heap.size,0,none⟩) 2 ([((some ⟨w.heap.size,0,none⟩,2,2,[(R,nr,cr,lr),(A,nx,ca,x)]):Lw),(B,m,c,P)].map lwv):=Sl.new_ w1 23 [.slice (some ⟨w.heap.size,0,none⟩) 2 2,.slice B m c]
 have:=digests_any [(some ⟨w.heap.size,0,none⟩,2,2,[(R,nr,cr,lr),(A,nx,ca,x)]),(B,m,c,P)] _ 2 2 _ S2 (by
  intro l hl
  simp at hl
  rcases hl with rfl|rfl
  ·exact⟨rfl,S1.below B2,show 2≤1000000 by decide⟩
  ·exact⟨P2.len.symm,P2.row,show m≤1000000 by have:=P2.few;omega⟩) (by
  intro l hl r hr
  simp at hl
  rcases hl with rfl|rfl
  ·simp at hr
   rcases hr with rfl|rfl
   ·show nr≤1099511627776;omega
   ·show nx≤1099511627776;omega
  ·have:=(P2.pcs r hr).2;omega) (by decide)
 rw[show allAll [(some ⟨w.heap.size,0,none⟩,2,2,[((R,nr,cr,lr):Rw),(A,nx,ca,x)]),(B,m,c,P)]=(decide (nr=32∧nx=32) && all32 P) by simp[allAll,all32]] at this
 refine this.mono fun e w' h=>?_
 obtain⟨h1,rfl⟩:=h
 exact⟨h1,B1.trans (B2.mono B1.size)⟩
def badA(n p:Int)(nr nx:Nat)(P:List Rw):Prop:=n < 1∨4096 < n∨p < 0∨n≤p∨(decide (nr=32∧nx=32) && all32 P)=false
def OneQ(w:World)(e:Ending)(w':World):Prop:=e=.returned (.int .i64 1)∧Below w.heap.size w w'
set_option maxHeartbeats 2000000 in
set_option maxRecDepth 100000 in
theorem check_bad{R A B:Option Addr}{nr nx m cr ca c:Nat}{lr x:List Nat}{P:List Rw}{w:World}(hr:Pc w (R,nr,cr,lr))(hx:Pc w (A,nx,ca,x))(hP:PAny w B m c P)(h1:nr≤1000)(h2:nx≤1000){n p:Int}(hb:badA n p nr nx P) :
  Calls Tryd.prog 16 #[.slice R nr cr,.int .i64 n,.int .i64 p,.slice A nx ca,.slice B m c] w (OneQ w):=by
 have C:=Lib.hid (digests_three hr hx hP h1 h2)
 clear hr hx hP h1 h2
 unfold badA at hb
 by_cases k1:n < 1
 ·clear C hb
  go_enter Tryd.func16,Tryd.ntmps16
  go_wp2_with fail
  go_ret
  exact⟨rfl,Below.refl _ _⟩
 by_cases k2:4096 < n
 ·clear C hb
  go_enter Tryd.func16,Tryd.ntmps16
  go_wp2_with fail
  go_ret
  exact⟨rfl,Below.refl _ _⟩
 by_cases k3:p < 0
 ·clear C hb
  go_enter Tryd.func16,Tryd.ntmps16
  go_wp2_with fail
  go_ret
  exact⟨rfl,Below.refl _ _⟩
 by_cases k4:n≤p
 ·clear C hb
  go_enter Tryd.func16,Tryd.ntmps16
  go_wp2_with fail
  go_ret
  exact⟨rfl,Below.refl _ _⟩
 have hf:(decide (nr=32∧nx=32) && all32 P)=false:=by
  rcases hb with h|h|h|h|h
  ·omega
  ·omega
  ·omega
  ·omega
  ·exact h
 rw[hf] at C
 clear hb hf
 go_enter Tryd.func16,Tryd.ntmps16
 go_wp2_with (go_at_call 45;(with_reducible refine C.out.mono ?_);rintro e w1 ⟨rfl,b1⟩;have D1:=Lib.hid b1;clear b1)
 go_ret
 exact⟨rfl,D1.out⟩
def ErrQ(k:Int)(w:World)(e:Ending)(w':World):Prop:=e=.returned (.int .i64 k)∧Below w.heap.size w w'
set_option maxHeartbeats 4000000 in
set_option maxRecDepth 100000 in
theorem check_ok{R A B:Option Addr}{m cr ca c:Nat}{lr x:List Nat}{P:List Rw}{w:World}(hr:Pc w (R,32,cr,lr))(hx:Pc w (A,32,ca,x))(hP:PAny w B m c P)(h32:all32 P=true){n p:Nat}(h1:1≤n)(hn:n≤4096)(hp:p < n)(ts:Sh.Tab w) :
  Calls Tryd.prog 16 #[.slice R 32 cr,.int .i64 (n:Int),.int .i64 (p:Int),.slice A 32 ca,.slice B m c] w (ErrQ (checkE n p lr x (con P)) w):=by
 have C:=digests_three hr hx hP (by decide) (by decide)
 rw[h32] at C
 have C:=Lib.hid C
 have CW:=Lib.hid (fun w=>wayTo_any h1 hn hp w)
 have QP:=Lib.hid (hP.p32 h32)
 have PL:=Lib.hid hP.len
 have HR:=Lib.hid hr
 have HX:=Lib.hid hx
 have TS:=Lib.hid ts
 have hm:=hP.few
 have hlx:x.length=32:=hx.len.symm
 have HLX:=Lib.hid hlx
 obtain⟨ws,hws⟩:∃ws,ws=way n p:=⟨_,rfl⟩
 obtain⟨k,hk⟩:∃k,k=ws.length:=⟨_,rfl⟩
 rw[←hws,←hk] at CW
 have hkn:k < n+1:=by rw[hk,hws];exact way_len n p
 have HWS:=Lib.hid hws
 have HK:=Lib.hid hk
 have g1:¬(n:Int) < 1:=by omega
 have g2:¬(4096:Int) < (n:Int):=by omega
 have g3:(p:Int) < (n:Int):=by omega
 clear hr hx hP h32 ts hlx hws hk
 by_cases hmk:m=k
 ·have t0:((m:Int) != (k:Int))=false:=by rw[hmk];simp
  have HE:=Lib.hid (show checkE n p lr x (con P)=if lr=rootOf n (tops ws x (con P)) then 0 else 50 from by
   unfold checkE
   rw[←HWS.out,if_neg (by rw[con_len,PL.out,hmk,HK.out];simp)])
  rw[HE.out]
  clear HE
  have CC:=Lib.hid (fun(w1:World) (T:Option Addr) (ct:Nat) (hb:Below w.heap.size w w1) (hp:Pc w1 (T,32,ct,tops ws x (con P)))=>compared_any n (by omega) (HR.out.below hb) hp (by rw[tops_len HLX.out];decide) (TS.out.below hb))
  generalize(if lr=rootOf n (tops ws x (con P)) then(0:Int) else 50)=Z at CC ⊢
  subst hmk
  go_enter Tryd.func16,Tryd.ntmps16
  go_wp2_with (go_at_call 45;(with_reducible refine C.out.mono ?_);rintro e w1 ⟨rfl,b1⟩;have D1:=Lib.hid b1;clear b1 C)
  go_wp2_with (go_at_call 46;(with_reducible refine(CW.out _).mono ?_);rintro e w2 ⟨v,rfl,ho,b2⟩;have D2:=Lib.hid (D1.out.trans (b2.mono D1.out.size));obtain⟨W,cw,rfl,sw,-, -, -, -⟩:=Sl.own ho;have SW:=Lib.hid sw;clear ho b2 sw CW)
  go_loopg [51,13,14,15,12] m (fun g1 vi _ _ _ vt wr=>∃(i:Nat) (T:Option Addr) (ct:Nat),vi=.int .i64 i∧vt=.slice T 32 ct∧i≤m∧m - i≤g1∧Hid (Pc wr (T,32,ct,tops (ws.drop (m - i)) x ((con P).take i)))∧Hid (Below w.heap.size w wr)∧Hid (Below w2.heap.size w2 wr))
  case atStart=>exact⟨0,A,ca,rfl,rfl,Nat.zero_le _,Nat.le_refl _,Lib.hid (by rw[Nat.sub_zero,List.drop_eq_nil_of_le (by have:=HK.out;omega)];exact HX.out.below D2.out),D2,Lib.hid (Below.refl _ _)⟩
  case round =>
   obtain⟨i,T,ct,rfl,rfl,him,hg,HT,HB,HB2⟩:=hrel
   by_cases hlt:i < m
   ·have q0:(i:Int) < (m:Int):=by omega
    obtain⟨j,hj⟩:∃j,j+i+1=m:=⟨m - 1 - i,by omega⟩
    have e1:(m:Int) - 1 - (i:Int)=(j:Int):=by omega
    have q1:(j:Int) < (m:Int):=by omega
    obtain⟨ad,hB,c1⟩:=(QP.out.below HB.out).row.at_ hlt
    have hl0:i < P.length:=by have:=PL.out;omega
    obtain⟨l,hl⟩:∃l,P[i]?=some l:=⟨P[i],List.getElem?_eq_getElem hl0⟩
    have hlm:=List.mem_of_getElem? hl
    obtain⟨hl1,hl2⟩:=QP.out.pcs l hlm
    rw[List.getElem?_map,hl] at c1
    obtain⟨L,nl,cl,y⟩:=l
    have hnl:nl=32:=hl1.len.trans hl2
    subst hnl
    have c1':wr.cell? (ad.add i)=some (.slice L 32 cl):=c1
    obtain⟨ae,hW,c2⟩:=(SW.out.below HB2.out).at_ (show j < m by omega)
    obtain⟨s,hs⟩:∃s,ws[j]?=some s:=⟨ws[j]'(by have:=HK.out;omega),List.getElem?_eq_getElem _⟩
    have c2':wr.cell? (ae.add j)=some (.bool s):=by
     rw[c2]
     unfold bvs
     rw[List.getElem?_map,hs]
     rfl
    subst hB hW
    have HY:=Lib.hid (hl1.below HB.out)
    have hlen1:(tops (ws.drop (m - i)) x ((con P).take i)).length=32:=tops_len HLX.out
    have hlen2:y.length=32:=hl2
    have HR2:=Lib.hid (tops_round (ws:=ws) (x:=x) (ps:=con P) (l:=y) (i:=i) (s:=s) (by have:=HK.out;omega) (by rw[show ws.length - 1 - i=j by have:=HK.out;omega];exact hs) (by show(P.map (·.2.2.2))[i]?=_;rw[List.getElem?_map,hl];rfl))
    have HTS:=Lib.hid (TS.out.below HB.out)
    have HR3:=HR2
    rw[show ws.length - (i+1)=m - (i+1) by have:=HK.out;omega,show ws.length - i=m - i by have:=HK.out;omega] at HR3
    clear HR2
    generalize tops (ws.drop (m - i)) x ((con P).take i)=t at HT hlen1 HR3
    clear c1 c2 hl hlm hl1 hl2 hs hl0
    cases s with
    |true =>
     have J:=Lib.hid (joined_any HY.out HT.out (by rw[List.length_append,hlen1,hlen2];decide) HTS.out)
     have HR4:=Lib.hid (show tops (ws.drop (m - (i+1))) x ((con P).take (i+1))=Sh.dg false (1 :: (y ++ t)) from HR3.out)
     rw[←HR4.out] at J
     clear hlen1 hlen2 HR3
     go_wp2_with (go_at_call 47;(with_reducible refine J.out.mono ?_);rintro e w3 ⟨g,rfl,p3,-, b3⟩;have P3:=Lib.hid p3;have B3:=Lib.hid b3;clear p3 b3)
     go_roundg (m - (i+1))
     case measure=>omega
     case rel=>exact⟨i+1,some ⟨g,0,none⟩,32,by go_num,rfl,by omega,Nat.le_refl _,P3,Lib.hid (HB.out.trans (B3.out.mono HB.out.size)),Lib.hid (HB2.out.trans (B3.out.mono HB2.out.size))⟩
    |false =>
     have J:=Lib.hid (joined_any HT.out HY.out (by rw[List.length_append,hlen1,hlen2];decide) HTS.out)
     have HR4:=Lib.hid (show tops (ws.drop (m - (i+1))) x ((con P).take (i+1))=Sh.dg false (1 :: (t ++ y)) from HR3.out)
     rw[←HR4.out] at J
     clear hlen1 hlen2 HR3
     go_wp2_with (go_at_call 47;(with_reducible refine J.out.mono ?_);rintro e w3 ⟨g,rfl,p3,-, b3⟩;have P3:=Lib.hid p3;have B3:=Lib.hid b3;clear p3 b3)
     go_roundg (m - (i+1))
     case measure=>omega
     case rel=>exact⟨i+1,some ⟨g,0,none⟩,32,by go_num,rfl,by omega,Nat.le_refl _,P3,Lib.hid (HB.out.trans (B3.out.mono HB.out.size)),Lib.hid (HB2.out.trans (B3.out.mono HB2.out.size))⟩
   ·have q0:¬(i:Int) < (m:Int):=by omega
    have hT2:Pc wr (T,32,ct,tops ws x (con P)):=by
     have h:=HT.out
     rw[show m - i=0 by omega,List.drop_zero,List.take_of_length_le (by rw[con_len,PL.out];omega)] at h
     exact h
    have C3:=Lib.hid (CC.out wr T ct HB.out hT2)
    clear hT2
    go_wp2_with (go_at_call 48;(with_reducible refine C3.out.mono ?_);rintro e w3 ⟨rfl,b3⟩;have B3:=Lib.hid b3;clear b3)
    go_ret
    exact⟨rfl,HB.out.trans (B3.out.mono HB.out.size)⟩
 ·have t0:((m:Int) != (k:Int))=true:=by rw[bne_iff_ne];omega
  have HE:=Lib.hid (show checkE n p lr x (con P)=50 from by
   unfold checkE
   rw[←HWS.out,if_pos (by rw[con_len,PL.out,←HK.out];exact hmk)])
  rw[HE.out]
  clear HE hmk
  go_enter Tryd.func16,Tryd.ntmps16
  go_wp2_with (go_at_call 45;(with_reducible refine C.out.mono ?_);rintro e w1 ⟨rfl,b1⟩;have D1:=Lib.hid b1;clear b1 C)
  go_wp2_with (go_at_call 46;(with_reducible refine(CW.out _).mono ?_);rintro e w2 ⟨v,rfl,ho,b2⟩;have D2:=Lib.hid (D1.out.trans (b2.mono D1.out.size));obtain⟨W,cw,rfl,sw,-, -, -, -⟩:=Sl.own ho;clear ho b2 sw CW)
  go_ret
  exact⟨rfl,D2.out⟩
end Go.Proofs.YtnnfpmebopgogaaDoor.Mk
