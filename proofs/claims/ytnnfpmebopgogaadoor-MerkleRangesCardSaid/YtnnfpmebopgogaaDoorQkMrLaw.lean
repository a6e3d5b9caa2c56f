/- Joined texts. -/
import Derived.RangeFuncNested
import Derived.RangeFuncBound
import Derived.RangeFuncCalls
import Derived.RangeFuncLeaves
import Derived.RangeFuncBox
import Derived.Shelf.Abstract
import Derived.Shelf.RegionOpen
import Derived.WalkKit
import Derived.OwnWalkIn
import Derived.TacticsInMore
import Derived.LoopNIn
import Derived.LoopIn
import Derived.Maps.AppendAt
import Derived.OrdersHeld
import Derived.RangeFuncOwn
import Derived.OrdersIn
import Derived.ControlIn
import Derived.OwnWalk
import Derived.Deep.RegionWith
import Derived.Laws.BytesArg
import Derived.Test.YtnnfpmebopgogaaDoorQkMrProgC
import Derived.Test.YtnnfpmebopgogaaDoorQkMpSame
import Derived.Test.YtnnfpmebopgogaaDoorQkMkG
import Derived.Test.YtnnfpmebopgogaaDoorQkMpPath
import Derived.Test.YtnnfpmebopgogaaDoorQkGnA
import Derived.Test.YtnnfpmebopgogaaDoorQkMpProve
import Derived.Test.YtnnfpmebopgogaaDoorQkMpDoc
import Derived.Test.YtnnfpmebopgogaaDoorQkMkJ
set_option linter.unusedVariables false
namespace Go.Proofs.YtnnfpmebopgogaaDoor.Mk
open Go.RowKit Go.Proofs.YtnnfpmebopgogaaDoor.Gn Go.Proofs.YtnnfpmebopgogaaDoor.Fd Go.Deep
def LE(l:List (List Nat))(k:Int)(w:World)(e:Ending)(w':World):Prop:=∃A n cap us,e=.returned (.tuple #[.slice A n cap,.int .i64 k])∧Sl w' A n (us.map rwv)∧(∀r∈us,Pc w' r)∧con us=l∧Below w.heap.size w w'
theorem le_nil(k:Int){w w':World}(hb:Below w.heap.size w w'):LE [] k w (.returned (.tuple #[.slice none 0 0,.int .i64 k])) w':=⟨none,0,0,[],rfl,Sl.nil_ _ _,(fun r hr=>by cases hr),rfl,hb⟩
theorem badS_or(f t:Int)(m:Nat)(P:List Rw):badS f t m P∨(all32 P=true∧∃a b:Nat,f=a∧t=b∧a < b∧b≤m):=by
 unfold badS
 cases h:all32 P with
 |false=>exact Or.inl (Or.inl rfl)
 |true =>
  by_cases h1:f < 0
  ·exact Or.inl (Or.inr (Or.inl h1))
  by_cases h2:t≤f
  ·exact Or.inl (Or.inr (Or.inr (Or.inl h2)))
  by_cases h3:(m:Int) < t
  ·exact Or.inl (Or.inr (Or.inr (Or.inr h3)))
  exact Or.inr ⟨rfl,f.toNat,t.toNat,by omega,by omega,by omega,by omega⟩
theorem badR_or(n f:Int)(nr ml:Nat)(Lv Q:List Rw):badR n f nr ml Lv Q∨(nr=32∧all32 Lv=true∧all32 Q=true∧1≤ml∧∃a b:Nat,n=a∧f=b∧a≤4096∧b+ml≤a):=by
 unfold badR
 by_cases h1:n < 1
 ·exact Or.inl (Or.inl h1)
 by_cases h2:(4096:Int) < n
 ·exact Or.inl (Or.inr (Or.inl h2))
 by_cases h3:ml=0
 ·exact Or.inl (Or.inr (Or.inr (Or.inl h3)))
 by_cases h4:f < 0
 ·exact Or.inl (Or.inr (Or.inr (Or.inr (Or.inl h4))))
 by_cases h5:n - (ml:Int) < f
 ·exact Or.inl (Or.inr (Or.inr (Or.inr (Or.inr (Or.inl h5)))))
 by_cases h6:nr=32
 ·cases h7:all32 Lv with
  |false=>exact Or.inl (Or.inr (Or.inr (Or.inr (Or.inr (Or.inr (Or.inr (Or.inl rfl)))))))
  |true =>
   cases h8:all32 Q with
   |false=>exact Or.inl (Or.inr (Or.inr (Or.inr (Or.inr (Or.inr (Or.inr (Or.inr rfl)))))))
   |true=>exact Or.inr ⟨h6,rfl,rfl,by omega,n.toNat,f.toNat,by omega,by omega,by omega,by omega⟩
 ·exact Or.inl (Or.inr (Or.inr (Or.inr (Or.inr (Or.inr (Or.inl h6))))))
theorem range_both{w0:World}(ts:Sh.Tab w0){B:Option Addr}{m c:Nat}{P:List Rw}(h:PAny w0 B m c P)(f t:Int) :
  ∃l k,l.length≤1500∧(∀w,Below w0.heap.size w0 w→Calls Tryd.prog 23 #[.slice B m c,.int .i64 f,.int .i64 t] w (LE l k w))∧(∀w,Below w0.heap.size w0 w→Calls Tryd.prog 24 #[.slice B m c,.int .i64 f,.int .i64 t] w (LE l k w)):=by
 rcases badS_or f t m P with hb|⟨ha,a,b,rfl,rfl,hab,hbm⟩
 ·refine⟨[],1,by simp,fun w hw=>(ProveRange_bad (h.below hw) hb).mono ?_,fun w hw=>(RProveRange_bad (h.below hw) hb).mono ?_⟩ <;> (rintro e w' ⟨rfl,b1⟩;exact le_nil 1 b1)
 ·refine⟨outs (con P) a b 0 m,0,?_,fun w hw=>(ProveRange_good (h.below hw) ha hab hbm (ts.below hw)).mono ?_,fun w hw=>(RProveRange_good (h.below hw) ha hab hbm).mono ?_⟩
  ·have:=outs_len (con P) (n:=m) (by omega) a b 0
   have:=h.few
   omega
  ·rintro e w' ⟨A,n,cap,us,rfl,o,hn,hc,b1⟩
   exact⟨A,n,cap,us,rfl,(own_sl (by have h:=o.own;rwa [hn] at h)).1,fun r hr=>(o.pcs r hr).1,hc,b1⟩
  ·rintro e w' ⟨A,n,cap,us,rfl,o,hp,hc,b1⟩
   refine⟨A,n,cap,us,rfl,(own_sl o).1,fun r hr=>?_,hc,b1⟩
   rcases hp r hr with h1|h1
   ·exact h1.1
   ·exact((h.pcs r h1).1.below hw).below b1
theorem checkR_both{w0:World}(ts:Sh.Tab w0){R BL B:Option Addr}{nr cr ml cl m c:Nat}{lr:List Nat}{Lv Q:List Rw}(hr:Pc w0 (R,nr,cr,lr))(h9:nr≤1000)(hL:PAny w0 BL ml cl Lv)(hQ:PAny w0 B m c Q){n f:Int}(hfb : -9223372036854775808≤f∧f≤9223372036854775807) :
  ∃k,(∀w,Below w0.heap.size w0 w→Calls Tryd.prog 25 #[.slice R nr cr,.int .i64 n,.int .i64 f,.slice BL ml cl,.slice B m c] w (ErrQ k w))∧(∀w,Below w0.heap.size w0 w→Calls Tryd.prog 26 #[.slice R nr cr,.int .i64 n,.int .i64 f,.slice BL ml cl,.slice B m c] w (ErrQ k w)):=by
 rcases badR_or n f nr ml Lv Q with hb|⟨rfl,hl,hq,h1,a,b,rfl,rfl,ha,hab⟩
 ·exact⟨1,fun w hw=>checkR_bad (hr.below hw) h9 (hL.below hw) (hQ.below hw) hfb hb,fun w hw=>rcheckR_bad (hL.below hw) (hQ.below hw) hfb hb⟩
 ·exact⟨_,fun w hw=>checkR_ok (hr.below hw) (hL.below hw) hl (hQ.below hw) hq ha h1 hab (ts.below hw),fun w hw=>rcheckR_ok (hr.below hw) (hL.below hw) hl (hQ.below hw) hq ha h1 hab⟩
set_option maxHeartbeats 8000000 in
set_option maxRecDepth 100000 in
theorem walk_merkleRanges{w:World}(ts:Sh.Tab w)(B:Option Addr)(m c:Nat)(P:List Rw)(hP:LL w B m P∧m≤9223372036854775807∧m≤c)(f:Int)(wf:(Lit.int .i64 f).wf)(t:Int)(wt:(Lit.int .i64 t).wf)(A1:Option Addr)(m1 c1:Nat)(l1:List Nat)(hl1:BL w A1 m1 c1 l1)(n:Int)(wn:(Lit.int .i64 n).wf)(a:Int)(wa:(Lit.int .i64 a).wf)(B2:Option Addr)(m2 c2:Nat)(P2:List Rw)(hP2:LL w B2 m2 P2∧m2≤9223372036854775807∧m2≤c2)(B3:Option Addr)(m3 c3:Nat)(P3:List Rw)(hP3:LL w B3 m3 P3∧m3≤9223372036854775807∧m3≤c3) :
  Calls Tryd.prog 5 #[.slice B m c,.int .i64 f,.int .i64 t,.slice A1 m1 c1,.int .i64 n,.int .i64 a,.slice B2 m2 c2,.slice B3 m3 c3] w fun e w'=>e=.returned (.bool true)∧Below w.heap.size w w':=by
 have KN:=Lib.hid (fun(w1:World) (hb:Below w.heap.size w w1)=>known_any w1 (ts.below hb))
 have key:∀(B:Option Addr) (m c:Nat) (P:List Rw),(LL w B m P∧m≤9223372036854775807∧m≤c)→Calls Tryd.prog 7 #[.slice B m c,.int .i64 900] w (SizeQ P m 900 w)∧(∀S,S≤900→(m≤S∧∀r∈P,r.2.1≤S)→PAny w B m c P):=fun B m c P hP =>
  ⟨show Calls Tryd.prog 7 #[.slice B m c,.int .i64 900] w (SizeQ P m 900 w) from rsize_any (c:=c) hP.1.1 (fun r hr=>(hP.1.2 r hr).2) hP.2.1 900 (by decide),fun S h h2=>⟨hP.1.1,fun r hr=>⟨bl_pc2 (hP.1.2 r hr).1,by have:=h2.2 r hr;omega⟩,by omega,hP.2.2⟩⟩
 have S1:=Lib.hid (key B m c P hP).1
 have U1:=Lib.hid (key B m c P hP).2
 have S2:=Lib.hid (key B2 m2 c2 P2 hP2).1
 have U2:=Lib.hid (key B2 m2 c2 P2 hP2).2
 have S3:=Lib.hid (key B3 m3 c3 P3 hP3).1
 have U3:=Lib.hid (key B3 m3 c3 P3 hP3).2
 have TS:=Lib.hid ts
 have HX:=Lib.hid (bl_pc2 hl1)
 have wa:=wf_i64 wa
 have n1:=hl1.2.1
 clear hP hP2 hP3 ts wf wt wn hl1 key
 go_enter Tryd.func5,Tryd.ntmps5
 go_wp2_with fail
 refine S1.out.mono ?_
 rintro e w1 ⟨S,rfl,hS,hSm,rfl⟩
 by_cases hbig:900 < S
 ·have q4:(900:Int) < (S:Int):=by omega
  clear hS
  go_wp2_with fail
  refine(KN.out _ (Below.refl _ _)).mono ?_
  rintro e wk ⟨rfl,bk⟩
  have BK:=Lib.hid bk
  clear bk
  go_wp2_with fail
  go_ret
  exact⟨rfl,BK.out⟩
 have q4:¬(900:Int) < (S:Int):=by omega
 have H1:=Lib.hid (U1.out S (by omega) (hS (by omega)))
 clear hS hSm U1
 by_cases hb1:100 < m1
 ·have q5:(100:Int) < (m1:Int):=by omega
  go_wp2_with fail
  refine(KN.out _ (Below.refl _ _)).mono ?_
  rintro e wk ⟨rfl,bk⟩
  have BK:=Lib.hid bk
  clear bk
  go_wp2_with fail
  go_ret
  exact⟨rfl,BK.out⟩
 have q5:¬(100:Int) < (m1:Int):=by omega
 go_wp2_with fail
 refine S2.out.mono ?_
 rintro e w1 ⟨Sb,rfl,hS,hSm,rfl⟩
 by_cases hbig2:900 < Sb
 ·have q6:(900:Int) < (Sb:Int):=by omega
  clear hS
  go_wp2_with fail
  refine(KN.out _ (Below.refl _ _)).mono ?_
  rintro e wk ⟨rfl,bk⟩
  have BK:=Lib.hid bk
  clear bk
  go_wp2_with fail
  go_ret
  exact⟨rfl,BK.out⟩
 have q6:¬(900:Int) < (Sb:Int):=by omega
 have H2:=Lib.hid (U2.out Sb (by omega) (hS (by omega)))
 clear hS hSm U2
 go_wp2_with fail
 refine S3.out.mono ?_
 rintro e w1 ⟨Sc,rfl,hS,hSm,rfl⟩
 by_cases hbig3:900 < Sc
 ·have q7:(900:Int) < (Sc:Int):=by omega
  clear hS
  go_wp2_with fail
  refine(KN.out _ (Below.refl _ _)).mono ?_
  rintro e wk ⟨rfl,bk⟩
  have BK:=Lib.hid bk
  clear bk
  go_wp2_with fail
  go_ret
  exact⟨rfl,BK.out⟩
 have q7:¬(900:Int) < (Sc:Int):=by omega
 have H3:=Lib.hid (U3.out Sc (by omega) (hS (by omega)))
 clear hS hSm U3
 obtain⟨l,k,hlk,x1,x2⟩:=range_both TS.out H1.out f t
 obtain⟨k2,x3,x4⟩:=checkR_both TS.out HX.out (show m1≤1000 by omega) H2.out H3.out (n:=n) wa
 have X1:=Lib.hid x1
 have X2:=Lib.hid x2
 have X3:=Lib.hid x3
 have X4:=Lib.hid x4
 have HLK:=Lib.hid hlk
 clear x1 x2 x3 x4 hlk
 go_wp2_with fail
 refine(X1.out _ (Below.refl _ _)).mono ?_
 rintro e w1 ⟨A4,n4,c4,us,rfl,s4,p4,h4,b1⟩
 have B1:=Lib.hid b1
 have SA:=Lib.hid s4
 have PA:=Lib.hid p4
 have CA:=Lib.hid h4
 clear s4 p4 h4 b1
 go_wp2_with fail
 refine(X2.out _ B1.out).mono ?_
 rintro e w2 ⟨A5,n5,c5,vs,rfl,s5,p5,h5,b2⟩
 have B2:=Lib.hid (B1.out.trans (b2.mono B1.out.size))
 have e5:n5=n4:=by
  have e1:=s5.1
  have e2:=SA.out.1
  rw[List.length_map,←con_len,h5] at e1
  rw[List.length_map,←con_len,CA.out] at e2
  omega
 subst e5
 have hn5:n5≤1500:=by
  have e1:=s5.1
  rw[List.length_map,←con_len,h5] at e1
  have:=HLK.out
  omega
 have SM:=Lib.hid (Same_any (A:=A4) (B:=A5) (c:=c4) (d:=c5) (xs:=us) (ys:=vs) (w:=w2) (by omega) (SA.out.below b2) s5 (fun r hr=>(PA.out r hr).below b2) p5 (by rw[show us.map (·.2.2.2)=con us from rfl,show vs.map (·.2.2.2)=con vs from rfl,CA.out,h5]))
 clear s5 p5 h5 b2 SA PA CA
 go_wp2_with fail
 refine SM.out.mono ?_
 rintro e w3 ⟨rfl,b3⟩
 have B3:=Lib.hid (B2.out.trans (b3.below.mono B2.out.size))
 clear b3
 go_wp2_with fail
 refine(X3.out _ B3.out).mono ?_
 rintro e w4 ⟨rfl,b4⟩
 have B4:=Lib.hid (B3.out.trans (b4.mono B3.out.size))
 clear b4
 go_wp2_with fail
 refine(X4.out _ B4.out).mono ?_
 rintro e w5 ⟨rfl,b5⟩
 have B5:=Lib.hid (B4.out.trans (b5.mono B4.out.size))
 clear b5
 go_wp2_with fail
 refine(KN.out _ B5.out).mono ?_
 rintro e wk ⟨rfl,bk⟩
 have BK:=Lib.hid (B5.out.trans (bk.mono B5.out.size))
 clear bk
 go_wp2_with fail
 go_ret
 exact⟨rfl,BK.out⟩
end Go.Proofs.YtnnfpmebopgogaaDoor.Mk
