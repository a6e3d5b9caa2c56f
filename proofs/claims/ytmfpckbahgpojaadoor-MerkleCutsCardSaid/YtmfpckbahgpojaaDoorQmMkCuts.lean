/- Joined texts. -/
import Derived.Test.YtmfpckbahgpojaaDoorQmCkD
import Derived.Test.YtmfpckbahgpojaaDoorQmMkPuts
set_option linter.unusedVariables false
namespace Go.Proofs.YtmfpckbahgpojaaDoor.Mk
open Go.RowKit Go.Proofs.YtmfpckbahgpojaaDoor.Gn Go.Proofs.YtmfpckbahgpojaaDoor.Fd Go.Deep
theorem count_pair(s c:Int)(hs : -9223372036854775808≤s∧s≤9223372036854775807)(hc : -9223372036854775808≤c∧c≤9223372036854775807):∃n k:Int,(∀w,Calls Tryd.prog 8 #[.int .i64 s,.int .i64 c] w fun e w'=>e=.returned (.tuple #[.int .i64 n,.int .i64 k])∧w=w')∧(∀w,Calls Tryd.prog 9 #[.int .i64 s,.int .i64 c] w fun e w'=>e=.returned (.tuple #[.int .i64 n,.int .i64 k])∧w=w'):=by
 by_cases h:s < 0∨c < 64∨1024 < c
 ·exact⟨0,1,fun w=>Count_arg s c h hs hc w,fun w=>RCount_arg s c h w⟩
 ·have h1:0≤s∧64≤c∧c≤1024:=by omega
  by_cases h2:131072 < s
  ·exact⟨0,2,fun w=>Count_long s c h1.2 h2 w,fun w=>RCount_long s c h1.2 h2 w⟩
  ·obtain⟨a,rfl⟩:∃a:Nat,s=(a:Int):=⟨s.toNat,by omega⟩
   obtain⟨b,rfl⟩:∃b:Nat,c=(b:Int):=⟨c.toNat,by omega⟩
   refine⟨(((a+b - 1) / b:Nat):Int),0,fun w=>?_,fun w=>RCount_ok a b (by omega) (by omega) _ rfl w⟩
   have:=Count_ok (a:Int) (b:Int) (by omega) (by omega) w
   rwa [show((a:Int)+(b:Int) - 1) / (b:Int)=(((a+b - 1) / b:Nat):Int) by rw[Int.natCast_ediv,show((a+b - 1:Nat):Int)=(a:Int)+(b:Int) - 1 by omega]] at this
def CutBoth(w:World)(A:Option Addr)(L c:Nat)(q:Int)(k:Int)(m:Nat):Prop :=
 (∀w1,Below w.heap.size w w1→Calls Tryd.prog 10 #[.slice A L c,.int .i64 q] w1 fun e w'=>∃(A':Option Addr) (c':Nat) (rows:List Rw),e=.returned (.tuple #[.slice A' m c',.int .i64 k])∧Sl w' A' m (rows.map rwv)∧(∀r∈rows,Pc w' r)∧Below w1.heap.size w1 w' ∧
  ∀w2,Below w'.heap.size w' w2→Calls Tryd.prog 11 #[.slice A L c,.int .i64 q] w2 fun e w3=>∃(B':Option Addr) (d':Nat) (rows':List Rw),e=.returned (.tuple #[.slice B' m d',.int .i64 k])∧Sl w3 B' m (rows'.map rwv)∧(∀r∈rows',Pc w3 r)∧rows.map (·.2.2.2)=rows'.map (·.2.2.2)∧Below w2.heap.size w2 w3)
theorem cut_both{A:Option Addr}{L c:Nat}{l:List Nat}{w:World}(h:Pc w (A,L,c,l))(hL:L≤5000)(q:Int)(hq : -9223372036854775808≤q∧q≤9223372036854775807):∃k m,m≤131072∧CutBoth w A L c q k m:=by
 by_cases h1:q < 64∨1024 < q
 ·refine⟨1,0,by omega,fun w1 hb=>?_⟩
  refine(Cut_no A L c q 1 (.inl rfl) w1 (fun w=>Count_arg (L:Int) q (by omega) (by omega) hq w)).mono ?_
  rintro e w' ⟨rfl,rfl⟩
  refine⟨none,0,[],rfl,Sl.nil_ _ _,(fun r hr=>by cases hr),Below.refl _ _,fun w2 hb2=>?_⟩
  refine(RCut_no A L c q 1 (.inl rfl) w2 (fun w=>RCount_arg (L:Int) q (by omega) w)).mono ?_
  rintro e w' ⟨rfl,rfl⟩
  exact⟨none,0,[],rfl,Sl.nil_ _ _,(fun r hr=>by cases hr),rfl,Below.refl _ _⟩
 ·obtain⟨b,rfl⟩:∃b:Nat,q=(b:Int):=⟨q.toNat,by omega⟩
  refine⟨0,(L+b - 1) / b,?_,fun w1 hb=>?_⟩
  ·have:=Nat.div_le_self (L+b - 1) b
   omega
  refine(Cut_ok (h.below hb) b (by omega) (by omega) (by omega) _ rfl).mono ?_
  rintro e w' ⟨rows,rfl,h2,h3,h4,h5⟩
  refine⟨_,_,rows,rfl,h2,(fun r hr=>(h4 r hr).pc),h5,fun w2 hb2=>?_⟩
  refine(RCut_ok (((h.below hb).below h5).below hb2) b (by omega) (by omega) (by omega) _ rfl).mono ?_
  rintro e w3 ⟨B',d',rows',rfl,h6,h7⟩
  exact⟨B',d',rows',rfl,h6.row,h6.pcs,by rw[h3,h6.cont,ck_fin],h7⟩
set_option maxRecDepth 100000 in
set_option maxHeartbeats 8000000 in
theorem cuts_ok{w:World}(ts:Sh.Tab w){A:Option Addr}{L c:Nat}{l:List Nat}(h:Pc w (A,L,c,l))(hL:L≤5000)(s q:Int)(hs : -9223372036854775808≤s∧s≤9223372036854775807)(hq : -9223372036854775808≤q∧q≤9223372036854775807) :
  Calls Tryd.prog 3 #[.int .i64 s,.int .i64 q,.slice A L c] w fun e w'=>e=.returned (.bool true)∧Below w.heap.size w w':=by
 obtain⟨n,k,C1,C2⟩:=count_pair s q hs hq
 obtain⟨k2,m,hm,C3⟩:=cut_both h hL q hq
 have C1:=Lib.hid C1
 have C2:=Lib.hid C2
 have C3:=Lib.hid (C3 w (Below.refl _ _))
 have TS:=Lib.hid ts
 clear h ts hs hq
 go_enter Tryd.func3,Tryd.ntmps3
 go_wp2_with (first|(go_at_call 8;(with_reducible refine(C1.out _).mono ?_);rintro e w1 ⟨rfl,rfl⟩)|(go_at_call 9;(with_reducible refine(C2.out _).mono ?_);rintro e w1 ⟨rfl,rfl⟩))
 go_wp2_with (go_at_call 10;(with_reducible refine C3.out.mono ?_);rintro e w1 ⟨A1,c1,rows1,rfl,s1,p1,b1,C4⟩;have S1:=Lib.hid s1;have P1:=Lib.hid p1;have B1:=Lib.hid b1;have C4:=Lib.hid (C4 w1 (Below.refl _ _));clear s1 p1 b1)
 go_wp2_with (go_at_call 11;(with_reducible refine C4.out.mono ?_);rintro e w2 ⟨A2,c2,rows2,rfl,s2,p2,he,b2⟩;have B2:=Lib.hid (B1.out.trans (b2.mono B1.out.size));have C5:=Lib.hid (Same_any (c:=c1) (d:=c2) (by omega) (S1.out.below b2) s2 (fun r hr=>(P1.out r hr).below b2) p2 he);clear s2 p2 he b2)
 go_wp2_with (go_at_call 12;(with_reducible refine C5.out.mono ?_);rintro e w3 ⟨rfl,q3⟩;have B3:=Lib.hid (B2.out.trans (q3.below.mono B2.out.size));have F8:=Lib.hid (known_any w3 (TS.out.below B3.out));clear q3)
 go_wp2_with (go_at_call 7;(with_reducible refine F8.out.mono ?_);rintro e w8 ⟨rfl,b8⟩;have D8:=Lib.hid (B3.out.trans (b8.mono B3.out.size));clear b8)
 go_ret
 exact⟨rfl,D8.out⟩
set_option maxRecDepth 100000 in
theorem cuts_long{w:World}(ts:Sh.Tab w)(A:Option Addr)(m c:Nat)(hm:5000 < m)(n p:Int) :
  Calls Tryd.prog 3 #[.int .i64 n,.int .i64 p,.slice A m c] w fun e w'=>e=.returned (.bool true)∧Below w.heap.size w w':=by
 have F8:=Lib.hid (known_any w ts)
 clear ts
 go_enter Tryd.func3,Tryd.ntmps3
 go_wp2_with (go_at_call 7;(with_reducible refine F8.out.mono ?_);rintro e w13 ⟨rfl,b13⟩;have D13:=Lib.hid b13;clear b13)
 go_ret
 exact⟨rfl,D13.out⟩
theorem walk_merkleCuts{w:World}(ts:Sh.Tab w)(s:Int)(wn:(Lit.int .i64 s).wf)(q:Int)(wp:(Lit.int .i64 q).wf)(A:Option Addr)(m c:Nat)(l:List Nat)(hl:BL w A m c l) :
  Calls Tryd.prog 3 #[.int .i64 s,.int .i64 q,.slice A m c] w fun e w'=>e=.returned (.bool true)∧Below w.heap.size w w':=by
 by_cases hm:m≤5000
 ·exact cuts_ok ts (pc_bl hl) hm s q (wf_i64 wn) (wf_i64 wp)
 ·exact cuts_long ts A m c (by omega) s q
end Go.Proofs.YtmfpckbahgpojaaDoor.Mk
