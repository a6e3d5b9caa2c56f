/- Joined texts. -/
import Derived.Test.YtjimhjfjfpeojaaDoorQbEdV
import Derived.Test.YtjimhjfjfpeojaaDoorQbEdN
set_option linter.unusedVariables false
namespace Go.Proofs.YtjimhjfjfpeojaaDoor.Ed
open Go.RowKit Go.Proofs.YtjimhjfjfpeojaaDoor.Gn Go.Proofs.YtjimhjfjfpeojaaDoor.Fd Go.Deep
theorem bl_pc{w:World}{A:Option Addr}{n c:Nat}{l:List Nat}(h:BL w A n c l):Pc w (A,n,c,l):=by
 obtain⟨h1,-, h3,h4,h5⟩:=h
 have hl:l.length=n:=by have:=h1.1;rwa [bl_length] at this
 subst hl
 exact⟨rfl,h1,h3,h5,h4⟩
set_option maxRecDepth 100000 in
set_option maxHeartbeats 4000000 in
theorem walk_edOwn{w:World}(tab:TabE w∧Sh.Tab w∧TabL w)(A:Option Addr)(n c:Nat)(l:List Nat)(hl:BL w A n c l)(M:Option Addr)(k d:Nat)(m:List Nat)(hm:BL w M k d m) :
  Calls Tryd.prog 3 #[.slice A n c,.slice M k d] w fun e w'=>e=.returned (.bool true)∧Below w.heap.size w w':=by
 obtain⟨te,ts,tl⟩:=tab
 obtain⟨b,hb⟩:=base_some
 have PA:=Lib.hid (bl_pc hl)
 have PM:=Lib.hid (bl_pc hm)
 have TE:=Lib.hid te
 have TS:=Lib.hid ts
 have TL:=Lib.hid tl
 have HB:=Lib.hid hb
 have HN:=hl.2.1
 have HK:=hm.2.1
 clear te ts tl hb hl hm
 by_cases h32:n=32
 ·subst h32
  by_cases h300:k≤300
  ·have t1:decide ((300:Int) < (k:Int))=false:=decide_eq_false (by omega)
   have K1:=Lib.hid (key_p TE.out TS.out PA.out HB.out)
   have H3:=Lib.hid (show k≤65536 by omega)
   clear h300 HK
   go_enter Tryd.func3,Tryd.ntmps3
   go_wp2_with (first|(go_at_call 7;(with_reducible refine K1.out.mono ?_);rintro e w1 ⟨q,rfl,p1,b1⟩;have B1:=Lib.hid b1;have P1:=Lib.hid p1;have S1:=Lib.hid (sign_p (TE.out.below b1) (TS.out.below b1) (TL.out.below b1) (PA.out.below b1) (PM.out.below b1) H3.out HB.out);clear p1 b1)|(go_at_call 8;(with_reducible refine S1.out.mono ?_);rintro e w2 ⟨q2,cap,rfl,p2,-, b2⟩;have B2:=Lib.hid (B1.out.trans (b2.mono B1.out.size));have V1:=Lib.hid (verify_own (TE.out.below B2.out) (TS.out.below B2.out) (TL.out.below B2.out) (P1.out.below b2) (PM.out.below B2.out) p2 H3.out HB.out);clear p2 b2)|(go_at_call 9;(with_reducible refine V1.out.mono ?_);rintro e w3 ⟨rfl,b3⟩;have B3:=Lib.hid (B2.out.trans (b3.mono B2.out.size));have KN:=Lib.hid (known_any _ (TE.out.below B3.out) (TS.out.below B3.out));clear b3)|(go_at_call 6;(with_reducible refine KN.out.mono ?_);rintro e w4 ⟨rfl,b4⟩;have B4:=Lib.hid (B3.out.trans (b4.mono B3.out.size));clear b4))
   go_ret
   exact⟨rfl,B4.out⟩
  ·have t1:decide ((300:Int) < (k:Int))=true:=decide_eq_true (by omega)
   clear h300 HK
   have KN:=Lib.hid (known_any _ TE.out TS.out)
   go_enter Tryd.func3,Tryd.ntmps3
   go_wp2_with (go_at_call 6;(with_reducible refine KN.out.mono ?_);rintro e w4 ⟨rfl,b4⟩;have B4:=Lib.hid b4;clear b4)
   go_ret
   exact⟨rfl,B4.out⟩
 ·have t1:((n:Int) != 32)=true:=by simp;omega
  clear h32 HN HK
  have KN:=Lib.hid (known_any _ TE.out TS.out)
  go_enter Tryd.func3,Tryd.ntmps3
  go_wp2_with (go_at_call 6;(with_reducible refine KN.out.mono ?_);rintro e w4 ⟨rfl,b4⟩;have B4:=Lib.hid b4;clear b4)
  go_ret
  exact⟨rfl,B4.out⟩
end Go.Proofs.YtjimhjfjfpeojaaDoor.Ed
