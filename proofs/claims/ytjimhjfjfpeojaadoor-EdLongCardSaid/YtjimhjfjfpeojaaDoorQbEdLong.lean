/- Joined texts. -/
import Derived.Test.YtjimhjfjfpeojaaDoorQbEdOwn
set_option linter.unusedVariables false
namespace Go.Proofs.YtjimhjfjfpeojaaDoor.Ed
open Go.RowKit Go.Proofs.YtjimhjfjfpeojaaDoor.Gn Go.Proofs.YtjimhjfjfpeojaaDoor.Fd Go.Deep
set_option maxRecDepth 100000 in
theorem Sign_long{A:Option Addr}{c:Nat}{M:Option Addr}{n cm:Nat}{w:World}(hn:65536 < n)(hm:n≤1000000) :
  Calls Tryd.prog 8 #[.slice A 32 c,.slice M n cm] w fun e w'=>e=.returned (.tuple #[.slice none 0 0,.int .i64 2])∧w=w':=by
 have t1:decide ((65536:Int) < (n:Int))=true:=decide_eq_true (by omega)
 clear hn hm
 go_enter Tryd.func8,Tryd.ntmps8
 go_wp2_with fail
 go_ret2
 exact⟨rfl,rfl⟩
set_option maxRecDepth 100000 in
theorem Verify_long{A:Option Addr}{c:Nat}{M:Option Addr}{n cm:Nat}{S:Option Addr}{cs:Nat}{w:World}(hn:65536 < n)(hm:n≤1000000) :
  Calls Tryd.prog 9 #[.slice A 32 c,.slice M n cm,.slice S 64 cs] w fun e w'=>e=.returned (.int .i64 2)∧w=w':=by
 have t1:decide ((65536:Int) < (n:Int))=true:=decide_eq_true (by omega)
 clear hn hm
 go_enter Tryd.func9,Tryd.ntmps9
 go_wp2_with fail
 go_ret
 exact⟨rfl,rfl⟩
def zr(n:Nat):List Nat:=List.replicate n 0
theorem zr_len(n:Nat):(zr n).length=n:=by simp[zr]
theorem zr_lt(n:Nat):∀x∈zr n,x < 256:=by
 intro x hx
 have:=List.eq_of_mem_replicate hx
 omega
theorem zr_made(n:Nat):madeCells #[.int .u8 0] n=(bl (zr n)).toArray:=by
 apply Array.toList_inj.1
 rw[toList_madeCells_one]
 simp[bl,zr]
theorem zr_pc{w:World}{q n:Nat}(h:Bl w q 5 (bl (zr n)).toArray):Pc w (some ⟨q,0,none⟩,n,n,zr n) :=
 ⟨(zr_len n).symm,Sl.of_bl h 0 _ _ (by rw[bl_length]) (fun k v hk=>by rw[Nat.zero_add];simpa using hk),zr_lt n,by show(zr n).length≤n;rw[zr_len];exact Nat.le_refl _,fun h=>by cases h⟩
theorem mk_row(n:Nat)(hn:n≤1000000)(w:World):(Instr.makeSlice 22 (.int .i64 (n:Int)) (.int .i64 (n:Int))).run Tryd.prog w=.ok (.slice (some ⟨w.heap.size,0,none⟩) n n) (w.alloc (.cells (bl (zr n)).toArray 5)):=by
 rw[←zr_made]
 exact run_make_row' (P:=Tryd.prog) 22 5 (.int .u8 0) 1 Tryd.underlying22 infob rfl .i64 .i64 n (by omega) (by omega) w
set_option maxRecDepth 100000 in
set_option maxHeartbeats 4000000 in
theorem long_walk{w:World}(tab:TabE w∧Sh.Tab w∧TabL w)(x r N:Nat)(hx:x < 256)(hr:x%2=r)(hN:N=65536+r) :
  Calls Tryd.prog 5 #[.int .u8 (x:Int)] w fun e w'=>e=.returned (.bool true)∧Below w.heap.size w w':=by
 obtain⟨te,ts,tl⟩:=tab
 obtain⟨b,hb⟩:=base_some
 have e1:(x:Int)%2=(r:Int):=by omega
 have hr2:r=0∨r=1:=by omega
 have e2:(65536:Int)+(r:Int)=(N:Int):=by omega
 obtain⟨Z,hZ⟩:∃Z,Z=(bl (zr N)).toArray:=⟨_,rfl⟩
 obtain⟨Y,hY⟩:∃Y,Y=(bl (zr 32)).toArray:=⟨_,rfl⟩
 obtain⟨X,hX⟩:∃X,X=(bl (zr 64)).toArray:=⟨_,rfl⟩
 have m1:∀w,(Instr.makeSlice 22 (.int .i64 (N:Int)) (.int .i64 (N:Int))).run Tryd.prog w=.ok (.slice (some ⟨w.heap.size,0,none⟩) N N) (w.alloc (.cells Z 5)):=fun w=>by rw[hZ];exact mk_row N (by omega) w
 have m2:∀w,(Instr.makeSlice 22 (.int .i64 32) (.int .i64 32)).run Tryd.prog w=.ok (.slice (some ⟨w.heap.size,0,none⟩) 32 32) (w.alloc (.cells Y 5)):=fun w=>by rw[hY];exact mk_row 32 (by omega) w
 have m3:∀w,(Instr.makeSlice 22 (.int .i64 64) (.int .i64 64)).run Tryd.prog w=.ok (.slice (some ⟨w.heap.size,0,none⟩) 64 64) (w.alloc (.cells X 5)):=fun w=>by rw[hX];exact mk_row 64 (by omega) w
 have B2:=Lib.hid ((((Below.refl w.heap.size w).alloc (Nat.le_refl _) (.cells Z 5)).alloc (by simp) (.cells Y 5)))
 have PM:=Lib.hid (show Pc ((w.alloc (.cells Z 5)).alloc (.cells Y 5)) (some ⟨w.heap.size,0,none⟩,N,N,zr N) from zr_pc (by rw[←hZ];exact(Bl.new_ w _ Z).alloc _))
 have PA:=Lib.hid (show Pc ((w.alloc (.cells Z 5)).alloc (.cells Y 5)) (some ⟨w.heap.size+1,0,none⟩,32,32,zr 32) from zr_pc (by rw[←hY];exact Bl.new' _ _ (by simp)))
 have TE:=Lib.hid te
 have TS:=Lib.hid ts
 have TL:=Lib.hid tl
 have HB:=Lib.hid hb
 have K1:=Lib.hid (key_p (TE.out.below B2.out) (TS.out.below B2.out) PA.out HB.out)
 have HN:=Lib.hid (show N=65536+r from hN)
 clear te ts tl hb hZ hY hX hx hr hN
 rcases hr2 with rfl|rfl
 ·have H3:=Lib.hid (show N≤65536 by have:=HN.out;omega)
  have eN:(N:Int)=65536:=by have:=HN.out;omega
  simp only[eN] at m1
  clear eN e2
  go_enter Tryd.func5,Tryd.ntmps5
  go_wp2_with (first|(go_at_call 7;(with_reducible refine K1.out.mono ?_);rintro e w1 ⟨q,rfl,p1,b1⟩;have B1:=Lib.hid (B2.out.trans (b1.mono B2.out.size));have P1:=Lib.hid p1;have M1:=Lib.hid (PM.out.below b1);have S1:=Lib.hid (sign_p (TE.out.below B1.out) (TS.out.below B1.out) (TL.out.below B1.out) (PA.out.below b1) M1.out H3.out HB.out);clear p1 b1)|(go_at_call 8;(with_reducible refine S1.out.mono ?_);rintro e w2 ⟨q2,cap,rfl,p2,-, b2⟩;have B3:=Lib.hid (B1.out.trans (b2.mono B1.out.size));have V1:=Lib.hid (verify_own (TE.out.below B3.out) (TS.out.below B3.out) (TL.out.below B3.out) (P1.out.below b2) (M1.out.below b2) p2 H3.out HB.out);clear p2 b2)|(go_at_call 9;(with_reducible refine V1.out.mono ?_);rintro e w3 ⟨rfl,b3⟩;have B4:=Lib.hid (B3.out.trans (b3.mono B3.out.size));have KN:=Lib.hid (known_any _ (TE.out.below B4.out) (TS.out.below B4.out));clear b3)|(go_at_call 6;(with_reducible refine KN.out.mono ?_);rintro e w4 ⟨rfl,b4⟩;have B5:=Lib.hid (B4.out.trans (b4.mono B4.out.size));clear b4))
  go_ret
  exact⟨rfl,B5.out⟩
 ·have H3:=Lib.hid (show 65536 < N by have:=HN.out;omega)
  have H4:=Lib.hid (show N≤1000000 by have:=HN.out;omega)
  have eN:(N:Int)=65537:=by have:=HN.out;omega
  simp only[eN] at m1
  clear eN e2
  go_enter Tryd.func5,Tryd.ntmps5
  go_wp2_with (first|(go_at_call 7;(with_reducible refine K1.out.mono ?_);rintro e w1 ⟨q,rfl,p1,b1⟩;have B1:=Lib.hid (B2.out.trans (b1.mono B2.out.size));clear p1 b1)|(go_at_call 8;(with_reducible refine(Sign_long H3.out H4.out).mono ?_);rintro e w2 ⟨rfl,rfl⟩)|(go_at_call 9;(with_reducible refine(Verify_long H3.out H4.out).mono ?_);rintro e w3 ⟨rfl,rfl⟩;have B4:=Lib.hid (B1.out.alloc B1.out.size (.cells X 5));have KN:=Lib.hid (known_any _ (TE.out.below B4.out) (TS.out.below B4.out)))|(go_at_call 6;(with_reducible refine KN.out.mono ?_);rintro e w4 ⟨rfl,b4⟩;have B5:=Lib.hid (B4.out.trans (b4.mono B4.out.size));clear b4))
  go_ret
  exact⟨rfl,B5.out⟩
theorem walk_edLong{w:World}(tab:TabE w∧Sh.Tab w∧TabL w)(x:Int)(hx:(Lit.int .u8 x).wf) :
  Calls Tryd.prog 5 #[.int .u8 x] w fun e w'=>e=.returned (.bool true)∧Below w.heap.size w w':=by
 have hx':0≤x∧x≤255:=by simpa[Lit.wf,IntKind.min,IntKind.max,IntKind.signed,IntKind.bits] using hx
 obtain⟨n,rfl⟩:∃n:Nat,x=(n:Int):=⟨x.toNat,by omega⟩
 exact long_walk tab n _ _ (by omega) rfl rfl
end Go.Proofs.YtjimhjfjfpeojaaDoor.Ed
