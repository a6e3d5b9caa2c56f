/- Joined texts. -/
import Derived.Deep.LoopGhost
import Derived.Test.YtkahelhoaihajaaQnWrOpn
import Derived.Test.YtkahelhoaihajaaQnWrKnown
import Derived.Test.YtkahelhoaihajaaQnWrPu
import Derived.Test.YtkahelhoaihajaaQnWrSame
import Derived.Test.YtkahelhoaihajaaQnWrFaultR
import Derived.Test.YtkahelhoaihajaaQnWrTread
import Derived.Test.YtkahelhoaihajaaQnWrNd
import Derived.Test.YtkahelhoaihajaaQnWrSize
set_option linter.unusedVariables false
namespace Go.Proofs.Ytkahelhoaihajaa.Wr
open Go.RowKit Go.Proofs.Ytkahelhoaihajaa.Gn Go.Proofs.Ytkahelhoaihajaa.Fd Go.Deep
set_option maxHeartbeats 4000000 in
set_option maxRecDepth 100000 in
theorem walk_wireNil{w:World}{v:Tv}(hv:Ok0 w v)(a:Int)(wa:(Lit.int .i64 a).wf)(b:Int)(wb:(Lit.int .i64 b).wf) :
  Calls Try.prog 9 #[v.val,.int .i64 a,.int .i64 b] w fun e w'=>e=.returned (.bool true)∧Below w.heap.size w w':=by
 have KN:=Lib.hid known_any
 have GR:=Lib.hid (fun u hu=>great_any hv u hu)
 clear wa wb
 obtain⟨SZ,hSZ⟩:∃SZ,sz v=SZ:=⟨_,rfl⟩
 rw[hSZ] at GR
 have MAIN:=Lib.hid (show SZ≤2000→Ok w v∧sz v≤2000 from fun h1=>by
  have h3:=hv.ok v (by omega)
  exact⟨h3,by omega⟩)
 clear hv hSZ
 obtain⟨K0,N0,r0,B0,c0,v0⟩:=v
 simp only[Tv.val,Tv.row] at GR ⊢
 obtain⟨U,hU⟩:∃U,(w.alloc (.cells #[.int .i64 K0,.int .u64 (N0:Int),.slice r0.1 r0.2.1 r0.2.2.1,.slice B0 v0.length c0] 26))=U:=⟨_,rfl⟩
 have BU:=Lib.hid (show Below w.heap.size w U from by rw[←hU];exact(Below.refl _ w).alloc (Nat.le_refl _) _)
 have NV:=Lib.hid (show Bl U w.heap.size 26 #[.int .i64 K0,.int .u64 (N0:Int),.slice r0.1 r0.2.1 r0.2.2.1,.slice B0 v0.length c0] from by rw[←hU];exact Bl.new_ w _ _)
 have z0:(U).cell? ⟨w.heap.size,0,none⟩=some (.int .i64 K0):=(NV.out).cell_ rfl
 have z1:(U).cell? ⟨w.heap.size,1,none⟩=some (.int .u64 (N0:Int)):=(NV.out).cell_ rfl
 have z2:(U).cell? ⟨w.heap.size,2,none⟩=some (.slice r0.1 r0.2.1 r0.2.2.1):=(NV.out).cell_ rfl
 have z3:(U).cell? ⟨w.heap.size,3,none⟩=some (.slice B0 v0.length c0):=(NV.out).cell_ rfl
 by_cases g1:2000 < SZ
 ·rw[decide_eq_true g1] at GR
  clear g1 MAIN
  go_enter Try.func9,Try.ntmps9
  go_wp2_with (first
   |(go_at_call 10;(refine(GR.out _ BU.out).mono ?_);rintro e w1 ⟨rfl,hb1⟩;have F1:=Lib.hid hb1;clear hb1)
   |(go_at_call 11;(refine(KN.out _).mono ?_);rintro e w3 ⟨rfl,hb3⟩;have F3:=Lib.hid hb3;clear hb3))
  go_ret
  exact⟨rfl,BU.out.trans ((F1.out.trans (F3.out.mono F1.out.size)).mono BU.out.size)⟩
 rw[decide_eq_false g1] at GR
 obtain⟨hok,hsz⟩:=MAIN.out (by omega)
 have OK0:=Lib.hid hok
 have SZ0:=Lib.hid hsz
 have CN:=Lib.hid (fun u=>@Num_nil u)
 have CI:=Lib.hid (fun u=>@Int_nil u 0 5)
 have CB:=Lib.hid (fun u=>@Bytes_nil u 0 5)
 have CS:=Lib.hid (fun u=>@Score_nil u)
 have CL:=Lib.hid (fun u=>@List_nil u 0 5)
 have CD:=Lib.hid (fun u=>Done_nil u)
 clear hok hsz MAIN g1
 by_cases k3:K0=3
 ·subst k3
  have CO:=Lib.hid (fun u hu=>Open_list OK0.out (Nat.le_trans SZ0.out (by decide)) u hu)
  go_enter Try.func9,Try.ntmps9
  go_upto_region 4 with(first
   |(go_at_call 10;(refine(GR.out _ BU.out).mono ?_);rintro e w1 ⟨rfl,hb1⟩;have F1:=Lib.hid hb1;clear hb1))
  go_upto_region 5 with(first
   |(go_at_call 33;(refine(CN.out _).mono ?_);rintro e w4 ⟨rfl,hb4⟩;have F4:=Lib.hid (F1.out.trans (hb4.mono F1.out.size));clear hb4)
   |(go_at_call 35;(refine(CI.out _).mono ?_);rintro e w5 ⟨rfl,hb5⟩;have F5:=Lib.hid (F4.out.trans (hb5.mono F4.out.size));clear hb5)
   |(go_at_call 37;(refine(CB.out _).mono ?_);rintro e w6 ⟨rfl,hb6⟩;have F6:=Lib.hid (F5.out.trans (hb6.mono F5.out.size));clear hb6)
   |(go_at_call 40;(refine(CS.out _).mono ?_);rintro e w7 ⟨rfl,hb7⟩;have F7:=Lib.hid (F6.out.trans (hb7.mono F6.out.size));clear hb7)
   |(go_at_call 42;(refine(CL.out _).mono ?_);rintro e w8 ⟨⟨A8,c8,rfl⟩,hb8⟩;have F8:=Lib.hid (F7.out.trans (hb8.mono F7.out.size));have zz0:(w8).cell? ⟨w.heap.size,0,none⟩=some (.int .i64 3):=(NV.out.below' F8.out).cell_ rfl;have zz1:(w8).cell? ⟨w.heap.size,1,none⟩=some (.int .u64 (N0:Int)):=(NV.out.below' F8.out).cell_ rfl;have zz2:(w8).cell? ⟨w.heap.size,2,none⟩=some (.slice r0.1 r0.2.1 r0.2.2.1):=(NV.out.below' F8.out).cell_ rfl;have zz3:(w8).cell? ⟨w.heap.size,3,none⟩=some (.slice B0 v0.length c0):=(NV.out.below' F8.out).cell_ rfl;clear hb8)
   |(go_at_call 43;(refine(CD.out _).mono ?_);rintro e w9 ⟨rfl,rfl⟩))
  go_upto_region 7 with(first
   |(go_at_call 30;(refine(CO.out _ (BU.out.trans (F8.out.mono BU.out.size))).mono ?_);rintro e w10 ⟨g,us,rfl,hn,hf,hg,hl,hb10⟩;have F10:=Lib.hid (F8.out.trans (hb10.mono F8.out.size));have k10:w10.cell? ⟨w.heap.size,0,none⟩=some (.int .i64 3):=(NV.out.below' F10.out).cell_ rfl;clear hb10 hn hf hg hl))
  go_wp2_with (first
   |(go_at_call 11;(refine(KN.out _).mono ?_);rintro e w11 ⟨rfl,hb11⟩;have F11:=Lib.hid (F10.out.trans (hb11.mono F10.out.size));clear hb11))
  go_ret
  exact⟨rfl,BU.out.trans (F11.out.mono BU.out.size)⟩
 ·have CO:=Lib.hid (fun u=>Open_no K0 k3 N0 r0 B0 v0.length c0 u)
  go_enter Try.func9,Try.ntmps9
  go_upto_region 4 with(first
   |(go_at_call 10;(refine(GR.out _ BU.out).mono ?_);rintro e w1 ⟨rfl,hb1⟩;have F1:=Lib.hid hb1;clear hb1))
  go_upto_region 5 with(first
   |(go_at_call 33;(refine(CN.out _).mono ?_);rintro e w4 ⟨rfl,hb4⟩;have F4:=Lib.hid (F1.out.trans (hb4.mono F1.out.size));clear hb4)
   |(go_at_call 35;(refine(CI.out _).mono ?_);rintro e w5 ⟨rfl,hb5⟩;have F5:=Lib.hid (F4.out.trans (hb5.mono F4.out.size));clear hb5)
   |(go_at_call 37;(refine(CB.out _).mono ?_);rintro e w6 ⟨rfl,hb6⟩;have F6:=Lib.hid (F5.out.trans (hb6.mono F5.out.size));clear hb6)
   |(go_at_call 40;(refine(CS.out _).mono ?_);rintro e w7 ⟨rfl,hb7⟩;have F7:=Lib.hid (F6.out.trans (hb7.mono F6.out.size));clear hb7)
   |(go_at_call 42;(refine(CL.out _).mono ?_);rintro e w8 ⟨⟨A8,c8,rfl⟩,hb8⟩;have F8:=Lib.hid (F7.out.trans (hb8.mono F7.out.size));have zz0:(w8).cell? ⟨w.heap.size,0,none⟩=some (.int .i64 K0):=(NV.out.below' F8.out).cell_ rfl;have zz1:(w8).cell? ⟨w.heap.size,1,none⟩=some (.int .u64 (N0:Int)):=(NV.out.below' F8.out).cell_ rfl;have zz2:(w8).cell? ⟨w.heap.size,2,none⟩=some (.slice r0.1 r0.2.1 r0.2.2.1):=(NV.out.below' F8.out).cell_ rfl;have zz3:(w8).cell? ⟨w.heap.size,3,none⟩=some (.slice B0 v0.length c0):=(NV.out.below' F8.out).cell_ rfl;clear hb8)
   |(go_at_call 43;(refine(CD.out _).mono ?_);rintro e w9 ⟨rfl,rfl⟩))
  go_upto_region 7 with(first
   |(go_at_call 30;(refine(CO.out _).mono ?_);rintro e w10 ⟨g,rfl,hz,hg,hb10⟩;have F10:=Lib.hid (F8.out.trans (hb10.mono F8.out.size));have k10:w10.cell? ⟨w.heap.size,0,none⟩=some (.int .i64 K0):=(NV.out.below' F10.out).cell_ rfl;have Z10:=Lib.hid hz;have G10:=Lib.hid (show U.heap.size≤g from Nat.le_trans F8.out.size hg);clear hb10 hz hg))
  go_wp2_with (first
   |(go_at_call 43;first|((with_reducible refine(Done_none Z12.out).mono ?_);rintro e w14 ⟨rfl,rfl⟩)|((with_reducible refine(Done_none Z10.out).mono ?_);rintro e w13 ⟨rfl,rfl⟩))
   |(go_at_call 42;(refine(List_none Z10.out a b).mono ?_);rintro e w11 ⟨⟨A11,c11,rfl⟩,hb11,hz11,hs11⟩;have F11:=Lib.hid (F10.out.trans (hb11.mono G10.out));have Z11:=Lib.hid hz11;clear hb11 hz11 hs11)
   |(go_at_call 33;(refine(Num_none Z11.out).mono ?_);rintro e w12 ⟨rfl,hb12,hz12,hs12⟩;have F12:=Lib.hid (F11.out.trans (hb12.mono G10.out));have Z12:=Lib.hid hz12;clear hb12 hz12 hs12)
   |(go_at_call 11;(refine(KN.out _).mono ?_);rintro e w15 ⟨rfl,hb15⟩;have F15:=Lib.hid (F12.out.trans (hb15.mono F12.out.size));clear hb15))
  go_ret
  exact⟨rfl,BU.out.trans (F15.out.mono BU.out.size)⟩
end Go.Proofs.Ytkahelhoaihajaa.Wr
