/- Joined texts. -/
import Derived.Test.YtdbljpeadehjkaaQrWrDeepB
import Derived.Test.YtdbljpeadehjkaaQrWrKnown
import Derived.Test.YtdbljpeadehjkaaQrWrDread
import Derived.Test.YtdbljpeadehjkaaQrWrRSame
set_option linter.unusedVariables false
namespace Go.Proofs.Ytdbljpeadehjkaa.Wr
open Go.RowKit Go.Proofs.Ytdbljpeadehjkaa.Gn Go.Proofs.Ytdbljpeadehjkaa.Fd Go.Deep
theorem rdq(res:Rr Nd):∃(x y:Int) (V:Nd),∀w e w',RdQ res w e w'→Below w.heap.size w w'∧∃t:Tv,e=.returned (.tuple #[t.val,.int .i64 x,.int .i64 y])∧nd t=V∧Ok w' t:=by
 cases res with
 |bad q en=>exact⟨q,en,.mk 0 0 [] [],fun w e w' ⟨h,e1⟩=>⟨h,.mk 0 0 (none,0,0,[]) none 0 [],e1,rfl,ok_leaf (by decide) (nil_pc _)⟩⟩
 |good v p k=>exact⟨0,0,v,fun w e w' ⟨h,t,e1,h2,h3⟩=>⟨h,t,e1,h2,h3⟩⟩
set_option maxHeartbeats 4000000 in
set_option maxRecDepth 100000 in
theorem walk_wireReads{w:World}(A:Option Addr)(m cap:Nat)(l:List Nat)(hl:BL w A m cap l)(hin:∀ad,A=some ad→ad.block < w.heap.size)(a b c d:Int)(wd:(Lit.int .i64 d).wf) :
  Calls Try.prog 5 #[.slice A m cap,.agg #[.int .i64 a,.int .i64 b,.int .i64 c,.int .i64 d]] w fun e w'=>e=.returned (.bool true)∧Below w.heap.size w w':=by
 have hd:=(wf_i64 wd).2
 have HP:=Lib.hid (bl_pc hl)
 have KN:=Lib.hid known_any
 have LGf:=Lib.hid (fun u=>longb_any A m cap u)
 have B0:=Lib.hid (below_one w (.cells #[.int .i64 a,.int .i64 b,.int .i64 c,.int .i64 d] 36))
 have N0:=Lib.hid (Bl.new_ w 36 #[.int .i64 a,.int .i64 b,.int .i64 c,.int .i64 d])
 have OW:=Lib.hid (fun u=>own_lim a b c d u)
 clear wd hl
 by_cases h9:2000 < (m:Int)
 ·rw[decide_eq_true h9] at LGf
  clear h9 HP hd
  go_enter Try.func5,Try.ntmps5
  go_wp2_with (first|(go_at_call 9;(refine(LGf.out _).mono ?_);rintro e w1 ⟨rfl,rfl⟩)|(go_at_call 10;(refine(KN.out _).mono ?_);rintro e w1 ⟨rfl,hb⟩;have HB:=Lib.hid hb;clear hb))
  go_ret
  exact⟨rfl,B0.out.trans (HB.out.mono B0.out.size)⟩
 rw[decide_eq_false h9] at LGf
 obtain⟨x,y,V,HX⟩:=rdq (rdw (max a 0) (max b 0) (max c 0) (max d 0) l)
 have CP:=Lib.hid (show ∀u,Below w.heap.size w u→Calls Try.prog 22 #[.slice A m cap,lim a b c d] u (fun e w'=>Below u.heap.size u w'∧∃t:Tv,e=.returned (.tuple #[t.val,.int .i64 x,.int .i64 y])∧nd t=V∧Ok w' t) from fun u hu=>(Read_any (HP.out.below hu) a b c d hd (by show m≤900000;omega) (fun ad e=>Nat.lt_of_lt_of_le (hin ad e) hu.size)).mono fun e w' h=>HX u e w' h)
 have CR:=Lib.hid (show ∀u,Below w.heap.size w u→Calls Try.prog 23 #[.slice A m cap,.agg #[.int .i64 a,.int .i64 b,.int .i64 c,.int .i64 d]] u (fun e w'=>Below u.heap.size u w'∧∃t:Tv,e=.returned (.tuple #[t.val,.int .i64 x,.int .i64 y])∧nd t=V∧Ok w' t) from fun u hu=>(RRead_any (HP.out.below hu) a b c d hd (by show m≤900000;omega) (fun ad e=>Nat.lt_of_lt_of_le (hin ad e) hu.size)).mono fun e w' h=>HX u e w' h)
 have SV:=Lib.hid ((sn_eq V V).2 rfl)
 clear h9 hd hin HX HP
 go_enter Try.func5,Try.ntmps5
 go_wp2_with (first
  |(go_at_call 9;(refine(LGf.out _).mono ?_);rintro e w1 ⟨rfl,rfl⟩)
  |(go_at_call 18;(refine(OW.out _).mono ?_);rintro e w1 ⟨rfl,hb1⟩;have B1:=Lib.hid (B0.out.trans (hb1.mono B0.out.size));have F1:=Lib.hid hb1;clear hb1)
  |(go_at_call 22;(refine(CP.out _ B1.out).mono ?_);rintro e w2 ⟨hb2,t,rfl,hnd,hok⟩;obtain⟨K,N,rr,BB,cc,vs⟩:=t;simp only[Tv.val,Tv.row];have X2:=Lib.hid (below_one w2 (.cells #[.int .i64 K,.int .u64 (N:Int),.slice rr.1 rr.2.1 rr.2.2.1,.slice BB vs.length cc] 34));have B2:=Lib.hid (B1.out.trans (hb2.mono B1.out.size));have B3:=Lib.hid (B2.out.trans (X2.out.mono B2.out.size));have F2:=Lib.hid (F1.out.trans (hb2.mono F1.out.size));have N3:=Lib.hid (show Bl (w2.alloc (.cells #[.int .i64 K,.int .u64 (N:Int),.slice rr.1 rr.2.1 rr.2.2.1,.slice BB vs.length cc] 34)) w.heap.size 36 #[.int .i64 a,.int .i64 b,.int .i64 c,.int .i64 d] from N0.out.below' (F2.out.trans (X2.out.mono F2.out.size)));have z0:(w2.alloc (.cells #[.int .i64 K,.int .u64 (N:Int),.slice rr.1 rr.2.1 rr.2.2.1,.slice BB vs.length cc] 34)).cell? ⟨w.heap.size,0,none⟩=some (.int .i64 a):=N3.out.cell_ rfl;have z1:(w2.alloc (.cells #[.int .i64 K,.int .u64 (N:Int),.slice rr.1 rr.2.1 rr.2.2.1,.slice BB vs.length cc] 34)).cell? ⟨w.heap.size,1,none⟩=some (.int .i64 b):=N3.out.cell_ rfl;have z2:(w2.alloc (.cells #[.int .i64 K,.int .u64 (N:Int),.slice rr.1 rr.2.1 rr.2.2.1,.slice BB vs.length cc] 34)).cell? ⟨w.heap.size,2,none⟩=some (.int .i64 c):=N3.out.cell_ rfl;have z3:(w2.alloc (.cells #[.int .i64 K,.int .u64 (N:Int),.slice rr.1 rr.2.1 rr.2.2.1,.slice BB vs.length cc] 34)).cell? ⟨w.heap.size,3,none⟩=some (.int .i64 d):=N3.out.cell_ rfl;have O2:=Lib.hid (hok.keep X2.out);have V2:=Lib.hid hnd;have NA:=Lib.hid (Bl.new_ w2 34 #[.int .i64 K,.int .u64 (N:Int),.slice rr.1 rr.2.1 rr.2.2.1,.slice BB vs.length cc]);clear hb2 hnd hok)
  |(go_at_call 23;(refine(CR.out _ B3.out).mono ?_);rintro e w4 ⟨hb4,t,rfl,hnd,hok⟩;obtain⟨K4,N4,r4,B4_,c4,v4⟩:=t;simp only[Tv.val,Tv.row];clear z0 z1 z2 z3;have X4:=Lib.hid (below_one w4 (.cells #[.int .i64 K4,.int .u64 (N4:Int),.slice r4.1 r4.2.1 r4.2.2.1,.slice B4_ v4.length c4] 34));have B4:=Lib.hid (B3.out.trans (hb4.mono B3.out.size));have B5:=Lib.hid (B4.out.trans (X4.out.mono B4.out.size));have NA5:=Lib.hid (show Bl (w4.alloc (.cells #[.int .i64 K4,.int .u64 (N4:Int),.slice r4.1 r4.2.1 r4.2.2.1,.slice B4_ v4.length c4] 34)) w2.heap.size 34 #[.int .i64 K,.int .u64 (N:Int),.slice rr.1 rr.2.1 rr.2.2.1,.slice BB vs.length cc] from(NA.out.below' hb4).alloc _);have z0:(w4.alloc (.cells #[.int .i64 K4,.int .u64 (N4:Int),.slice r4.1 r4.2.1 r4.2.2.1,.slice B4_ v4.length c4] 34)).cell? ⟨w2.heap.size,0,none⟩=some (.int .i64 K):=NA5.out.cell_ rfl;have z1:(w4.alloc (.cells #[.int .i64 K4,.int .u64 (N4:Int),.slice r4.1 r4.2.1 r4.2.2.1,.slice B4_ v4.length c4] 34)).cell? ⟨w2.heap.size,1,none⟩=some (.int .u64 (N:Int)):=NA5.out.cell_ rfl;have z2:(w4.alloc (.cells #[.int .i64 K4,.int .u64 (N4:Int),.slice r4.1 r4.2.1 r4.2.2.1,.slice B4_ v4.length c4] 34)).cell? ⟨w2.heap.size,2,none⟩=some (.slice rr.1 rr.2.1 rr.2.2.1):=NA5.out.cell_ rfl;have z3:(w4.alloc (.cells #[.int .i64 K4,.int .u64 (N4:Int),.slice r4.1 r4.2.1 r4.2.2.1,.slice B4_ v4.length c4] 34)).cell? ⟨w2.heap.size,3,none⟩=some (.slice BB vs.length cc):=NA5.out.cell_ rfl;have CS:=Lib.hid (show Calls Try.prog 24 #[.agg #[.int .i64 K,.int .u64 (N:Int),.slice rr.1 rr.2.1 rr.2.2.1,.slice BB vs.length cc],.agg #[.int .i64 K4,.int .u64 (N4:Int),.slice r4.1 r4.2.1 r4.2.2.1,.slice B4_ v4.length c4]] (w4.alloc (.cells #[.int .i64 K4,.int .u64 (N4:Int),.slice r4.1 r4.2.1 r4.2.2.1,.slice B4_ v4.length c4] 34)) (fun e w'=>e=.returned (.bool true)∧Below (w4.alloc (.cells #[.int .i64 K4,.int .u64 (N4:Int),.slice r4.1 r4.2.1 r4.2.2.1,.slice B4_ v4.length c4] 34)).heap.size (w4.alloc (.cells #[.int .i64 K4,.int .u64 (N4:Int),.slice r4.1 r4.2.1 r4.2.2.1,.slice B4_ v4.length c4] 34)) w') from by have h:=RSame_any ((O2.out.keep hb4).keep X4.out) (hok.keep X4.out) _ (Below.refl _ _);rw[V2.out,hnd,SV.out] at h;exact h);clear hb4 hnd hok)
  |(go_at_call 24;(refine CS.out.mono ?_);rintro e w6 ⟨rfl,hb6⟩;have B6:=Lib.hid (B5.out.trans (hb6.mono B5.out.size));clear hb6)
  |(go_at_call 10;(refine(KN.out _).mono ?_);rintro e w7 ⟨rfl,hb7⟩;have B7:=Lib.hid (B6.out.trans (hb7.mono B6.out.size));clear hb7))
 go_ret
 exact⟨rfl,B7.out⟩
end Go.Proofs.Ytdbljpeadehjkaa.Wr
