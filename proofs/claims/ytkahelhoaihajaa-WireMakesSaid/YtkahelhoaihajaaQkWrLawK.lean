/- Joined texts. -/
import Derived.Test.YtkahelhoaihajaaQkWrMakeC
import Derived.Test.YtkahelhoaihajaaQkWrCopyB
import Derived.Test.YtkahelhoaihajaaQkWrPu
set_option linter.unusedVariables false
namespace Go.Proofs.Ytkahelhoaihajaa.Wr
open Go.RowKit Go.Proofs.Ytkahelhoaihajaa.Gn Go.Proofs.Ytkahelhoaihajaa.Fd Go.Deep
theorem wf_flt{b:Nat}(h:(Lit.float .f64 b).wf=true):b < 18446744073709551616:=by
 simpa[Lit.wf] using h
theorem Same_eq{w:World}{s t:Tv}(hs:Ok w s)(ht:Ok w t)(h:nd s=nd t):Calls Try.prog 22 #[s.val,t.val] w (SmQ true w):=by
 have h1:=RSame_any hs ht _ (Below.refl _ _)
 rw[h,(sn_eq _ _).2 rfl] at h1
 exact h1
theorem PSame_eq{w:World}{s t:Tv}(hs:Ok w s)(ht:Ok w t)(h:nd s=nd t):Calls Try.prog 29 #[s.val,t.val] w (SmQ true w):=by
 have h1:=Same_any hs ht _ (Below.refl _ _)
 rw[h,(sn_eq _ _).2 rfl] at h1
 exact h1
theorem two_kids{w:World}{s t:Tv}(hs:Ok w s)(ht:Ok w t):∀x∈[s,t],Ok w x:=by
 intro x hx
 rcases List.mem_cons.1 hx with rfl|hx
 ·exact hs
 ·rw[List.mem_singleton.1 hx];exact ht
set_option maxHeartbeats 4000000 in
set_option maxRecDepth 100000 in
theorem walk_wireMakes{w:World}(n0:Int)(wn:(Lit.int .u64 n0).wf)(A:Option Addr)(m cap:Nat)(l:List Nat)(hl:BL w A m cap l)(hin:∀ad,A=some ad→ad.block < w.heap.size)(s:ByteArray)(x:Nat)(wx0:(Lit.float .f64 x).wf=true){v u:Tv}(hv:Ok0 w v)(hu:Ok0 w u) :
  Calls Try.prog 4 #[.int .u64 n0,.slice A m cap,.string s,.float .f64 x,v.val,u.val] w fun e w'=>e=.returned (.bool true)∧Below w.heap.size w w':=by
 have hn:=wf_u64 wn
 have wx:=wf_flt wx0
 obtain⟨n,rfl⟩:∃n:Nat,n0=(n:Int):=⟨n0.toNat,by omega⟩
 have HN:=Lib.hid (show n < 18446744073709551616 by omega)
 have HX:=Lib.hid wx
 have HP:=Lib.hid (bl_pc hl)
 have KN:=Lib.hid known_any
 have LGf:=Lib.hid (fun w1=>longb_any A m cap w1)
 have GV:=Lib.hid (fun w1 h1=>great_any hv w1 h1)
 have GU:=Lib.hid (fun w1 h1=>great_any hu w1 h1)
 clear wn hn wx wx0 hl hin
 obtain⟨SV,hSV⟩:∃SV,sz v=SV:=⟨_,rfl⟩
 obtain⟨SU,hSU⟩:∃SU,sz u=SU:=⟨_,rfl⟩
 rw[hSV] at GV
 rw[hSU] at GU
 have OKV:=Lib.hid (show SV≤2000→Ok w v from fun h=>hv.ok v (by omega))
 have OKU:=Lib.hid (show SU≤2000→Ok w u from fun h=>hu.ok u (by omega))
 have HSV:=Lib.hid hSV
 have HSU:=Lib.hid hSU
 clear hv hu hSV hSU
 obtain⟨Kv,N0,r0,B0,c0,v0⟩:=v
 obtain⟨Kw,N1,r1,B1,c1,v1⟩:=u
 simp only[Tv.val,Tv.row] at GV GU ⊢
 obtain⟨U,hU⟩:∃U,((w.alloc (.cells #[.int .i64 Kv,.int .u64 (N0:Int),.slice r0.1 r0.2.1 r0.2.2.1,.slice B0 v0.length c0] 26)).alloc (.cells #[.int .i64 Kw,.int .u64 (N1:Int),.slice r1.1 r1.2.1 r1.2.2.1,.slice B1 v1.length c1] 26))=U:=⟨_,rfl⟩
 have BU:=Lib.hid (show Below w.heap.size w U from by rw[←hU];exact((Below.refl _ w).alloc (Nat.le_refl _) _).alloc (by simp) _)
 have NV:=Lib.hid (show Bl U w.heap.size 26 #[.int .i64 Kv,.int .u64 (N0:Int),.slice r0.1 r0.2.1 r0.2.2.1,.slice B0 v0.length c0] from by rw[←hU];exact(Bl.new_ w _ _).alloc _)
 have NW:=Lib.hid (show Bl U (w.heap.size+1) 26 #[.int .i64 Kw,.int .u64 (N1:Int),.slice r1.1 r1.2.1 r1.2.2.1,.slice B1 v1.length c1] from by rw[←hU];exact Bl.new' _ _ (by simp))
 have z0:(U).cell? ⟨w.heap.size,0,none⟩=some (.int .i64 Kv):=(NV.out).cell_ rfl
 have z1:(U).cell? ⟨w.heap.size,1,none⟩=some (.int .u64 (N0:Int)):=(NV.out).cell_ rfl
 have z2:(U).cell? ⟨w.heap.size,2,none⟩=some (.slice r0.1 r0.2.1 r0.2.2.1):=(NV.out).cell_ rfl
 have z3:(U).cell? ⟨w.heap.size,3,none⟩=some (.slice B0 v0.length c0):=(NV.out).cell_ rfl
 have y0:(U).cell? ⟨w.heap.size+1,0,none⟩=some (.int .i64 Kw):=(NW.out).cell_ rfl
 have y1:(U).cell? ⟨w.heap.size+1,1,none⟩=some (.int .u64 (N1:Int)):=(NW.out).cell_ rfl
 have y2:(U).cell? ⟨w.heap.size+1,2,none⟩=some (.slice r1.1 r1.2.1 r1.2.2.1):=(NW.out).cell_ rfl
 have y3:(U).cell? ⟨w.heap.size+1,3,none⟩=some (.slice B1 v1.length c1):=(NW.out).cell_ rfl
 by_cases g1:2000 < (m:Int)
 ·rw[decide_eq_true g1] at LGf
  clear g1
  go_enter Try.func4,Try.ntmps4
  go_wp2_with (first
   |(go_at_call 18;(refine(LGf.out _).mono ?_);rintro e w0 ⟨rfl,rfl⟩)
   |(go_at_call 11;(refine(KN.out _).mono ?_);rintro e w3 ⟨rfl,hb3⟩;have F3:=Lib.hid (hb3);clear hb3))
  go_ret
  exact⟨rfl,BU.out.trans (F3.out.mono BU.out.size)⟩
 rw[decide_eq_false g1] at LGf
 by_cases g2:2000 < (s.size:Int)
 ·clear g1
  go_enter Try.func4,Try.ntmps4
  go_wp2_with (first
   |(go_at_call 18;(refine(LGf.out _).mono ?_);rintro e w0 ⟨rfl,rfl⟩)
   |(go_at_call 11;(refine(KN.out _).mono ?_);rintro e w3 ⟨rfl,hb3⟩;have F3:=Lib.hid (hb3);clear hb3))
  go_ret
  exact⟨rfl,BU.out.trans (F3.out.mono BU.out.size)⟩
 by_cases g3:2000 < SV
 ·rw[decide_eq_true g3] at GV
  clear g1 g3
  go_enter Try.func4,Try.ntmps4
  go_wp2_with (first
   |(go_at_call 18;(refine(LGf.out _).mono ?_);rintro e w0 ⟨rfl,rfl⟩)
   |(go_at_call 10;(refine(GV.out _ BU.out).mono ?_);rintro e w1 ⟨rfl,hb1⟩;have F1:=Lib.hid hb1;have yy0:(w1).cell? ⟨w.heap.size+1,0,none⟩=some (.int .i64 Kw):=(NW.out.below' hb1).cell_ rfl;have yy1:(w1).cell? ⟨w.heap.size+1,1,none⟩=some (.int .u64 (N1:Int)):=(NW.out.below' hb1).cell_ rfl;have yy2:(w1).cell? ⟨w.heap.size+1,2,none⟩=some (.slice r1.1 r1.2.1 r1.2.2.1):=(NW.out.below' hb1).cell_ rfl;have yy3:(w1).cell? ⟨w.heap.size+1,3,none⟩=some (.slice B1 v1.length c1):=(NW.out.below' hb1).cell_ rfl;clear hb1)
   |(go_at_call 11;(refine(KN.out _).mono ?_);rintro e w3 ⟨rfl,hb3⟩;have F3:=Lib.hid (F1.out.trans (hb3.mono F1.out.size));clear hb3))
  go_ret
  exact⟨rfl,BU.out.trans (F3.out.mono BU.out.size)⟩
 rw[decide_eq_false g3] at GV
 by_cases g4:2000 < SU
 ·rw[decide_eq_true g4] at GU
  clear g1 g3 g4
  go_enter Try.func4,Try.ntmps4
  go_wp2_with (first
   |(go_at_call 18;(refine(LGf.out _).mono ?_);rintro e w0 ⟨rfl,rfl⟩)
   |(go_at_call 10;(refine(GV.out _ BU.out).mono ?_);rintro e w1 ⟨rfl,hb1⟩;have F1:=Lib.hid hb1;have yy0:(w1).cell? ⟨w.heap.size+1,0,none⟩=some (.int .i64 Kw):=(NW.out.below' hb1).cell_ rfl;have yy1:(w1).cell? ⟨w.heap.size+1,1,none⟩=some (.int .u64 (N1:Int)):=(NW.out.below' hb1).cell_ rfl;have yy2:(w1).cell? ⟨w.heap.size+1,2,none⟩=some (.slice r1.1 r1.2.1 r1.2.2.1):=(NW.out.below' hb1).cell_ rfl;have yy3:(w1).cell? ⟨w.heap.size+1,3,none⟩=some (.slice B1 v1.length c1):=(NW.out.below' hb1).cell_ rfl;clear hb1)
   |(go_at_call 10;(refine(GU.out _ (BU.out.trans (F1.out.mono BU.out.size))).mono ?_);rintro e w2 ⟨rfl,hb2⟩;have F2:=Lib.hid (F1.out.trans (hb2.mono F1.out.size));clear hb2)
   |(go_at_call 11;(refine(KN.out _).mono ?_);rintro e w3 ⟨rfl,hb3⟩;have F3:=Lib.hid (F2.out.trans (hb3.mono F2.out.size));clear hb3))
  go_ret
  exact⟨rfl,BU.out.trans (F3.out.mono BU.out.size)⟩
 rw[decide_eq_false g4] at GU
 have OV:=Lib.hid (OKV.out (by omega))
 have OU:=Lib.hid (OKU.out (by omega))
 have HM:=Lib.hid (show m≤1000000 by omega)
 have SZ2:=Lib.hid (show szs [Tv.mk Kv N0 r0 B0 c0 v0,Tv.mk Kw N1 r1 B1 c1 v1]≤900000 from by have h1:=HSV.out;have h2:=HSU.out;simp only[szs];omega)
 clear g1 g3 g4 OKV OKU HSV HSU
 go_enter Try.func4,Try.ntmps4
 go_upto_region 3 with(first
  |(go_at_call 18;(refine(LGf.out _).mono ?_);rintro e w0 ⟨rfl,rfl⟩)
  |(go_at_call 10;(refine(GV.out _ BU.out).mono ?_);rintro e w1 ⟨rfl,hb1⟩;have F1:=Lib.hid hb1;have yy0:(w1).cell? ⟨w.heap.size+1,0,none⟩=some (.int .i64 Kw):=(NW.out.below' hb1).cell_ rfl;have yy1:(w1).cell? ⟨w.heap.size+1,1,none⟩=some (.int .u64 (N1:Int)):=(NW.out.below' hb1).cell_ rfl;have yy2:(w1).cell? ⟨w.heap.size+1,2,none⟩=some (.slice r1.1 r1.2.1 r1.2.2.1):=(NW.out.below' hb1).cell_ rfl;have yy3:(w1).cell? ⟨w.heap.size+1,3,none⟩=some (.slice B1 v1.length c1):=(NW.out.below' hb1).cell_ rfl;clear hb1)
  |(go_at_call 10;(refine(GU.out _ (BU.out.trans (F1.out.mono BU.out.size))).mono ?_);rintro e w2 ⟨rfl,hb2⟩;have F2:=Lib.hid (F1.out.trans (hb2.mono F1.out.size));clear hb2))
 go_upto_region 4 with(first
  |(go_at_call 19;(refine(Score_any x HX.out _).mono ?_);rintro e w3 ⟨ta,rfl,hna,hoa,hba⟩;obtain⟨Ka,Na,ra,Ba,ca,va⟩:=ta;simp only[Tv.val,Tv.row];have B3:=Lib.hid hba;have O3:=Lib.hid hoa;have D3:=Lib.hid hna;clear hba hoa hna))
 have X3:=Lib.hid (below_one w3 (.cells #[.int .i64 Ka,.int .u64 (Na:Int),.slice ra.1 ra.2.1 ra.2.2.1,.slice Ba va.length ca] 26))
 have F3:=Lib.hid (show Below U.heap.size U (w3.alloc (.cells #[.int .i64 Ka,.int .u64 (Na:Int),.slice ra.1 ra.2.1 ra.2.2.1,.slice Ba va.length ca] 26)) from F2.out.trans ((B3.out.trans (X3.out.mono B3.out.size)).mono F2.out.size))
 have NA:=Lib.hid (Bl.new_ w3 26 #[.int .i64 Ka,.int .u64 (Na:Int),.slice ra.1 ra.2.1 ra.2.2.1,.slice Ba va.length ca])
 have OA:=Lib.hid (O3.out.keep X3.out)
 obtain⟨qa,hqa⟩:∃qa,w3.heap.size=qa:=⟨_,rfl⟩
 rw[hqa] at NA ⊢
 clear X3 O3
 generalize(w3.alloc (.cells #[.int .i64 Ka,.int .u64 (Na:Int),.slice ra.1 ra.2.1 ra.2.2.1,.slice Ba va.length ca] 26))=u3 at *
 clear hqa B3
 go_upto_region 5 with(first
  |(go_at_call 20;(refine(RScore_any x HX.out _).mono ?_);rintro e w4 ⟨tc,rfl,hnc,hoc,hbc⟩;obtain⟨Kc,Nc,rc,Bc,cc,vc⟩:=tc;simp only[Tv.val,Tv.row];have B4:=Lib.hid hbc;have O4:=Lib.hid hoc;have D4:=Lib.hid hnc;clear hbc hoc hnc))
 have X4:=Lib.hid (below_one w4 (.cells #[.int .i64 Kc,.int .u64 (Nc:Int),.slice rc.1 rc.2.1 rc.2.2.1,.slice Bc vc.length cc] 26))
 have G4:=Lib.hid (show Below u3.heap.size u3 (w4.alloc (.cells #[.int .i64 Kc,.int .u64 (Nc:Int),.slice rc.1 rc.2.1 rc.2.2.1,.slice Bc vc.length cc] 26)) from B4.out.trans (X4.out.mono B4.out.size))
 have F4:=Lib.hid (show Below U.heap.size U (w4.alloc (.cells #[.int .i64 Kc,.int .u64 (Nc:Int),.slice rc.1 rc.2.1 rc.2.2.1,.slice Bc vc.length cc] 26)) from F3.out.trans (G4.out.mono F3.out.size))
 have NC:=Lib.hid (Bl.new_ w4 26 #[.int .i64 Kc,.int .u64 (Nc:Int),.slice rc.1 rc.2.1 rc.2.2.1,.slice Bc vc.length cc])
 have OC:=Lib.hid (O4.out.keep X4.out)
 have OA4:=Lib.hid (OA.out.keep G4.out)
 have NA4:=Lib.hid (NA.out.below' G4.out)
 obtain⟨qc,hqc⟩:∃qc,w4.heap.size=qc:=⟨_,rfl⟩
 rw[hqc] at NC ⊢
 clear X4 O4 G4
 generalize(w4.alloc (.cells #[.int .i64 Kc,.int .u64 (Nc:Int),.slice rc.1 rc.2.1 rc.2.2.1,.slice Bc vc.length cc] 26))=u4 at *
 clear hqc B4
 have zz0:(u4).cell? ⟨w.heap.size,0,none⟩=some (.int .i64 Kv):=(NV.out.below' F4.out).cell_ rfl
 have zz1:(u4).cell? ⟨w.heap.size,1,none⟩=some (.int .u64 (N0:Int)):=(NV.out.below' F4.out).cell_ rfl
 have zz2:(u4).cell? ⟨w.heap.size,2,none⟩=some (.slice r0.1 r0.2.1 r0.2.2.1):=(NV.out.below' F4.out).cell_ rfl
 have zz3:(u4).cell? ⟨w.heap.size,3,none⟩=some (.slice B0 v0.length c0):=(NV.out.below' F4.out).cell_ rfl
 have yy0:(u4).cell? ⟨w.heap.size+1,0,none⟩=some (.int .i64 Kw):=(NW.out.below' F4.out).cell_ rfl
 have yy1:(u4).cell? ⟨w.heap.size+1,1,none⟩=some (.int .u64 (N1:Int)):=(NW.out.below' F4.out).cell_ rfl
 have yy2:(u4).cell? ⟨w.heap.size+1,2,none⟩=some (.slice r1.1 r1.2.1 r1.2.2.1):=(NW.out.below' F4.out).cell_ rfl
 have yy3:(u4).cell? ⟨w.heap.size+1,3,none⟩=some (.slice B1 v1.length c1):=(NW.out.below' F4.out).cell_ rfl
 have X5:=Lib.hid (below_one u4 (.cells #[.int .i64 Kv,.int .u64 (N0:Int),.slice r0.1 r0.2.1 r0.2.2.1,.slice B0 v0.length c0,.int .i64 Kw,.int .u64 (N1:Int),.slice r1.1 r1.2.1 r1.2.2.1,.slice B1 v1.length c1] 26))
 have S5:=Lib.hid (show Sl (u4.alloc (.cells #[.int .i64 Kv,.int .u64 (N0:Int),.slice r0.1 r0.2.1 r0.2.2.1,.slice B0 v0.length c0,.int .i64 Kw,.int .u64 (N1:Int),.slice r1.1 r1.2.1 r1.2.2.1,.slice B1 v1.length c1] 26)) (some ⟨u4.heap.size,0,none⟩) (4*2) (flat [.mk Kv N0 r0 B0 c0 v0,.mk Kw N1 r1 B1 c1 v1]) from Sl.new_ u4 26 [.int .i64 Kv,.int .u64 (N0:Int),.slice r0.1 r0.2.1 r0.2.2.1,.slice B0 v0.length c0,.int .i64 Kw,.int .u64 (N1:Int),.slice r1.1 r1.2.1 r1.2.2.1,.slice B1 v1.length c1])
 have OV5:=Lib.hid ((OV.out.keep (BU.out.trans (F4.out.mono BU.out.size))).keep X5.out)
 have OU5:=Lib.hid ((OU.out.keep (BU.out.trans (F4.out.mono BU.out.size))).keep X5.out)
 have CL:=Lib.hid (List_any (ks:=[.mk Kv N0 r0 B0 c0 v0,.mk Kw N1 r1 B1 c1 v1]) (c:=2) S5.out (Nat.le_refl _) (fun e=>by cases e) (two_kids OV5.out OU5.out) SZ2.out _ (Below.refl _ _))
 go_upto_region 6 with(first
  |(go_at_call 21;(refine CL.out.mono ?_);rintro e w5 ⟨ul,Al,cl,⟨rfl,hol,hbl⟩,hnl,-⟩;simp only[Tv.val,Tv.row];have B5:=Lib.hid (X5.out.trans (hbl.mono X5.out.size));have O5:=Lib.hid hol;have D5:=Lib.hid hnl;clear hbl hol hnl))
 have X6:=Lib.hid (below_one w5 (.cells #[.int .i64 3,.int .u64 0,.slice none 0 0,.slice Al ul.length cl] 26))
 have G6:=Lib.hid (show Below u4.heap.size u4 (w5.alloc (.cells #[.int .i64 3,.int .u64 0,.slice none 0 0,.slice Al ul.length cl] 26)) from B5.out.trans (X6.out.mono B5.out.size))
 have F6:=Lib.hid (show Below U.heap.size U (w5.alloc (.cells #[.int .i64 3,.int .u64 0,.slice none 0 0,.slice Al ul.length cl] 26)) from F4.out.trans (G6.out.mono F4.out.size))
 have NLL:=Lib.hid (Bl.new_ w5 26 #[.int .i64 3,.int .u64 0,.slice none 0 0,.slice Al ul.length cl])
 have OL:=Lib.hid (O5.out.keep X6.out)
 have OA6:=Lib.hid (OA4.out.keep G6.out)
 have OC6:=Lib.hid (OC.out.keep G6.out)
 have NA6:=Lib.hid (NA4.out.below' G6.out)
 have NC6:=Lib.hid (NC.out.below' G6.out)
 have NV6:=Lib.hid (NV.out.below' F6.out)
 have NW6:=Lib.hid (NW.out.below' F6.out)
 have OV6:=Lib.hid (OV.out.keep (BU.out.trans (F6.out.mono BU.out.size)))
 have OU6:=Lib.hid (OU.out.keep (BU.out.trans (F6.out.mono BU.out.size)))
 have HP6:=Lib.hid (HP.out.below (BU.out.trans (F6.out.mono BU.out.size)))
 have DAC:=Lib.hid (D3.out.trans D4.out.symm)
 obtain⟨ql,hql⟩:∃ql,w5.heap.size=ql:=⟨_,rfl⟩
 rw[hql] at NLL ⊢
 clear X6 O5 G6 X5 S5 OV5 OU5 CL OA4 NA4 OA NA OC NC NV NW OV OU HP D3 D4
 generalize(w5.alloc (.cells #[.int .i64 3,.int .u64 0,.slice none 0 0,.slice Al ul.length cl] 26))=u6 at *
 clear hql B5
 refine wp_region_held_drew (S:=fun x=>Below (u6).heap.size (u6) x) (by kernel_rfl) (below_drewN (Below.refl _ _) 1) (fun _=>?_)
 refine take_l 0 (v:=?_) rfl (by kernel_rfl) (by kernel_rfl) (by kernel_rfl) (fun _ _ _ h=>h) (Or.inl ⟨by rfl,?_⟩) (by first|exact BT.out|exact below_drewN (Below.refl _ _) 1) ?_;rotate_left
 ·intro w' hSw
  clear hSw
  go_simp
  all_goals with_reducible rfl
 try simp only[Act.put,List.setIfInBounds_toArray,List.set_cons_zero,List.set_cons_succ]
 refine take_l 2 (v:=?_) rfl (by kernel_rfl) (by kernel_rfl) (by kernel_rfl) (fun _ _ _ h=>h) (Or.inl ⟨by rfl,?_⟩) (by first|exact BT.out|exact below_drewN (Below.refl _ _) 1) ?_;rotate_left
 ·intro w' hSw
  clear hSw
  go_simp
  all_goals with_reducible rfl
 try simp only[Act.put,List.setIfInBounds_toArray,List.set_cons_zero,List.set_cons_succ]
 refine wpAnyH_ready (rs:=[1]) (by kernel_rfl) (by simp) ?_
 refine cons_l rfl (fun K0 hK=>?_) AllReadyH.nil
 go_simp
 (go_at_call 23;(refine(Num_any n HN.out _).mono ?_);rintro e w7 ⟨rfl,hok,hb⟩)
 have BT':=Lib.hid (show Below u6.heap.size u6 _ from((below_drewN (Below.refl u6.heap.size u6) 1):Below u6.heap.size u6 _).trans (hb.mono ((below_drewN (Below.refl u6.heap.size u6) 1):Below u6.heap.size u6 _).size))
 simp only[Tv.val,Tv.row]
 have O7:=Lib.hid hok
 clear hok
 have BT:=Lib.hid BT'.out
 clear hb BT'
 refine hK.out _ _ (by first|exact BT.out|exact below_drewN (Below.refl _ _) 1) (fun _=>?_)
 clear hK K0
 try simp only[Act.put,List.setIfInBounds_toArray,List.set_cons_zero,List.set_cons_succ]
 refine wpAnyH_ready (rs:=[3]) (by kernel_rfl) (by simp) ?_
 refine cons_l rfl (fun K0 hK=>?_) AllReadyH.nil
 go_simp
 (go_at_call 24;(refine(RNum_any n _ HN.out).mono ?_);rintro e w8 ⟨rfl,hok,hb⟩)
 have BT':=Lib.hid (show Below u6.heap.size u6 _ from(BT.out:Below u6.heap.size u6 _).trans (hb.mono (BT.out:Below u6.heap.size u6 _).size))
 simp only[Tv.val,Tv.row]
 have O8:=Lib.hid hok
 have O78:=Lib.hid (O7.out.keep hb)
 clear hok
 have BT:=Lib.hid BT'.out
 clear hb BT'
 refine hK.out _ _ (by first|exact BT.out|exact below_drewN (Below.refl _ _) 1) (fun _=>?_)
 clear hK K0
 try simp only[Act.put,List.setIfInBounds_toArray,List.set_cons_zero,List.set_cons_succ]
 refine wpAnyH_ready (rs:=[4]) (by kernel_rfl) (by simp) ?_
 refine cons_l rfl (fun K0 hK=>?_) AllReadyH.nil
 go_simp
 (go_at_call 22;(refine(Same_eq O78.out O8.out (rfl)).mono ?_);rintro e w9 ⟨rfl,hb⟩)
 have BT':=Lib.hid (show Below u6.heap.size u6 _ from(BT.out:Below u6.heap.size u6 _).trans (hb.mono (BT.out:Below u6.heap.size u6 _).size))
 have BT:=Lib.hid BT'.out
 clear hb BT'
 refine hK.out _ _ (by first|exact BT.out|exact below_drewN (Below.refl _ _) 1) (fun _=>?_)
 clear hK K0
 try simp only[Act.put,List.setIfInBounds_toArray,List.set_cons_zero,List.set_cons_succ]
 refine take_l 5 (v:=?_) rfl (by kernel_rfl) (by kernel_rfl) (by kernel_rfl) (fun _ _ _ h=>h) (Or.inl ⟨by rfl,?_⟩) (by first|exact BT.out|exact below_drewN (Below.refl _ _) 1) ?_;rotate_left
 ·intro w' hSw
  clear hSw
  go_simp
  all_goals with_reducible rfl
 try simp only[Act.put,List.setIfInBounds_toArray,List.set_cons_zero,List.set_cons_succ]
 refine take_l 6 (v:=?_) rfl (by kernel_rfl) (by kernel_rfl) (by kernel_rfl) (fun _ _ _ h=>h) (Or.inl ⟨by rfl,?_⟩) (by first|exact BT.out|exact below_drewN (Below.refl _ _) 1) ?_;rotate_left
 ·intro w' hSw
  clear hSw
  go_simp
  all_goals with_reducible rfl
 try simp only[Act.put,List.setIfInBounds_toArray,List.set_cons_zero,List.set_cons_succ]
 refine take_l 8 (v:=?_) rfl (by kernel_rfl) (by kernel_rfl) (by kernel_rfl) (fun _ _ _ h=>h) (Or.inl ⟨by rfl,?_⟩) (by first|exact BT.out|exact below_drewN (Below.refl _ _) 1) ?_;rotate_left
 ·intro w' hSw
  clear hSw
  go_simp
  all_goals with_reducible rfl
 try simp only[Act.put,List.setIfInBounds_toArray,List.set_cons_zero,List.set_cons_succ]
 refine wpAnyH_ready (rs:=[7]) (by kernel_rfl) (by simp) ?_
 refine cons_l rfl (fun K0 hK=>?_) AllReadyH.nil
 go_simp
 (go_at_call 25;(refine(Bytes_any (HP6.out.below BT.out) (by exact HM.out)).mono ?_);rintro e w10 ⟨A10,c10,⟨rfl,hok,hb⟩,-⟩)
 have BT':=Lib.hid (show Below u6.heap.size u6 _ from(BT.out:Below u6.heap.size u6 _).trans (hb.mono (BT.out:Below u6.heap.size u6 _).size))
 simp only[Tv.val,Tv.row]
 have O10:=Lib.hid hok
 clear hok
 have BT:=Lib.hid BT'.out
 clear hb BT'
 refine hK.out _ _ (by first|exact BT.out|exact below_drewN (Below.refl _ _) 1) (fun _=>?_)
 clear hK K0
 try simp only[Act.put,List.setIfInBounds_toArray,List.set_cons_zero,List.set_cons_succ]
 refine wpAnyH_ready (rs:=[9]) (by kernel_rfl) (by simp) ?_
 refine cons_l rfl (fun K0 hK=>?_) AllReadyH.nil
 go_simp
 (go_at_call 26;(refine(RBytes_any _ (HP6.out.below BT.out)).mono ?_);rintro e w11 ⟨rfl,hok,hb⟩)
 have BT':=Lib.hid (show Below u6.heap.size u6 _ from(BT.out:Below u6.heap.size u6 _).trans (hb.mono (BT.out:Below u6.heap.size u6 _).size))
 simp only[Tv.val,Tv.row]
 have O11:=Lib.hid hok
 have O1011:=Lib.hid (O10.out.keep hb)
 clear hok
 have BT:=Lib.hid BT'.out
 clear hb BT'
 refine hK.out _ _ (by first|exact BT.out|exact below_drewN (Below.refl _ _) 1) (fun _=>?_)
 clear hK K0
 try simp only[Act.put,List.setIfInBounds_toArray,List.set_cons_zero,List.set_cons_succ]
 refine wpAnyH_ready (rs:=[10]) (by kernel_rfl) (by simp) ?_
 refine cons_l rfl (fun K0 hK=>?_) AllReadyH.nil
 go_simp
 (go_at_call 22;(refine(Same_eq O1011.out O11.out (rfl)).mono ?_);rintro e w12 ⟨rfl,hb⟩)
 have BT':=Lib.hid (show Below u6.heap.size u6 _ from(BT.out:Below u6.heap.size u6 _).trans (hb.mono (BT.out:Below u6.heap.size u6 _).size))
 have BT:=Lib.hid BT'.out
 clear hb BT'
 refine hK.out _ _ (by first|exact BT.out|exact below_drewN (Below.refl _ _) 1) (fun _=>?_)
 clear hK K0
 try simp only[Act.put,List.setIfInBounds_toArray,List.set_cons_zero,List.set_cons_succ]
 refine take_l 11 (v:=?_) rfl (by kernel_rfl) (by kernel_rfl) (by kernel_rfl) (fun _ _ _ h=>h) (Or.inl ⟨by rfl,?_⟩) (by first|exact BT.out|exact below_drewN (Below.refl _ _) 1) ?_;rotate_left
 ·intro w' hSw
  clear hSw
  go_simp
  all_goals with_reducible rfl
 try simp only[Act.put,List.setIfInBounds_toArray,List.set_cons_zero,List.set_cons_succ]
 refine take_l 12 (v:=?_) rfl (by kernel_rfl) (by kernel_rfl) (by kernel_rfl) (fun _ _ _ h=>h) (Or.inl ⟨by rfl,?_⟩) (by first|exact BT.out|exact below_drewN (Below.refl _ _) 1) ?_;rotate_left
 ·intro w' hSw
  clear hSw
  go_simp
  all_goals with_reducible rfl
 try simp only[Act.put,List.setIfInBounds_toArray,List.set_cons_zero,List.set_cons_succ]
 refine take_l 13 (v:=?_) rfl (by kernel_rfl) (by kernel_rfl) (by kernel_rfl) (fun _ _ _ h=>h) (Or.inl ⟨by rfl,?_⟩) (by first|exact BT.out|exact below_drewN (Below.refl _ _) 1) ?_;rotate_left
 ·intro w' hSw
  clear hSw
  go_simp
  all_goals with_reducible rfl
 try simp only[Act.put,List.setIfInBounds_toArray,List.set_cons_zero,List.set_cons_succ]
 refine take_l 15 (v:=?_) rfl (by kernel_rfl) (by kernel_rfl) (by kernel_rfl) (fun _ _ _ h=>h) (Or.inl ⟨by rfl,?_⟩) (by first|exact BT.out|exact below_drewN (Below.refl _ _) 1) ?_;rotate_left
 ·intro w' hSw
  clear hSw
  go_simp
  all_goals with_reducible rfl
 try simp only[Act.put,List.setIfInBounds_toArray,List.set_cons_zero,List.set_cons_succ]
 refine wpAnyH_ready (rs:=[14,16]) (by kernel_rfl) (by simp) ?_
 refine cons_l rfl (fun K0 hK=>?_) (cons_l rfl (fun K0 hK=>?_) AllReadyH.nil)
 ·go_simp
  (go_at_call 27;(refine(Text_any s _).mono ?_);rintro e w13 ⟨rt,hrt,rfl,hok,hb⟩)
  simp only[Tv.val,Tv.row]
  have BT':=Lib.hid (show Below u6.heap.size u6 _ from BT.out.trans (hb.mono BT.out.size))
  have OT:=Lib.hid hok
  have DT:=Lib.hid hrt
  have BT:=Lib.hid BT'.out
  clear hb BT' hok hrt
  refine hK.out _ _ (by first|exact BT.out|exact below_drewN (Below.refl _ _) 1) (fun _=>?_)
  clear hK K0
  try simp only[Act.put,List.setIfInBounds_toArray,List.set_cons_zero,List.set_cons_succ]
  refine wpAnyH_ready (rs:=[16]) (by kernel_rfl) (by simp) ?_
  refine cons_l rfl (fun K0 hK=>?_) AllReadyH.nil
  obtain⟨C,hC⟩:∃C,grownCap w13 s.size 0 5=C:=⟨_,rfl⟩
  obtain⟨V,hV⟩:∃V,Lib.bytesWorld w13 5 s=V:=⟨_,rfl⟩
  have PV:=Lib.hid (show Pc V (some ⟨w13.heap.size,0,none⟩,s.size,C,sb s) from by rw[←hV,←hC];exact sb_pc w13 s)
  have BV:=Lib.hid (show Below w13.heap.size w13 V from by rw[←hV];exact sb_below w13 s)
  have RR:(convert 9 23 (.string s)).run Try.prog w13=.ok (.slice (some ⟨w13.heap.size,0,none⟩) s.size C) V:=by rw[←hV,←hC];exact run_sb w13 s
  clear hV hC
  go_simp
  have OT:=Lib.hid (OT.out.keep BV.out)
  have BT':=Lib.hid (show Below u6.heap.size u6 _ from BT.out.trans (BV.out.mono BT.out.size))
  have BT:=Lib.hid BT'.out
  clear BT' RR
  refine hK.out _ _ (by first|exact BT.out|exact below_drewN (Below.refl _ _) 1) (fun _=>?_)
  clear hK K0
  try simp only[Act.put,List.setIfInBounds_toArray,List.set_cons_zero,List.set_cons_succ]
  refine wpAnyH_ready (rs:=[17]) (by kernel_rfl) (by simp) ?_
  refine cons_l rfl (fun K0 hK=>?_) AllReadyH.nil
  go_simp
  (go_at_call 26;(refine(RBytes_any _ PV.out).mono ?_);rintro e w15 ⟨rfl,hok,hb⟩)
  have BT':=Lib.hid (show Below u6.heap.size u6 _ from(BT.out:Below u6.heap.size u6 _).trans (hb.mono (BT.out:Below u6.heap.size u6 _).size))
  simp only[Tv.val,Tv.row]
  have O15:=Lib.hid hok
  have OT15:=Lib.hid (OT.out.keep hb)
  clear hok
  have BT:=Lib.hid BT'.out
  clear hb BT'
  refine hK.out _ _ (by first|exact BT.out|exact below_drewN (Below.refl _ _) 1) (fun _=>?_)
  clear hK K0
  try simp only[Act.put,List.setIfInBounds_toArray,List.set_cons_zero,List.set_cons_succ]
  refine wpAnyH_ready (rs:=[18]) (by kernel_rfl) (by simp) ?_
  refine cons_l rfl (fun K0 hK=>?_) AllReadyH.nil
  go_simp
  (go_at_call 22;(refine(Same_eq OT15.out O15.out (by rw[nd,nd,DT.out])).mono ?_);rintro e w16 ⟨rfl,hb⟩)
  have BT':=Lib.hid (show Below u6.heap.size u6 _ from(BT.out:Below u6.heap.size u6 _).trans (hb.mono (BT.out:Below u6.heap.size u6 _).size))
  have BT:=Lib.hid BT'.out
  clear hb BT'
  refine hK.out _ _ (by first|exact BT.out|exact below_drewN (Below.refl _ _) 1) (fun _=>?_)
  clear hK K0
  try simp only[Act.put,List.setIfInBounds_toArray,List.set_cons_zero,List.set_cons_succ]
  refine take_l 19 (v:=?_) rfl (by kernel_rfl) (by kernel_rfl) (by kernel_rfl) (fun _ _ _ h=>h) (Or.inl ⟨by rfl,?_⟩) (by first|exact BT.out|exact below_drewN (Below.refl _ _) 1) ?_;rotate_left
  ·intro w' hSw
   clear hSw
   go_simp
   all_goals with_reducible rfl
  try simp only[Act.put,List.setIfInBounds_toArray,List.set_cons_zero,List.set_cons_succ]
  refine take_l 20 (v:=?_) rfl (by kernel_rfl) (by kernel_rfl) (by kernel_rfl) (fun _ _ _ h=>h) (Or.inl ⟨by rfl,?_⟩) (by first|exact BT.out|exact below_drewN (Below.refl _ _) 1) ?_;rotate_left
  ·intro w' hSw
   clear hSw
   go_simp
   all_goals with_reducible rfl
  try simp only[Act.put,List.setIfInBounds_toArray,List.set_cons_zero,List.set_cons_succ]
  refine take_l 21 (v:=?_) rfl (by kernel_rfl) (by kernel_rfl) (by kernel_rfl) (fun _ _ _ h=>h) (Or.inl ⟨by rfl,?_⟩) (by first|exact BT.out|exact below_drewN (Below.refl _ _) 1) ?_;rotate_left
  ·intro w' hSw
   have zz0:(w').cell? ⟨qa,0,none⟩=some (.int .i64 Ka):=(NA6.out.below' hSw).cell_ rfl
   have zz1:(w').cell? ⟨qa,1,none⟩=some (.int .u64 (Na:Int)):=(NA6.out.below' hSw).cell_ rfl
   have zz2:(w').cell? ⟨qa,2,none⟩=some (.slice ra.1 ra.2.1 ra.2.2.1):=(NA6.out.below' hSw).cell_ rfl
   have zz3:(w').cell? ⟨qa,3,none⟩=some (.slice Ba va.length ca):=(NA6.out.below' hSw).cell_ rfl
   clear hSw
   go_simp
   all_goals with_reducible rfl
  try simp only[Act.put,List.setIfInBounds_toArray,List.set_cons_zero,List.set_cons_succ]
  refine take_l 22 (v:=?_) rfl (by kernel_rfl) (by kernel_rfl) (by kernel_rfl) (fun _ _ _ h=>h) (Or.inl ⟨by rfl,?_⟩) (by first|exact BT.out|exact below_drewN (Below.refl _ _) 1) ?_;rotate_left
  ·intro w' hSw
   have zz0:(w').cell? ⟨qc,0,none⟩=some (.int .i64 Kc):=(NC6.out.below' hSw).cell_ rfl
   have zz1:(w').cell? ⟨qc,1,none⟩=some (.int .u64 (Nc:Int)):=(NC6.out.below' hSw).cell_ rfl
   have zz2:(w').cell? ⟨qc,2,none⟩=some (.slice rc.1 rc.2.1 rc.2.2.1):=(NC6.out.below' hSw).cell_ rfl
   have zz3:(w').cell? ⟨qc,3,none⟩=some (.slice Bc vc.length cc):=(NC6.out.below' hSw).cell_ rfl
   clear hSw
   go_simp
   all_goals with_reducible rfl
  try simp only[Act.put,List.setIfInBounds_toArray,List.set_cons_zero,List.set_cons_succ]
  refine wpAnyH_ready (rs:=[23]) (by kernel_rfl) (by simp) ?_
  refine cons_l rfl (fun K0 hK=>?_) AllReadyH.nil
  go_simp
  (go_at_call 22;(refine(Same_eq (OA6.out.keep BT.out) (OC6.out.keep BT.out) DAC.out).mono ?_);rintro e w17 ⟨rfl,hb⟩)
  have BT':=Lib.hid (show Below u6.heap.size u6 _ from(BT.out:Below u6.heap.size u6 _).trans (hb.mono (BT.out:Below u6.heap.size u6 _).size))
  have BT:=Lib.hid BT'.out
  clear hb BT'
  refine hK.out _ _ (by first|exact BT.out|exact below_drewN (Below.refl _ _) 1) (fun _=>?_)
  clear hK K0
  try simp only[Act.put,List.setIfInBounds_toArray,List.set_cons_zero,List.set_cons_succ]
  refine take_l 24 (v:=?_) rfl (by kernel_rfl) (by kernel_rfl) (by kernel_rfl) (fun _ _ _ h=>h) (Or.inl ⟨by rfl,?_⟩) (by first|exact BT.out|exact below_drewN (Below.refl _ _) 1) ?_;rotate_left
  ·intro w' hSw
   clear hSw
   go_simp
   all_goals with_reducible rfl
  try simp only[Act.put,List.setIfInBounds_toArray,List.set_cons_zero,List.set_cons_succ]
  refine take_l 25 (v:=?_) rfl (by kernel_rfl) (by kernel_rfl) (by kernel_rfl) (fun _ _ _ h=>h) (Or.inl ⟨by rfl,?_⟩) (by first|exact BT.out|exact below_drewN (Below.refl _ _) 1) ?_;rotate_left
  ·intro w' hSw
   clear hSw
   go_simp
   all_goals with_reducible rfl
  try simp only[Act.put,List.setIfInBounds_toArray,List.set_cons_zero,List.set_cons_succ]
  refine take_l 26 (v:=?_) rfl (by kernel_rfl) (by kernel_rfl) (by kernel_rfl) (fun _ _ _ h=>h) (Or.inl ⟨by rfl,?_⟩) (by first|exact BT.out|exact below_drewN (Below.refl _ _) 1) ?_;rotate_left
  ·intro w' hSw
   clear hSw
   go_simp
   all_goals with_reducible rfl
  try simp only[Act.put,List.setIfInBounds_toArray,List.set_cons_zero,List.set_cons_succ]
  refine take_l 27 (v:=?_) rfl (by kernel_rfl) (by kernel_rfl) (by kernel_rfl) (fun _ _ _ h=>h) (Or.inl ⟨by rfl,?_⟩) (by first|exact BT.out|exact below_drewN (Below.refl _ _) 1) ?_;rotate_left
  ·intro w' hSw
   clear hSw
   go_simp
   all_goals with_reducible rfl
  try simp only[Act.put,List.setIfInBounds_toArray,List.set_cons_zero,List.set_cons_succ]
  refine take_l 28 (v:=?_) rfl (by kernel_rfl) (by kernel_rfl) (by kernel_rfl) (fun _ _ _ h=>h) (Or.inl ⟨by rfl,?_⟩) (by first|exact BT.out|exact below_drewN (Below.refl _ _) 1) ?_;rotate_left
  ·intro w' hSw
   clear hSw
   go_simp
   all_goals with_reducible rfl
  try simp only[Act.put,List.setIfInBounds_toArray,List.set_cons_zero,List.set_cons_succ]
  refine take_l 29 (v:=?_) rfl (by kernel_rfl) (by kernel_rfl) (by kernel_rfl) (fun _ _ _ h=>h) (Or.inl ⟨by rfl,?_⟩) (by first|exact BT.out|exact below_drewN (Below.refl _ _) 1) ?_;rotate_left
  ·intro w' hSw
   clear hSw
   go_simp
   all_goals with_reducible rfl
  try simp only[Act.put,List.setIfInBounds_toArray,List.set_cons_zero,List.set_cons_succ]
  refine take_l 30 (v:=?_) rfl (by kernel_rfl) (by kernel_rfl) (by kernel_rfl) (fun _ _ _ h=>h) (Or.inl ⟨by rfl,?_⟩) (by first|exact BT.out|exact below_drewN (Below.refl _ _) 1) ?_;rotate_left
  ·intro w' hSw
   clear hSw
   go_simp
   all_goals with_reducible rfl
  try simp only[Act.put,List.setIfInBounds_toArray,List.set_cons_zero,List.set_cons_succ]
  refine take_l 31 (v:=?_) rfl (by kernel_rfl) (by kernel_rfl) (by kernel_rfl) (fun _ _ _ h=>h) (Or.inl ⟨by rfl,?_⟩) (by first|exact BT.out|exact below_drewN (Below.refl _ _) 1) ?_;rotate_left
  ·intro w' hSw
   have zz0:(w').cell? ⟨ql,0,none⟩=some (.int .i64 3):=(NLL.out.below' hSw).cell_ rfl
   have zz1:(w').cell? ⟨ql,1,none⟩=some (.int .u64 0):=(NLL.out.below' hSw).cell_ rfl
   have zz2:(w').cell? ⟨ql,2,none⟩=some (.slice none 0 0):=(NLL.out.below' hSw).cell_ rfl
   have zz3:(w').cell? ⟨ql,3,none⟩=some (.slice Al ul.length cl):=(NLL.out.below' hSw).cell_ rfl
   clear hSw
   go_simp
   all_goals with_reducible rfl
  try simp only[Act.put,List.setIfInBounds_toArray,List.set_cons_zero,List.set_cons_succ]
  refine take_l 32 (v:=?_) rfl (by kernel_rfl) (by kernel_rfl) (by kernel_rfl) (fun _ _ _ h=>h) (Or.inl ⟨by rfl,?_⟩) (by first|exact BT.out|exact below_drewN (Below.refl _ _) 1) ?_;rotate_left
  ·intro w' hSw
   have zz0:(w').cell? ⟨w.heap.size,0,none⟩=some (.int .i64 Kv):=(NV6.out.below' hSw).cell_ rfl
   have zz1:(w').cell? ⟨w.heap.size,1,none⟩=some (.int .u64 (N0:Int)):=(NV6.out.below' hSw).cell_ rfl
   have zz2:(w').cell? ⟨w.heap.size,2,none⟩=some (.slice r0.1 r0.2.1 r0.2.2.1):=(NV6.out.below' hSw).cell_ rfl
   have zz3:(w').cell? ⟨w.heap.size,3,none⟩=some (.slice B0 v0.length c0):=(NV6.out.below' hSw).cell_ rfl
   clear hSw
   go_simp
   all_goals with_reducible rfl
  try simp only[Act.put,List.setIfInBounds_toArray,List.set_cons_zero,List.set_cons_succ]
  refine take_l 33 (v:=?_) rfl (by kernel_rfl) (by kernel_rfl) (by kernel_rfl) (fun _ _ _ h=>h) (Or.inl ⟨by rfl,?_⟩) (by first|exact BT.out|exact below_drewN (Below.refl _ _) 1) ?_;rotate_left
  ·intro w' hSw
   have zz0:(w').cell? ⟨w.heap.size+1,0,none⟩=some (.int .i64 Kw):=(NW6.out.below' hSw).cell_ rfl
   have zz1:(w').cell? ⟨w.heap.size+1,1,none⟩=some (.int .u64 (N1:Int)):=(NW6.out.below' hSw).cell_ rfl
   have zz2:(w').cell? ⟨w.heap.size+1,2,none⟩=some (.slice r1.1 r1.2.1 r1.2.2.1):=(NW6.out.below' hSw).cell_ rfl
   have zz3:(w').cell? ⟨w.heap.size+1,3,none⟩=some (.slice B1 v1.length c1):=(NW6.out.below' hSw).cell_ rfl
   clear hSw
   go_simp
   all_goals with_reducible rfl
  try simp only[Act.put,List.setIfInBounds_toArray,List.set_cons_zero,List.set_cons_succ]
  refine wpAnyH_ready (rs:=[34]) (by kernel_rfl) (by simp) ?_
  refine cons_l rfl (fun K0 hK=>?_) AllReadyH.nil
  go_simp
  have X17:=Lib.hid (below_one w17 (.cells #[.int .i64 Kv,.int .u64 (N0:Int),.slice r0.1 r0.2.1 r0.2.2.1,.slice B0 v0.length c0,.int .i64 Kw,.int .u64 (N1:Int),.slice r1.1 r1.2.1 r1.2.2.1,.slice B1 v1.length c1] 26))
  have S17:=Lib.hid (show Sl (w17.alloc (.cells #[.int .i64 Kv,.int .u64 (N0:Int),.slice r0.1 r0.2.1 r0.2.2.1,.slice B0 v0.length c0,.int .i64 Kw,.int .u64 (N1:Int),.slice r1.1 r1.2.1 r1.2.2.1,.slice B1 v1.length c1] 26)) (some ⟨w17.heap.size,0,none⟩) (4*2) (flat [.mk Kv N0 r0 B0 c0 v0,.mk Kw N1 r1 B1 c1 v1]) from Sl.new_ w17 26 [.int .i64 Kv,.int .u64 (N0:Int),.slice r0.1 r0.2.1 r0.2.2.1,.slice B0 v0.length c0,.int .i64 Kw,.int .u64 (N1:Int),.slice r1.1 r1.2.1 r1.2.2.1,.slice B1 v1.length c1])
  have BT':=Lib.hid (show Below u6.heap.size u6 (w17.alloc (.cells #[.int .i64 Kv,.int .u64 (N0:Int),.slice r0.1 r0.2.1 r0.2.2.1,.slice B0 v0.length c0,.int .i64 Kw,.int .u64 (N1:Int),.slice r1.1 r1.2.1 r1.2.2.1,.slice B1 v1.length c1] 26)) from BT.out.trans (X17.out.mono BT.out.size))
  have BT:=Lib.hid BT'.out
  clear BT'
  refine hK.out _ _ (by first|exact BT.out|exact below_drewN (Below.refl _ _) 1) (fun _=>?_)
  clear hK K0
  try simp only[Act.put,List.setIfInBounds_toArray,List.set_cons_zero,List.set_cons_succ]
  refine wpAnyH_ready (rs:=[35]) (by kernel_rfl) (by simp) ?_
  refine cons_l rfl (fun K0 hK=>?_) AllReadyH.nil
  go_simp
  (go_at_call 28;(refine(RList_any (ks:=[.mk Kv N0 r0 B0 c0 v0,.mk Kw N1 r1 B1 c1 v1]) (c:=2) _ S17.out (Nat.le_refl _) (fun e=>by cases e) (two_kids (OV6.out.keep BT.out) (OU6.out.keep BT.out)) (by show 2≤1000000;decide)).mono ?_);rintro e w18 ⟨rfl,hok,hb⟩)
  have BT':=Lib.hid (show Below u6.heap.size u6 _ from(BT.out:Below u6.heap.size u6 _).trans (hb.mono (BT.out:Below u6.heap.size u6 _).size))
  simp only[Tv.val,Tv.row]
  have O18:=Lib.hid hok
  clear hok
  have BT:=Lib.hid BT'.out
  clear hb BT'
  refine hK.out _ _ (by first|exact BT.out|exact below_drewN (Below.refl _ _) 1) (fun _=>?_)
  clear hK K0
  try simp only[Act.put,List.setIfInBounds_toArray,List.set_cons_zero,List.set_cons_succ]
  refine wpAnyH_ready (rs:=[36]) (by kernel_rfl) (by simp) ?_
  refine cons_l rfl (fun K0 hK=>?_) AllReadyH.nil
  go_simp
  (go_at_call 22;(refine(Same_eq (OL.out.keep BT.out) O18.out (by rw[nd,nd,D5.out])).mono ?_);rintro e w19 ⟨rfl,hb⟩)
  have BT':=Lib.hid (show Below u6.heap.size u6 _ from(BT.out:Below u6.heap.size u6 _).trans (hb.mono (BT.out:Below u6.heap.size u6 _).size))
  have BT:=Lib.hid BT'.out
  clear hb BT'
  refine hK.out _ _ (by first|exact BT.out|exact below_drewN (Below.refl _ _) 1) (fun _=>?_)
  clear hK K0
  try simp only[Act.put,List.setIfInBounds_toArray,List.set_cons_zero,List.set_cons_succ]
  refine take_l 37 (v:=?_) rfl (by kernel_rfl) (by kernel_rfl) (by kernel_rfl) (fun _ _ _ h=>h) (Or.inl ⟨by rfl,?_⟩) (by first|exact BT.out|exact below_drewN (Below.refl _ _) 1) ?_;rotate_left
  ·intro w' hSw
   clear hSw
   go_simp
   all_goals with_reducible rfl
  try simp only[Act.put,List.setIfInBounds_toArray,List.set_cons_zero,List.set_cons_succ]
  refine take_l 38 (v:=?_) rfl (by kernel_rfl) (by kernel_rfl) (by kernel_rfl) (fun _ _ _ h=>h) (Or.inl ⟨by rfl,?_⟩) (by first|exact BT.out|exact below_drewN (Below.refl _ _) 1) ?_;rotate_left
  ·intro w' hSw
   clear hSw
   go_simp
   all_goals with_reducible rfl
  try simp only[Act.put,List.setIfInBounds_toArray,List.set_cons_zero,List.set_cons_succ]
  refine take_l 39 (v:=?_) rfl (by kernel_rfl) (by kernel_rfl) (by kernel_rfl) (fun _ _ _ h=>h) (Or.inl ⟨by rfl,?_⟩) (by first|exact BT.out|exact below_drewN (Below.refl _ _) 1) ?_;rotate_left
  ·intro w' hSw
   have zz0:(w').cell? ⟨w.heap.size,0,none⟩=some (.int .i64 Kv):=(NV6.out.below' hSw).cell_ rfl
   have zz1:(w').cell? ⟨w.heap.size,1,none⟩=some (.int .u64 (N0:Int)):=(NV6.out.below' hSw).cell_ rfl
   have zz2:(w').cell? ⟨w.heap.size,2,none⟩=some (.slice r0.1 r0.2.1 r0.2.2.1):=(NV6.out.below' hSw).cell_ rfl
   have zz3:(w').cell? ⟨w.heap.size,3,none⟩=some (.slice B0 v0.length c0):=(NV6.out.below' hSw).cell_ rfl
   clear hSw
   go_simp
   all_goals with_reducible rfl
  try simp only[Act.put,List.setIfInBounds_toArray,List.set_cons_zero,List.set_cons_succ]
  refine take_l 40 (v:=?_) rfl (by kernel_rfl) (by kernel_rfl) (by kernel_rfl) (fun _ _ _ h=>h) (Or.inl ⟨by rfl,?_⟩) (by first|exact BT.out|exact below_drewN (Below.refl _ _) 1) ?_;rotate_left
  ·intro w' hSw
   have zz0:(w').cell? ⟨w.heap.size+1,0,none⟩=some (.int .i64 Kw):=(NW6.out.below' hSw).cell_ rfl
   have zz1:(w').cell? ⟨w.heap.size+1,1,none⟩=some (.int .u64 (N1:Int)):=(NW6.out.below' hSw).cell_ rfl
   have zz2:(w').cell? ⟨w.heap.size+1,2,none⟩=some (.slice r1.1 r1.2.1 r1.2.2.1):=(NW6.out.below' hSw).cell_ rfl
   have zz3:(w').cell? ⟨w.heap.size+1,3,none⟩=some (.slice B1 v1.length c1):=(NW6.out.below' hSw).cell_ rfl
   clear hSw
   go_simp
   all_goals with_reducible rfl
  try simp only[Act.put,List.setIfInBounds_toArray,List.set_cons_zero,List.set_cons_succ]
  refine take_l 42 (v:=?_) rfl (by kernel_rfl) (by kernel_rfl) (by kernel_rfl) (fun _ _ _ h=>h) (Or.inl ⟨by rfl,?_⟩) (by first|exact BT.out|exact below_drewN (Below.refl _ _) 1) ?_;rotate_left
  ·intro w' hSw
   have zz0:(w').cell? ⟨w.heap.size,0,none⟩=some (.int .i64 Kv):=(NV6.out.below' hSw).cell_ rfl
   have zz1:(w').cell? ⟨w.heap.size,1,none⟩=some (.int .u64 (N0:Int)):=(NV6.out.below' hSw).cell_ rfl
   have zz2:(w').cell? ⟨w.heap.size,2,none⟩=some (.slice r0.1 r0.2.1 r0.2.2.1):=(NV6.out.below' hSw).cell_ rfl
   have zz3:(w').cell? ⟨w.heap.size,3,none⟩=some (.slice B0 v0.length c0):=(NV6.out.below' hSw).cell_ rfl
   clear hSw
   go_simp
   all_goals with_reducible rfl
  try simp only[Act.put,List.setIfInBounds_toArray,List.set_cons_zero,List.set_cons_succ]
  refine take_l 43 (v:=?_) rfl (by kernel_rfl) (by kernel_rfl) (by kernel_rfl) (fun _ _ _ h=>h) (Or.inl ⟨by rfl,?_⟩) (by first|exact BT.out|exact below_drewN (Below.refl _ _) 1) ?_;rotate_left
  ·intro w' hSw
   have zz0:(w').cell? ⟨w.heap.size+1,0,none⟩=some (.int .i64 Kw):=(NW6.out.below' hSw).cell_ rfl
   have zz1:(w').cell? ⟨w.heap.size+1,1,none⟩=some (.int .u64 (N1:Int)):=(NW6.out.below' hSw).cell_ rfl
   have zz2:(w').cell? ⟨w.heap.size+1,2,none⟩=some (.slice r1.1 r1.2.1 r1.2.2.1):=(NW6.out.below' hSw).cell_ rfl
   have zz3:(w').cell? ⟨w.heap.size+1,3,none⟩=some (.slice B1 v1.length c1):=(NW6.out.below' hSw).cell_ rfl
   clear hSw
   go_simp
   all_goals with_reducible rfl
  try simp only[Act.put,List.setIfInBounds_toArray,List.set_cons_zero,List.set_cons_succ]
  refine wpAnyH_ready (rs:=[41]) (by kernel_rfl) (by simp) ?_
  refine cons_l rfl (fun K0 hK=>?_) AllReadyH.nil
  go_simp
  (go_at_call 29;(refine(Same_any (OV6.out.keep BT.out) (OU6.out.keep BT.out) _ (Below.refl _ _)).mono ?_);rintro e w20 ⟨rfl,hb⟩)
  have BT':=Lib.hid (show Below u6.heap.size u6 _ from(BT.out:Below u6.heap.size u6 _).trans (hb.mono (BT.out:Below u6.heap.size u6 _).size))
  have BT:=Lib.hid BT'.out
  clear hb BT'
  refine hK.out _ _ (by first|exact BT.out|exact below_drewN (Below.refl _ _) 1) (fun _=>?_)
  clear hK K0
  try simp only[Act.put,List.setIfInBounds_toArray,List.set_cons_zero,List.set_cons_succ]
  refine wpAnyH_ready (rs:=[44]) (by kernel_rfl) (by simp) ?_
  refine cons_l rfl (fun K0 hK=>?_) AllReadyH.nil
  go_simp
  (go_at_call 22;(refine(RSame_any (OV6.out.keep BT.out) (OU6.out.keep BT.out) _ (Below.refl _ _)).mono ?_);rintro e w21 ⟨rfl,hb⟩)
  have BT':=Lib.hid (show Below u6.heap.size u6 _ from(BT.out:Below u6.heap.size u6 _).trans (hb.mono (BT.out:Below u6.heap.size u6 _).size))
  have BT:=Lib.hid BT'.out
  clear hb BT'
  refine hK.out _ _ (by first|exact BT.out|exact below_drewN (Below.refl _ _) 1) (fun _=>?_)
  clear hK K0
  try simp only[Act.put,List.setIfInBounds_toArray,List.set_cons_zero,List.set_cons_succ]
  refine take_l 45 (v:=?_) rfl (by kernel_rfl) (by kernel_rfl) (by kernel_rfl) (fun _ _ _ h=>h) (Or.inl ⟨by rfl,?_⟩) (by first|exact BT.out|exact below_drewN (Below.refl _ _) 1) ?_;rotate_left
  ·intro w' hSw
   clear hSw
   go_simp
   all_goals with_reducible rfl
  try simp only[Act.put,List.setIfInBounds_toArray,List.set_cons_zero,List.set_cons_succ]
  refine take_l 46 (v:=?_) rfl (by kernel_rfl) (by kernel_rfl) (by kernel_rfl) (fun _ _ _ h=>h) (Or.inl ⟨by rfl,?_⟩) (by first|exact BT.out|exact below_drewN (Below.refl _ _) 1) ?_;rotate_left
  ·intro w' hSw
   clear hSw
   go_simp
   all_goals with_reducible rfl
  try simp only[Act.put,List.setIfInBounds_toArray,List.set_cons_zero,List.set_cons_succ]
  refine take_l 47 (v:=?_) rfl (by kernel_rfl) (by kernel_rfl) (by kernel_rfl) (fun _ _ _ h=>h) (Or.inl ⟨by rfl,?_⟩) (by first|exact BT.out|exact below_drewN (Below.refl _ _) 1) ?_;rotate_left
  ·intro w' hSw
   clear hSw
   go_simp
   all_goals with_reducible rfl
  try simp only[Act.put,List.setIfInBounds_toArray,List.set_cons_zero,List.set_cons_succ]
  refine take_l 48 (v:=?_) rfl (by kernel_rfl) (by kernel_rfl) (by kernel_rfl) (fun _ _ _ h=>h) (Or.inl ⟨by rfl,?_⟩) (by first|exact BT.out|exact below_drewN (Below.refl _ _) 1) ?_;rotate_left
  ·intro w' hSw
   have zz0:(w').cell? ⟨w.heap.size,0,none⟩=some (.int .i64 Kv):=(NV6.out.below' hSw).cell_ rfl
   have zz1:(w').cell? ⟨w.heap.size,1,none⟩=some (.int .u64 (N0:Int)):=(NV6.out.below' hSw).cell_ rfl
   have zz2:(w').cell? ⟨w.heap.size,2,none⟩=some (.slice r0.1 r0.2.1 r0.2.2.1):=(NV6.out.below' hSw).cell_ rfl
   have zz3:(w').cell? ⟨w.heap.size,3,none⟩=some (.slice B0 v0.length c0):=(NV6.out.below' hSw).cell_ rfl
   clear hSw
   go_simp
   all_goals with_reducible rfl
  try simp only[Act.put,List.setIfInBounds_toArray,List.set_cons_zero,List.set_cons_succ]
  refine take_l 49 (v:=?_) rfl (by kernel_rfl) (by kernel_rfl) (by kernel_rfl) (fun _ _ _ h=>h) (Or.inl ⟨by rfl,?_⟩) (by first|exact BT.out|exact below_drewN (Below.refl _ _) 1) ?_;rotate_left
  ·intro w' hSw
   have zz0:(w').cell? ⟨w.heap.size,0,none⟩=some (.int .i64 Kv):=(NV6.out.below' hSw).cell_ rfl
   have zz1:(w').cell? ⟨w.heap.size,1,none⟩=some (.int .u64 (N0:Int)):=(NV6.out.below' hSw).cell_ rfl
   have zz2:(w').cell? ⟨w.heap.size,2,none⟩=some (.slice r0.1 r0.2.1 r0.2.2.1):=(NV6.out.below' hSw).cell_ rfl
   have zz3:(w').cell? ⟨w.heap.size,3,none⟩=some (.slice B0 v0.length c0):=(NV6.out.below' hSw).cell_ rfl
   clear hSw
   go_simp
   all_goals with_reducible rfl
  try simp only[Act.put,List.setIfInBounds_toArray,List.set_cons_zero,List.set_cons_succ]
  refine wpAnyH_ready (rs:=[50]) (by kernel_rfl) (by simp) ?_
  refine cons_l rfl (fun K0 hK=>?_) AllReadyH.nil
  go_simp
  (go_at_call 29;(refine(PSame_eq (OV6.out.keep BT.out) (OV6.out.keep BT.out) rfl).mono ?_);rintro e w22 ⟨rfl,hb⟩)
  have BT':=Lib.hid (show Below u6.heap.size u6 _ from(BT.out:Below u6.heap.size u6 _).trans (hb.mono (BT.out:Below u6.heap.size u6 _).size))
  have BT:=Lib.hid BT'.out
  clear hb BT'
  refine hK.out _ _ (by first|exact BT.out|exact below_drewN (Below.refl _ _) 1) (fun _=>?_)
  clear hK K0
  try simp only[Act.put,List.setIfInBounds_toArray,List.set_cons_zero,List.set_cons_succ]
  refine take_l 51 (v:=?_) rfl (by kernel_rfl) (by kernel_rfl) (by kernel_rfl) (fun _ _ _ h=>h) (Or.inl ⟨by rfl,?_⟩) (by first|exact BT.out|exact below_drewN (Below.refl _ _) 1) ?_;rotate_left
  ·intro w' hSw
   clear hSw
   go_simp
   all_goals with_reducible rfl
  try simp only[Act.put,List.setIfInBounds_toArray,List.set_cons_zero,List.set_cons_succ]
  refine take_l 52 (v:=?_) rfl (by kernel_rfl) (by kernel_rfl) (by kernel_rfl) (fun _ _ _ h=>h) (Or.inl ⟨by rfl,?_⟩) (by first|exact BT.out|exact below_drewN (Below.refl _ _) 1) ?_;rotate_left
  ·intro w' hSw
   clear hSw
   go_simp
   all_goals with_reducible rfl
  try simp only[Act.put,List.setIfInBounds_toArray,List.set_cons_zero,List.set_cons_succ]
  refine wpAnyH_ready (rs:=[53]) (by kernel_rfl) (by simp) ?_
  refine cons_l rfl (fun K0 hK=>?_) AllReadyH.nil
  go_simp
  (go_at_call 11;(refine(KN.out _).mono ?_);rintro e w23 ⟨rfl,hb⟩)
  have BT':=Lib.hid (show Below u6.heap.size u6 _ from(BT.out:Below u6.heap.size u6 _).trans (hb.mono (BT.out:Below u6.heap.size u6 _).size))
  have BT:=Lib.hid BT'.out
  clear hb BT'
  refine hK.out _ _ (by first|exact BT.out|exact below_drewN (Below.refl _ _) 1) (fun _=>?_)
  clear hK K0
  try simp only[Act.put,List.setIfInBounds_toArray,List.set_cons_zero,List.set_cons_succ]
  refine take_l 54 (v:=?_) rfl (by kernel_rfl) (by kernel_rfl) (by kernel_rfl) (fun _ _ _ h=>h) (Or.inl ⟨by rfl,?_⟩) (by first|exact BT.out|exact below_drewN (Below.refl _ _) 1) ?_;rotate_left
  ·intro w' hSw
   clear hSw
   go_simp
   all_goals with_reducible rfl
  try simp only[Act.put,List.setIfInBounds_toArray,List.set_cons_zero,List.set_cons_succ]
  refine take_l 55 (v:=?_) rfl (by kernel_rfl) (by kernel_rfl) (by kernel_rfl) (fun _ _ _ h=>h) (Or.inl ⟨by rfl,?_⟩) (by first|exact BT.out|exact below_drewN (Below.refl _ _) 1) ?_;rotate_left
  ·intro w' hSw
   clear hSw
   go_simp
   all_goals with_reducible rfl
  try simp only[Act.put,List.setIfInBounds_toArray,List.set_cons_zero,List.set_cons_succ]
  refine wpAnyH_done (by kernel_rfl) ?_ _
  go_wp2_with fail
  go_ret
  exact⟨rfl,BU.out.trans ((F6.out.trans (BT.out.mono F6.out.size)).mono BU.out.size)⟩
 ·obtain⟨C,hC⟩:∃C,grownCap w12 s.size 0 5=C:=⟨_,rfl⟩
  obtain⟨V,hV⟩:∃V,Lib.bytesWorld w12 5 s=V:=⟨_,rfl⟩
  have PV:=Lib.hid (show Pc V (some ⟨w12.heap.size,0,none⟩,s.size,C,sb s) from by rw[←hV,←hC];exact sb_pc w12 s)
  have BV:=Lib.hid (show Below w12.heap.size w12 V from by rw[←hV];exact sb_below w12 s)
  have RR:(convert 9 23 (.string s)).run Try.prog w12=.ok (.slice (some ⟨w12.heap.size,0,none⟩) s.size C) V:=by rw[←hV,←hC];exact run_sb w12 s
  clear hV hC
  go_simp
  have BT':=Lib.hid (show Below u6.heap.size u6 _ from BT.out.trans (BV.out.mono BT.out.size))
  have BT:=Lib.hid BT'.out
  clear BT' RR
  refine hK.out _ _ (by first|exact BT.out|exact below_drewN (Below.refl _ _) 1) (fun _=>?_)
  clear hK K0
  try simp only[Act.put,List.setIfInBounds_toArray,List.set_cons_zero,List.set_cons_succ]
  refine wpAnyH_ready (rs:=[14]) (by kernel_rfl) (by simp) ?_
  refine cons_l rfl (fun K0 hK=>?_) AllReadyH.nil
  go_simp
  (go_at_call 27;(refine(Text_any s _).mono ?_);rintro e w13 ⟨rt,hrt,rfl,hok,hb⟩)
  simp only[Tv.val,Tv.row]
  have BT':=Lib.hid (show Below u6.heap.size u6 _ from BT.out.trans (hb.mono BT.out.size))
  have PV:=Lib.hid (PV.out.below hb)
  have OT:=Lib.hid hok
  have DT:=Lib.hid hrt
  have BT:=Lib.hid BT'.out
  clear hb BT' hok hrt
  refine hK.out _ _ (by first|exact BT.out|exact below_drewN (Below.refl _ _) 1) (fun _=>?_)
  clear hK K0
  try simp only[Act.put,List.setIfInBounds_toArray,List.set_cons_zero,List.set_cons_succ]
  refine wpAnyH_ready (rs:=[17]) (by kernel_rfl) (by simp) ?_
  refine cons_l rfl (fun K0 hK=>?_) AllReadyH.nil
  go_simp
  (go_at_call 26;(refine(RBytes_any _ PV.out).mono ?_);rintro e w15 ⟨rfl,hok,hb⟩)
  have BT':=Lib.hid (show Below u6.heap.size u6 _ from(BT.out:Below u6.heap.size u6 _).trans (hb.mono (BT.out:Below u6.heap.size u6 _).size))
  simp only[Tv.val,Tv.row]
  have O15:=Lib.hid hok
  have OT15:=Lib.hid (OT.out.keep hb)
  clear hok
  have BT:=Lib.hid BT'.out
  clear hb BT'
  refine hK.out _ _ (by first|exact BT.out|exact below_drewN (Below.refl _ _) 1) (fun _=>?_)
  clear hK K0
  try simp only[Act.put,List.setIfInBounds_toArray,List.set_cons_zero,List.set_cons_succ]
  refine wpAnyH_ready (rs:=[18]) (by kernel_rfl) (by simp) ?_
  refine cons_l rfl (fun K0 hK=>?_) AllReadyH.nil
  go_simp
  (go_at_call 22;(refine(Same_eq OT15.out O15.out (by rw[nd,nd,DT.out])).mono ?_);rintro e w16 ⟨rfl,hb⟩)
  have BT':=Lib.hid (show Below u6.heap.size u6 _ from(BT.out:Below u6.heap.size u6 _).trans (hb.mono (BT.out:Below u6.heap.size u6 _).size))
  have BT:=Lib.hid BT'.out
  clear hb BT'
  refine hK.out _ _ (by first|exact BT.out|exact below_drewN (Below.refl _ _) 1) (fun _=>?_)
  clear hK K0
  try simp only[Act.put,List.setIfInBounds_toArray,List.set_cons_zero,List.set_cons_succ]
  refine take_l 19 (v:=?_) rfl (by kernel_rfl) (by kernel_rfl) (by kernel_rfl) (fun _ _ _ h=>h) (Or.inl ⟨by rfl,?_⟩) (by first|exact BT.out|exact below_drewN (Below.refl _ _) 1) ?_;rotate_left
  ·intro w' hSw
   clear hSw
   go_simp
   all_goals with_reducible rfl
  try simp only[Act.put,List.setIfInBounds_toArray,List.set_cons_zero,List.set_cons_succ]
  refine take_l 20 (v:=?_) rfl (by kernel_rfl) (by kernel_rfl) (by kernel_rfl) (fun _ _ _ h=>h) (Or.inl ⟨by rfl,?_⟩) (by first|exact BT.out|exact below_drewN (Below.refl _ _) 1) ?_;rotate_left
  ·intro w' hSw
   clear hSw
   go_simp
   all_goals with_reducible rfl
  try simp only[Act.put,List.setIfInBounds_toArray,List.set_cons_zero,List.set_cons_succ]
  refine take_l 21 (v:=?_) rfl (by kernel_rfl) (by kernel_rfl) (by kernel_rfl) (fun _ _ _ h=>h) (Or.inl ⟨by rfl,?_⟩) (by first|exact BT.out|exact below_drewN (Below.refl _ _) 1) ?_;rotate_left
  ·intro w' hSw
   have zz0:(w').cell? ⟨qa,0,none⟩=some (.int .i64 Ka):=(NA6.out.below' hSw).cell_ rfl
   have zz1:(w').cell? ⟨qa,1,none⟩=some (.int .u64 (Na:Int)):=(NA6.out.below' hSw).cell_ rfl
   have zz2:(w').cell? ⟨qa,2,none⟩=some (.slice ra.1 ra.2.1 ra.2.2.1):=(NA6.out.below' hSw).cell_ rfl
   have zz3:(w').cell? ⟨qa,3,none⟩=some (.slice Ba va.length ca):=(NA6.out.below' hSw).cell_ rfl
   clear hSw
   go_simp
   all_goals with_reducible rfl
  try simp only[Act.put,List.setIfInBounds_toArray,List.set_cons_zero,List.set_cons_succ]
  refine take_l 22 (v:=?_) rfl (by kernel_rfl) (by kernel_rfl) (by kernel_rfl) (fun _ _ _ h=>h) (Or.inl ⟨by rfl,?_⟩) (by first|exact BT.out|exact below_drewN (Below.refl _ _) 1) ?_;rotate_left
  ·intro w' hSw
   have zz0:(w').cell? ⟨qc,0,none⟩=some (.int .i64 Kc):=(NC6.out.below' hSw).cell_ rfl
   have zz1:(w').cell? ⟨qc,1,none⟩=some (.int .u64 (Nc:Int)):=(NC6.out.below' hSw).cell_ rfl
   have zz2:(w').cell? ⟨qc,2,none⟩=some (.slice rc.1 rc.2.1 rc.2.2.1):=(NC6.out.below' hSw).cell_ rfl
   have zz3:(w').cell? ⟨qc,3,none⟩=some (.slice Bc vc.length cc):=(NC6.out.below' hSw).cell_ rfl
   clear hSw
   go_simp
   all_goals with_reducible rfl
  try simp only[Act.put,List.setIfInBounds_toArray,List.set_cons_zero,List.set_cons_succ]
  refine wpAnyH_ready (rs:=[23]) (by kernel_rfl) (by simp) ?_
  refine cons_l rfl (fun K0 hK=>?_) AllReadyH.nil
  go_simp
  (go_at_call 22;(refine(Same_eq (OA6.out.keep BT.out) (OC6.out.keep BT.out) DAC.out).mono ?_);rintro e w17 ⟨rfl,hb⟩)
  have BT':=Lib.hid (show Below u6.heap.size u6 _ from(BT.out:Below u6.heap.size u6 _).trans (hb.mono (BT.out:Below u6.heap.size u6 _).size))
  have BT:=Lib.hid BT'.out
  clear hb BT'
  refine hK.out _ _ (by first|exact BT.out|exact below_drewN (Below.refl _ _) 1) (fun _=>?_)
  clear hK K0
  try simp only[Act.put,List.setIfInBounds_toArray,List.set_cons_zero,List.set_cons_succ]
  refine take_l 24 (v:=?_) rfl (by kernel_rfl) (by kernel_rfl) (by kernel_rfl) (fun _ _ _ h=>h) (Or.inl ⟨by rfl,?_⟩) (by first|exact BT.out|exact below_drewN (Below.refl _ _) 1) ?_;rotate_left
  ·intro w' hSw
   clear hSw
   go_simp
   all_goals with_reducible rfl
  try simp only[Act.put,List.setIfInBounds_toArray,List.set_cons_zero,List.set_cons_succ]
  refine take_l 25 (v:=?_) rfl (by kernel_rfl) (by kernel_rfl) (by kernel_rfl) (fun _ _ _ h=>h) (Or.inl ⟨by rfl,?_⟩) (by first|exact BT.out|exact below_drewN (Below.refl _ _) 1) ?_;rotate_left
  ·intro w' hSw
   clear hSw
   go_simp
   all_goals with_reducible rfl
  try simp only[Act.put,List.setIfInBounds_toArray,List.set_cons_zero,List.set_cons_succ]
  refine take_l 26 (v:=?_) rfl (by kernel_rfl) (by kernel_rfl) (by kernel_rfl) (fun _ _ _ h=>h) (Or.inl ⟨by rfl,?_⟩) (by first|exact BT.out|exact below_drewN (Below.refl _ _) 1) ?_;rotate_left
  ·intro w' hSw
   clear hSw
   go_simp
   all_goals with_reducible rfl
  try simp only[Act.put,List.setIfInBounds_toArray,List.set_cons_zero,List.set_cons_succ]
  refine take_l 27 (v:=?_) rfl (by kernel_rfl) (by kernel_rfl) (by kernel_rfl) (fun _ _ _ h=>h) (Or.inl ⟨by rfl,?_⟩) (by first|exact BT.out|exact below_drewN (Below.refl _ _) 1) ?_;rotate_left
  ·intro w' hSw
   clear hSw
   go_simp
   all_goals with_reducible rfl
  try simp only[Act.put,List.setIfInBounds_toArray,List.set_cons_zero,List.set_cons_succ]
  refine take_l 28 (v:=?_) rfl (by kernel_rfl) (by kernel_rfl) (by kernel_rfl) (fun _ _ _ h=>h) (Or.inl ⟨by rfl,?_⟩) (by first|exact BT.out|exact below_drewN (Below.refl _ _) 1) ?_;rotate_left
  ·intro w' hSw
   clear hSw
   go_simp
   all_goals with_reducible rfl
  try simp only[Act.put,List.setIfInBounds_toArray,List.set_cons_zero,List.set_cons_succ]
  refine take_l 29 (v:=?_) rfl (by kernel_rfl) (by kernel_rfl) (by kernel_rfl) (fun _ _ _ h=>h) (Or.inl ⟨by rfl,?_⟩) (by first|exact BT.out|exact below_drewN (Below.refl _ _) 1) ?_;rotate_left
  ·intro w' hSw
   clear hSw
   go_simp
   all_goals with_reducible rfl
  try simp only[Act.put,List.setIfInBounds_toArray,List.set_cons_zero,List.set_cons_succ]
  refine take_l 30 (v:=?_) rfl (by kernel_rfl) (by kernel_rfl) (by kernel_rfl) (fun _ _ _ h=>h) (Or.inl ⟨by rfl,?_⟩) (by first|exact BT.out|exact below_drewN (Below.refl _ _) 1) ?_;rotate_left
  ·intro w' hSw
   clear hSw
   go_simp
   all_goals with_reducible rfl
  try simp only[Act.put,List.setIfInBounds_toArray,List.set_cons_zero,List.set_cons_succ]
  refine take_l 31 (v:=?_) rfl (by kernel_rfl) (by kernel_rfl) (by kernel_rfl) (fun _ _ _ h=>h) (Or.inl ⟨by rfl,?_⟩) (by first|exact BT.out|exact below_drewN (Below.refl _ _) 1) ?_;rotate_left
  ·intro w' hSw
   have zz0:(w').cell? ⟨ql,0,none⟩=some (.int .i64 3):=(NLL.out.below' hSw).cell_ rfl
   have zz1:(w').cell? ⟨ql,1,none⟩=some (.int .u64 0):=(NLL.out.below' hSw).cell_ rfl
   have zz2:(w').cell? ⟨ql,2,none⟩=some (.slice none 0 0):=(NLL.out.below' hSw).cell_ rfl
   have zz3:(w').cell? ⟨ql,3,none⟩=some (.slice Al ul.length cl):=(NLL.out.below' hSw).cell_ rfl
   clear hSw
   go_simp
   all_goals with_reducible rfl
  try simp only[Act.put,List.setIfInBounds_toArray,List.set_cons_zero,List.set_cons_succ]
  refine take_l 32 (v:=?_) rfl (by kernel_rfl) (by kernel_rfl) (by kernel_rfl) (fun _ _ _ h=>h) (Or.inl ⟨by rfl,?_⟩) (by first|exact BT.out|exact below_drewN (Below.refl _ _) 1) ?_;rotate_left
  ·intro w' hSw
   have zz0:(w').cell? ⟨w.heap.size,0,none⟩=some (.int .i64 Kv):=(NV6.out.below' hSw).cell_ rfl
   have zz1:(w').cell? ⟨w.heap.size,1,none⟩=some (.int .u64 (N0:Int)):=(NV6.out.below' hSw).cell_ rfl
   have zz2:(w').cell? ⟨w.heap.size,2,none⟩=some (.slice r0.1 r0.2.1 r0.2.2.1):=(NV6.out.below' hSw).cell_ rfl
   have zz3:(w').cell? ⟨w.heap.size,3,none⟩=some (.slice B0 v0.length c0):=(NV6.out.below' hSw).cell_ rfl
   clear hSw
   go_simp
   all_goals with_reducible rfl
  try simp only[Act.put,List.setIfInBounds_toArray,List.set_cons_zero,List.set_cons_succ]
  refine take_l 33 (v:=?_) rfl (by kernel_rfl) (by kernel_rfl) (by kernel_rfl) (fun _ _ _ h=>h) (Or.inl ⟨by rfl,?_⟩) (by first|exact BT.out|exact below_drewN (Below.refl _ _) 1) ?_;rotate_left
  ·intro w' hSw
   have zz0:(w').cell? ⟨w.heap.size+1,0,none⟩=some (.int .i64 Kw):=(NW6.out.below' hSw).cell_ rfl
   have zz1:(w').cell? ⟨w.heap.size+1,1,none⟩=some (.int .u64 (N1:Int)):=(NW6.out.below' hSw).cell_ rfl
   have zz2:(w').cell? ⟨w.heap.size+1,2,none⟩=some (.slice r1.1 r1.2.1 r1.2.2.1):=(NW6.out.below' hSw).cell_ rfl
   have zz3:(w').cell? ⟨w.heap.size+1,3,none⟩=some (.slice B1 v1.length c1):=(NW6.out.below' hSw).cell_ rfl
   clear hSw
   go_simp
   all_goals with_reducible rfl
  try simp only[Act.put,List.setIfInBounds_toArray,List.set_cons_zero,List.set_cons_succ]
  refine wpAnyH_ready (rs:=[34]) (by kernel_rfl) (by simp) ?_
  refine cons_l rfl (fun K0 hK=>?_) AllReadyH.nil
  go_simp
  have X17:=Lib.hid (below_one w17 (.cells #[.int .i64 Kv,.int .u64 (N0:Int),.slice r0.1 r0.2.1 r0.2.2.1,.slice B0 v0.length c0,.int .i64 Kw,.int .u64 (N1:Int),.slice r1.1 r1.2.1 r1.2.2.1,.slice B1 v1.length c1] 26))
  have S17:=Lib.hid (show Sl (w17.alloc (.cells #[.int .i64 Kv,.int .u64 (N0:Int),.slice r0.1 r0.2.1 r0.2.2.1,.slice B0 v0.length c0,.int .i64 Kw,.int .u64 (N1:Int),.slice r1.1 r1.2.1 r1.2.2.1,.slice B1 v1.length c1] 26)) (some ⟨w17.heap.size,0,none⟩) (4*2) (flat [.mk Kv N0 r0 B0 c0 v0,.mk Kw N1 r1 B1 c1 v1]) from Sl.new_ w17 26 [.int .i64 Kv,.int .u64 (N0:Int),.slice r0.1 r0.2.1 r0.2.2.1,.slice B0 v0.length c0,.int .i64 Kw,.int .u64 (N1:Int),.slice r1.1 r1.2.1 r1.2.2.1,.slice B1 v1.length c1])
  have BT':=Lib.hid (show Below u6.heap.size u6 (w17.alloc (.cells #[.int .i64 Kv,.int .u64 (N0:Int),.slice r0.1 r0.2.1 r0.2.2.1,.slice B0 v0.length c0,.int .i64 Kw,.int .u64 (N1:Int),.slice r1.1 r1.2.1 r1.2.2.1,.slice B1 v1.length c1] 26)) from BT.out.trans (X17.out.mono BT.out.size))
  have BT:=Lib.hid BT'.out
  clear BT'
  refine hK.out _ _ (by first|exact BT.out|exact below_drewN (Below.refl _ _) 1) (fun _=>?_)
  clear hK K0
  try simp only[Act.put,List.setIfInBounds_toArray,List.set_cons_zero,List.set_cons_succ]
  refine wpAnyH_ready (rs:=[35]) (by kernel_rfl) (by simp) ?_
  refine cons_l rfl (fun K0 hK=>?_) AllReadyH.nil
  go_simp
  (go_at_call 28;(refine(RList_any (ks:=[.mk Kv N0 r0 B0 c0 v0,.mk Kw N1 r1 B1 c1 v1]) (c:=2) _ S17.out (Nat.le_refl _) (fun e=>by cases e) (two_kids (OV6.out.keep BT.out) (OU6.out.keep BT.out)) (by show 2≤1000000;decide)).mono ?_);rintro e w18 ⟨rfl,hok,hb⟩)
  have BT':=Lib.hid (show Below u6.heap.size u6 _ from(BT.out:Below u6.heap.size u6 _).trans (hb.mono (BT.out:Below u6.heap.size u6 _).size))
  simp only[Tv.val,Tv.row]
  have O18:=Lib.hid hok
  clear hok
  have BT:=Lib.hid BT'.out
  clear hb BT'
  refine hK.out _ _ (by first|exact BT.out|exact below_drewN (Below.refl _ _) 1) (fun _=>?_)
  clear hK K0
  try simp only[Act.put,List.setIfInBounds_toArray,List.set_cons_zero,List.set_cons_succ]
  refine wpAnyH_ready (rs:=[36]) (by kernel_rfl) (by simp) ?_
  refine cons_l rfl (fun K0 hK=>?_) AllReadyH.nil
  go_simp
  (go_at_call 22;(refine(Same_eq (OL.out.keep BT.out) O18.out (by rw[nd,nd,D5.out])).mono ?_);rintro e w19 ⟨rfl,hb⟩)
  have BT':=Lib.hid (show Below u6.heap.size u6 _ from(BT.out:Below u6.heap.size u6 _).trans (hb.mono (BT.out:Below u6.heap.size u6 _).size))
  have BT:=Lib.hid BT'.out
  clear hb BT'
  refine hK.out _ _ (by first|exact BT.out|exact below_drewN (Below.refl _ _) 1) (fun _=>?_)
  clear hK K0
  try simp only[Act.put,List.setIfInBounds_toArray,List.set_cons_zero,List.set_cons_succ]
  refine take_l 37 (v:=?_) rfl (by kernel_rfl) (by kernel_rfl) (by kernel_rfl) (fun _ _ _ h=>h) (Or.inl ⟨by rfl,?_⟩) (by first|exact BT.out|exact below_drewN (Below.refl _ _) 1) ?_;rotate_left
  ·intro w' hSw
   clear hSw
   go_simp
   all_goals with_reducible rfl
  try simp only[Act.put,List.setIfInBounds_toArray,List.set_cons_zero,List.set_cons_succ]
  refine take_l 38 (v:=?_) rfl (by kernel_rfl) (by kernel_rfl) (by kernel_rfl) (fun _ _ _ h=>h) (Or.inl ⟨by rfl,?_⟩) (by first|exact BT.out|exact below_drewN (Below.refl _ _) 1) ?_;rotate_left
  ·intro w' hSw
   clear hSw
   go_simp
   all_goals with_reducible rfl
  try simp only[Act.put,List.setIfInBounds_toArray,List.set_cons_zero,List.set_cons_succ]
  refine take_l 39 (v:=?_) rfl (by kernel_rfl) (by kernel_rfl) (by kernel_rfl) (fun _ _ _ h=>h) (Or.inl ⟨by rfl,?_⟩) (by first|exact BT.out|exact below_drewN (Below.refl _ _) 1) ?_;rotate_left
  ·intro w' hSw
   have zz0:(w').cell? ⟨w.heap.size,0,none⟩=some (.int .i64 Kv):=(NV6.out.below' hSw).cell_ rfl
   have zz1:(w').cell? ⟨w.heap.size,1,none⟩=some (.int .u64 (N0:Int)):=(NV6.out.below' hSw).cell_ rfl
   have zz2:(w').cell? ⟨w.heap.size,2,none⟩=some (.slice r0.1 r0.2.1 r0.2.2.1):=(NV6.out.below' hSw).cell_ rfl
   have zz3:(w').cell? ⟨w.heap.size,3,none⟩=some (.slice B0 v0.length c0):=(NV6.out.below' hSw).cell_ rfl
   clear hSw
   go_simp
   all_goals with_reducible rfl
  try simp only[Act.put,List.setIfInBounds_toArray,List.set_cons_zero,List.set_cons_succ]
  refine take_l 40 (v:=?_) rfl (by kernel_rfl) (by kernel_rfl) (by kernel_rfl) (fun _ _ _ h=>h) (Or.inl ⟨by rfl,?_⟩) (by first|exact BT.out|exact below_drewN (Below.refl _ _) 1) ?_;rotate_left
  ·intro w' hSw
   have zz0:(w').cell? ⟨w.heap.size+1,0,none⟩=some (.int .i64 Kw):=(NW6.out.below' hSw).cell_ rfl
   have zz1:(w').cell? ⟨w.heap.size+1,1,none⟩=some (.int .u64 (N1:Int)):=(NW6.out.below' hSw).cell_ rfl
   have zz2:(w').cell? ⟨w.heap.size+1,2,none⟩=some (.slice r1.1 r1.2.1 r1.2.2.1):=(NW6.out.below' hSw).cell_ rfl
   have zz3:(w').cell? ⟨w.heap.size+1,3,none⟩=some (.slice B1 v1.length c1):=(NW6.out.below' hSw).cell_ rfl
   clear hSw
   go_simp
   all_goals with_reducible rfl
  try simp only[Act.put,List.setIfInBounds_toArray,List.set_cons_zero,List.set_cons_succ]
  refine take_l 42 (v:=?_) rfl (by kernel_rfl) (by kernel_rfl) (by kernel_rfl) (fun _ _ _ h=>h) (Or.inl ⟨by rfl,?_⟩) (by first|exact BT.out|exact below_drewN (Below.refl _ _) 1) ?_;rotate_left
  ·intro w' hSw
   have zz0:(w').cell? ⟨w.heap.size,0,none⟩=some (.int .i64 Kv):=(NV6.out.below' hSw).cell_ rfl
   have zz1:(w').cell? ⟨w.heap.size,1,none⟩=some (.int .u64 (N0:Int)):=(NV6.out.below' hSw).cell_ rfl
   have zz2:(w').cell? ⟨w.heap.size,2,none⟩=some (.slice r0.1 r0.2.1 r0.2.2.1):=(NV6.out.below' hSw).cell_ rfl
   have zz3:(w').cell? ⟨w.heap.size,3,none⟩=some (.slice B0 v0.length c0):=(NV6.out.below' hSw).cell_ rfl
   clear hSw
   go_simp
   all_goals with_reducible rfl
  try simp only[Act.put,List.setIfInBounds_toArray,List.set_cons_zero,List.set_cons_succ]
  refine take_l 43 (v:=?_) rfl (by kernel_rfl) (by kernel_rfl) (by kernel_rfl) (fun _ _ _ h=>h) (Or.inl ⟨by rfl,?_⟩) (by first|exact BT.out|exact below_drewN (Below.refl _ _) 1) ?_;rotate_left
  ·intro w' hSw
   have zz0:(w').cell? ⟨w.heap.size+1,0,none⟩=some (.int .i64 Kw):=(NW6.out.below' hSw).cell_ rfl
   have zz1:(w').cell? ⟨w.heap.size+1,1,none⟩=some (.int .u64 (N1:Int)):=(NW6.out.below' hSw).cell_ rfl
   have zz2:(w').cell? ⟨w.heap.size+1,2,none⟩=some (.slice r1.1 r1.2.1 r1.2.2.1):=(NW6.out.below' hSw).cell_ rfl
   have zz3:(w').cell? ⟨w.heap.size+1,3,none⟩=some (.slice B1 v1.length c1):=(NW6.out.below' hSw).cell_ rfl
   clear hSw
   go_simp
   all_goals with_reducible rfl
  try simp only[Act.put,List.setIfInBounds_toArray,List.set_cons_zero,List.set_cons_succ]
  refine wpAnyH_ready (rs:=[41]) (by kernel_rfl) (by simp) ?_
  refine cons_l rfl (fun K0 hK=>?_) AllReadyH.nil
  go_simp
  (go_at_call 29;(refine(Same_any (OV6.out.keep BT.out) (OU6.out.keep BT.out) _ (Below.refl _ _)).mono ?_);rintro e w20 ⟨rfl,hb⟩)
  have BT':=Lib.hid (show Below u6.heap.size u6 _ from(BT.out:Below u6.heap.size u6 _).trans (hb.mono (BT.out:Below u6.heap.size u6 _).size))
  have BT:=Lib.hid BT'.out
  clear hb BT'
  refine hK.out _ _ (by first|exact BT.out|exact below_drewN (Below.refl _ _) 1) (fun _=>?_)
  clear hK K0
  try simp only[Act.put,List.setIfInBounds_toArray,List.set_cons_zero,List.set_cons_succ]
  refine wpAnyH_ready (rs:=[44]) (by kernel_rfl) (by simp) ?_
  refine cons_l rfl (fun K0 hK=>?_) AllReadyH.nil
  go_simp
  (go_at_call 22;(refine(RSame_any (OV6.out.keep BT.out) (OU6.out.keep BT.out) _ (Below.refl _ _)).mono ?_);rintro e w21 ⟨rfl,hb⟩)
  have BT':=Lib.hid (show Below u6.heap.size u6 _ from(BT.out:Below u6.heap.size u6 _).trans (hb.mono (BT.out:Below u6.heap.size u6 _).size))
  have BT:=Lib.hid BT'.out
  clear hb BT'
  refine hK.out _ _ (by first|exact BT.out|exact below_drewN (Below.refl _ _) 1) (fun _=>?_)
  clear hK K0
  try simp only[Act.put,List.setIfInBounds_toArray,List.set_cons_zero,List.set_cons_succ]
  refine take_l 45 (v:=?_) rfl (by kernel_rfl) (by kernel_rfl) (by kernel_rfl) (fun _ _ _ h=>h) (Or.inl ⟨by rfl,?_⟩) (by first|exact BT.out|exact below_drewN (Below.refl _ _) 1) ?_;rotate_left
  ·intro w' hSw
   clear hSw
   go_simp
   all_goals with_reducible rfl
  try simp only[Act.put,List.setIfInBounds_toArray,List.set_cons_zero,List.set_cons_succ]
  refine take_l 46 (v:=?_) rfl (by kernel_rfl) (by kernel_rfl) (by kernel_rfl) (fun _ _ _ h=>h) (Or.inl ⟨by rfl,?_⟩) (by first|exact BT.out|exact below_drewN (Below.refl _ _) 1) ?_;rotate_left
  ·intro w' hSw
   clear hSw
   go_simp
   all_goals with_reducible rfl
  try simp only[Act.put,List.setIfInBounds_toArray,List.set_cons_zero,List.set_cons_succ]
  refine take_l 47 (v:=?_) rfl (by kernel_rfl) (by kernel_rfl) (by kernel_rfl) (fun _ _ _ h=>h) (Or.inl ⟨by rfl,?_⟩) (by first|exact BT.out|exact below_drewN (Below.refl _ _) 1) ?_;rotate_left
  ·intro w' hSw
   clear hSw
   go_simp
   all_goals with_reducible rfl
  try simp only[Act.put,List.setIfInBounds_toArray,List.set_cons_zero,List.set_cons_succ]
  refine take_l 48 (v:=?_) rfl (by kernel_rfl) (by kernel_rfl) (by kernel_rfl) (fun _ _ _ h=>h) (Or.inl ⟨by rfl,?_⟩) (by first|exact BT.out|exact below_drewN (Below.refl _ _) 1) ?_;rotate_left
  ·intro w' hSw
   have zz0:(w').cell? ⟨w.heap.size,0,none⟩=some (.int .i64 Kv):=(NV6.out.below' hSw).cell_ rfl
   have zz1:(w').cell? ⟨w.heap.size,1,none⟩=some (.int .u64 (N0:Int)):=(NV6.out.below' hSw).cell_ rfl
   have zz2:(w').cell? ⟨w.heap.size,2,none⟩=some (.slice r0.1 r0.2.1 r0.2.2.1):=(NV6.out.below' hSw).cell_ rfl
   have zz3:(w').cell? ⟨w.heap.size,3,none⟩=some (.slice B0 v0.length c0):=(NV6.out.below' hSw).cell_ rfl
   clear hSw
   go_simp
   all_goals with_reducible rfl
  try simp only[Act.put,List.setIfInBounds_toArray,List.set_cons_zero,List.set_cons_succ]
  refine take_l 49 (v:=?_) rfl (by kernel_rfl) (by kernel_rfl) (by kernel_rfl) (fun _ _ _ h=>h) (Or.inl ⟨by rfl,?_⟩) (by first|exact BT.out|exact below_drewN (Below.refl _ _) 1) ?_;rotate_left
  ·intro w' hSw
   have zz0:(w').cell? ⟨w.heap.size,0,none⟩=some (.int .i64 Kv):=(NV6.out.below' hSw).cell_ rfl
   have zz1:(w').cell? ⟨w.heap.size,1,none⟩=some (.int .u64 (N0:Int)):=(NV6.out.below' hSw).cell_ rfl
   have zz2:(w').cell? ⟨w.heap.size,2,none⟩=some (.slice r0.1 r0.2.1 r0.2.2.1):=(NV6.out.below' hSw).cell_ rfl
   have zz3:(w').cell? ⟨w.heap.size,3,none⟩=some (.slice B0 v0.length c0):=(NV6.out.below' hSw).cell_ rfl
   clear hSw
   go_simp
   all_goals with_reducible rfl
  try simp only[Act.put,List.setIfInBounds_toArray,List.set_cons_zero,List.set_cons_succ]
  refine wpAnyH_ready (rs:=[50]) (by kernel_rfl) (by simp) ?_
  refine cons_l rfl (fun K0 hK=>?_) AllReadyH.nil
  go_simp
  (go_at_call 29;(refine(PSame_eq (OV6.out.keep BT.out) (OV6.out.keep BT.out) rfl).mono ?_);rintro e w22 ⟨rfl,hb⟩)
  have BT':=Lib.hid (show Below u6.heap.size u6 _ from(BT.out:Below u6.heap.size u6 _).trans (hb.mono (BT.out:Below u6.heap.size u6 _).size))
  have BT:=Lib.hid BT'.out
  clear hb BT'
  refine hK.out _ _ (by first|exact BT.out|exact below_drewN (Below.refl _ _) 1) (fun _=>?_)
  clear hK K0
  try simp only[Act.put,List.setIfInBounds_toArray,List.set_cons_zero,List.set_cons_succ]
  refine take_l 51 (v:=?_) rfl (by kernel_rfl) (by kernel_rfl) (by kernel_rfl) (fun _ _ _ h=>h) (Or.inl ⟨by rfl,?_⟩) (by first|exact BT.out|exact below_drewN (Below.refl _ _) 1) ?_;rotate_left
  ·intro w' hSw
   clear hSw
   go_simp
   all_goals with_reducible rfl
  try simp only[Act.put,List.setIfInBounds_toArray,List.set_cons_zero,List.set_cons_succ]
  refine take_l 52 (v:=?_) rfl (by kernel_rfl) (by kernel_rfl) (by kernel_rfl) (fun _ _ _ h=>h) (Or.inl ⟨by rfl,?_⟩) (by first|exact BT.out|exact below_drewN (Below.refl _ _) 1) ?_;rotate_left
  ·intro w' hSw
   clear hSw
   go_simp
   all_goals with_reducible rfl
  try simp only[Act.put,List.setIfInBounds_toArray,List.set_cons_zero,List.set_cons_succ]
  refine wpAnyH_ready (rs:=[53]) (by kernel_rfl) (by simp) ?_
  refine cons_l rfl (fun K0 hK=>?_) AllReadyH.nil
  go_simp
  (go_at_call 11;(refine(KN.out _).mono ?_);rintro e w23 ⟨rfl,hb⟩)
  have BT':=Lib.hid (show Below u6.heap.size u6 _ from(BT.out:Below u6.heap.size u6 _).trans (hb.mono (BT.out:Below u6.heap.size u6 _).size))
  have BT:=Lib.hid BT'.out
  clear hb BT'
  refine hK.out _ _ (by first|exact BT.out|exact below_drewN (Below.refl _ _) 1) (fun _=>?_)
  clear hK K0
  try simp only[Act.put,List.setIfInBounds_toArray,List.set_cons_zero,List.set_cons_succ]
  refine take_l 54 (v:=?_) rfl (by kernel_rfl) (by kernel_rfl) (by kernel_rfl) (fun _ _ _ h=>h) (Or.inl ⟨by rfl,?_⟩) (by first|exact BT.out|exact below_drewN (Below.refl _ _) 1) ?_;rotate_left
  ·intro w' hSw
   clear hSw
   go_simp
   all_goals with_reducible rfl
  try simp only[Act.put,List.setIfInBounds_toArray,List.set_cons_zero,List.set_cons_succ]
  refine take_l 55 (v:=?_) rfl (by kernel_rfl) (by kernel_rfl) (by kernel_rfl) (fun _ _ _ h=>h) (Or.inl ⟨by rfl,?_⟩) (by first|exact BT.out|exact below_drewN (Below.refl _ _) 1) ?_;rotate_left
  ·intro w' hSw
   clear hSw
   go_simp
   all_goals with_reducible rfl
  try simp only[Act.put,List.setIfInBounds_toArray,List.set_cons_zero,List.set_cons_succ]
  refine wpAnyH_done (by kernel_rfl) ?_ _
  go_wp2_with fail
  go_ret
  exact⟨rfl,BU.out.trans ((F6.out.trans (BT.out.mono F6.out.size)).mono BU.out.size)⟩
end Go.Proofs.Ytkahelhoaihajaa.Wr
