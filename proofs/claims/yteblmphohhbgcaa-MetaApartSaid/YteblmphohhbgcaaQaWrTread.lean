/- Joined texts. -/
import Derived.Test.YteblmphohhbgcaaQaWrTvalE
set_option linter.unusedVariables false
namespace Go.Proofs.Yteblmphohhbgcaa.Wr
open Go.RowKit Go.Proofs.Yteblmphohhbgcaa.Gn Go.Proofs.Yteblmphohhbgcaa.Fd Go.Deep
def rdw(a b c d:Int)(l:List Nat):Rr Nd :=
 if a < (l.length:Int) then .bad 0 2 else
 match rdv b c d l (l.length+2) 1 0 0 with
 |.bad q e=>.bad q e
 |.good v p k=>if p < l.length then .bad p 25 else .good v p k
set_option maxHeartbeats 4000000 in
set_option maxRecDepth 100000 in
theorem twhole_any{w:World}{g:Nat}{a b c d:Int}{r:Rw}(h:Rt w g a b c d 0 r 0)(d0:0≤d)(d1:d≤9223372036854775807)(hl9:r.2.1≤900000) :
  Calls Try.prog 75 #[.pointer (some ⟨g,0,none⟩)] w (RvQ (rdw a b c d r.2.2.2) w g a b c d r):=by
 obtain⟨R,hR⟩:∃R,rdw a b c d r.2.2.2=R:=⟨_,rfl⟩
 rw[hR]
 obtain⟨A,L,cp,l⟩:=r
 have hL:L=l.length:=h.pc.len
 have HL:=Lib.hid hL
 have glt:g < w.heap.size:=h.row.lt
 have A0:=Lib.hid (below_one w nod0)
 have H0:=Lib.hid (h.below A0.out)
 have N0:=Lib.hid (Bl.new_ w 80 #[.int .i64 0,.int .u64 0,.slice none 0 0,.slice none 0 0])
 have HP:=Lib.hid h.pc
 have c5:(w.alloc nod0).cell? ⟨g,5,none⟩=some (.slice A L cp):=H0.out.row.cell_ rfl
 have c0:(w.alloc nod0).cell? ⟨g,0,none⟩=some (.int .i64 a):=H0.out.row.cell_ rfl
 have hl8:L≤900000:=hl9
 have CV:=Lib.hid (fun(u:World) (hu:Rt u g a b c d 0 (A,L,cp,l) 0)=>tvalue_any (l.length+2) u g a b c d 0 (A,L,cp,l) 0 1 hu d0 d1 (Int.le_refl _) (by show(0:Int)+((l.length - 0:Nat):Int)≤1000000;omega) (by show L≤1000000;omega) (by decide) (by show(1:Int)+((l.length - 0:Nat):Int)≤3000000;omega) (by show l.length - 0+2≤l.length+2;omega))
 have HR:=Lib.hid (show rdw a b c d l=R from hR)
 clear h hR d0 d1 hl9 hl8
 by_cases ha:a < (L:Int)
 ·have E2:=Lib.hid (show R=.bad 0 2 from HR.out.symm.trans (by rw[rdw,if_pos (by rw[←HL.out];exact ha)]))
  clear CV HR hL
  go_enter Try.func75,Try.ntmps75
  go_wp2_with fail
  go_quiet (fail)
  go_wp2_with fail
  exact⟨rfl,by rw[E2.out];exact⟨rfl,only_drewN (only_below A0.out _) _⟩⟩
 have ER:R=match rdv b c d l (l.length+2) 1 0 0 with | .bad q e=>.bad q e | .good v p k=>if p < l.length then .bad p 25 else .good v p k:=HR.out.symm.trans (by rw[rdw,if_neg (by rw[←HL.out];exact ha)])
 cases hres:rdv b c d l (l.length+2) 1 0 0 with
 |bad q en =>
  rw[hres] at ER
  have E2:=Lib.hid (show R=.bad q en from ER)
  have CX:=Lib.hid (fun(u:World) (hu:Rt u g a b c d 0 (A,L,cp,l) 0)=>show Calls _ _ _ _ (fun e_ w'=>e_=pan (q:Int) (en:Int)∧u.grownBy w' (some g)) from by have:=CV.out u hu;rw[show(A,L,cp,l).2.2.2=l from rfl,hres] at this;exact this)
  clear CV HR hL ER hres
  go_enter Try.func75,Try.ntmps75
  go_wp2_with fail
  go_quiet (fail)
  have H1:=Lib.hid (H0.out.below (below_drewN (Below.refl _ _) nq))
  go_wp2_with (go_at_call 84;(refine(CX.out _ H1.out).mono ?_);rintro e w1 ⟨rfl,h1⟩;have G1:=Lib.hid h1;clear h1)
  exact⟨rfl,by rw[E2.out];exact⟨rfl,only_trans (only_drewN (only_below A0.out _) _) G1.out⟩⟩
 |good v p k =>
  rw[hres] at ER
  have HG:=Lib.hid (rdv_good b c d l _ 1 0 0 (Nat.zero_le _) hres)
  have CX:=Lib.hid (fun(u:World) (hu:Rt u g a b c d 0 (A,L,cp,l) 0)=>show Calls _ _ _ _ (RgQ v p u g a b c d k (A,L,cp,l)) from by have:=CV.out u hu;rw[show(A,L,cp,l).2.2.2=l from rfl,hres] at this;exact this)
  have EH:=Lib.hid (show R=if p < l.length then .bad p 25 else .good v p k from ER)
  clear CV HR hL ER hres
  go_enter Try.func75,Try.ntmps75
  go_wp2_with fail
  go_quiet (fail)
  obtain⟨nq0,rfl⟩:∃x,x=nq:=⟨_,rfl⟩
  have H1:=Lib.hid (H0.out.below (below_drewN (Below.refl _ _) nq0))
  go_wp2_with (go_at_call 84;(refine(CX.out _ H1.out).mono ?_);rintro e w1 ⟨h1,t,rfl,hv,ho,hl,hr⟩;obtain⟨K,N,rr,B,cc,us⟩:=t;simp only[Tv.val,Tv.row];have G1:=Lib.hid h1;have V1:=Lib.hid hv;have K1:=Lib.hid ho;have L1:=Lib.hid hl;have R1:=Lib.hid hr;have A1:=Lib.hid (below_one w1 (.cells #[.int .i64 K,.int .u64 (N:Int),.slice rr.1 rr.2.1 rr.2.2.1,.slice B us.length cc] 80));have R2:=Lib.hid (hr.below A1.out);have d5:(w1.alloc (.cells #[.int .i64 K,.int .u64 (N:Int),.slice rr.1 rr.2.1 rr.2.2.1,.slice B us.length cc] 80)).cell? ⟨g,5,none⟩=some (.slice A L cp):=R2.out.row.cell_ rfl;have d6:(w1.alloc (.cells #[.int .i64 K,.int .u64 (N:Int),.slice rr.1 rr.2.1 rr.2.2.1,.slice B us.length cc] 80)).cell? ⟨g,6,none⟩=some (.int .i64 (p:Int)):=R2.out.row.cell_ rfl;have N1:=Lib.hid (show Bl w1 w.heap.size 80 _ from(N0.out.drewN nq0).grown h1 (by intro e;injection e with e;omega));have N3:=Lib.hid (Bl.new_ w1 80 #[.int .i64 K,.int .u64 (N:Int),.slice rr.1 rr.2.1 rr.2.2.1,.slice B us.length cc]);clear h1 hv ho hl hr)
  by_cases hp:p < L
  ·have E2:=Lib.hid (show R=.bad p 25 from EH.out.trans (if_pos (by rw[←HL.out];exact hp)))
   have q0:(p:Int) < (L:Int):=by omega
   go_quiet (fail)
   go_wp2_with fail
   exact⟨rfl,by rw[E2.out];exact⟨rfl,only_drewN (only_then (only_trans (only_drewN (only_below A0.out _) _) G1.out) (A1.out.mono (by have h1:=A0.out.size;have h2:=G1.out.size;exact Nat.le_trans h1 h2))) _⟩⟩
  ·have E2:=Lib.hid (show R=.good v p k from EH.out.trans (if_neg (by rw[←HL.out];exact hp)))
   have q0:¬(p:Int) < (L:Int):=by omega
   have N4:=Lib.hid (show Bl (w1.alloc (.cells #[.int .i64 K,.int .u64 (N:Int),.slice rr.1 rr.2.1 rr.2.2.1,.slice B us.length cc] 80)) w.heap.size 80 _ from N1.out.alloc _)
   have y0:(w1.alloc (.cells #[.int .i64 K,.int .u64 (N:Int),.slice rr.1 rr.2.1 rr.2.2.1,.slice B us.length cc] 80)).cell? ⟨w.heap.size,0,none⟩=some (.int .i64 0):=N4.out.cell_ rfl
   have y1:(w1.alloc (.cells #[.int .i64 K,.int .u64 (N:Int),.slice rr.1 rr.2.1 rr.2.2.1,.slice B us.length cc] 80)).cell? ⟨w.heap.size,1,none⟩=some (.int .u64 0):=N4.out.cell_ rfl
   have y2:(w1.alloc (.cells #[.int .i64 K,.int .u64 (N:Int),.slice rr.1 rr.2.1 rr.2.2.1,.slice B us.length cc] 80)).cell? ⟨w.heap.size,2,none⟩=some (.slice none 0 0):=N4.out.cell_ rfl
   have y3:(w1.alloc (.cells #[.int .i64 K,.int .u64 (N:Int),.slice rr.1 rr.2.1 rr.2.2.1,.slice B us.length cc] 80)).cell? ⟨w.heap.size,3,none⟩=some (.slice none 0 0):=N4.out.cell_ rfl
   have f0:=N4.out.frozen 0
   have f1:=N4.out.frozen 1
   have f2:=N4.out.frozen 2
   have f3:=N4.out.frozen 3
   go_quiet (fail)
   go_wp2_with fail
   have A2:=Lib.hid (show Below w1.heap.size w1 _ from below_drewN A1.out nq)
   have HL4:=Lib.hid (st4_bl (N4.out.drewN nq) (.int .i64 K) (.int .u64 (N:Int)) (.slice rr.1 rr.2.1 rr.2.2.1) (.slice B us.length cc))
   have s1:w.heap.size+1=((w.alloc nod0).drewN nq0).heap.size:=by show _=(w.alloc nod0).heap.size;simp
   have G0:=only_drewN (only_below A0.out (some g)) nq0
   have G4:=only_then (only_trans G0 G1.out) (A2.out.mono (Nat.le_trans G0.size G1.out.size))
   have hf:=tfin (t:=.mk K N rr B cc us) rfl V1.out HP.out G4 (R1.out.below A2.out) (K1.out.keep A2.out) (lies.mono (fun k hk=>by omega) L1.out) glt
   refine⟨rfl,_,results_c rfl _ _ _ ⟨w.heap.size,0,none⟩ _ (by kernel_rfl) (run_loadVar_row _ w.heap.size 80 80 _ (0,0) _ HL4.out Try.underlying80 rfl size34),?_⟩
   rw[E2.out]
   exact hf
def R1Q(res:Rr Nd)(w:World)(g q:Nat)(a b c d:Int)(r:Rw)(e:Ending)(w':World):Prop :=
 match res with
 |.bad p en=>e=pan (p:Int) (en:Int)∧w.grownBy w' (some g)
 |.good v p' k'=>e=.returned (.tuple #[])∧∃t w1,w.grownBy w1 (some g)∧nd t=v∧Ok w1 t∧lies (fun k=>w.heap.size≤k) t∧w'=st4 w1 q (t.row.getD 0 undef) (t.row.getD 1 undef) (t.row.getD 2 undef) (t.row.getD 3 undef)
set_option maxHeartbeats 4000000 in
set_option maxRecDepth 100000 in
theorem Read1_any{w:World}{g p q:Nat}{a b c d:Int}{r:Rw}(h:Rt w g a b c d 0 r 0)(d0:0≤d)(d1:d≤9223372036854775807)(hl9:r.2.1≤900000)(hp:w.cell? ⟨p,0,none⟩=some (.pointer (some ⟨g,0,none⟩)))(hq:Bl w q 80 #[.int .i64 0,.int .u64 0,.slice none 0 0,.slice none 0 0])(hgq:q≠g) :
  Calls Try.prog 74 #[.pointer (some ⟨p,0,none⟩),.pointer (some ⟨q,0,none⟩)] w (R1Q (rdw a b c d r.2.2.2) w g q a b c d r):=by
 have CV:=twhole_any h d0 d1 hl9
 cases hres:rdw a b c d r.2.2.2 with
 |bad x en =>
  rw[hres] at CV
  have CX:=Lib.hid (show Calls _ _ _ _ (fun e_ w'=>e_=pan (x:Int) (en:Int)∧w.grownBy w' (some g)) from CV)
  clear CV hres h hq d0 d1 hl9
  go_enter Try.func74,Try.ntmps74
  go_wp2_with (go_at_call 75;(refine CX.out.mono ?_);rintro e w1 ⟨rfl,h1⟩;have G1:=Lib.hid h1;clear h1)
  exact⟨rfl,rfl,G1.out⟩
 |good v p' k' =>
  rw[hres] at CV
  have CX:=Lib.hid (show Calls _ _ _ _ (RgQ v p' w g a b c d k' r) from CV)
  have HQ:=Lib.hid hq
  clear CV hres h hq d0 d1 hl9
  go_enter Try.func74,Try.ntmps74
  go_wp2_with (go_at_call 75;(refine CX.out.mono ?_);rintro e w1 ⟨h1,t,rfl,hv,ho,hl,-⟩;obtain⟨K,N,rr,B,cc,us⟩:=t;simp only[Tv.val,Tv.row];have G1:=Lib.hid h1;have V1:=Lib.hid hv;have K1:=Lib.hid ho;have L1:=Lib.hid hl;have N4:=Lib.hid (show Bl w1 q 80 _ from HQ.out.grown h1 (by intro e;injection e with e;omega));have y0:w1.cell? ⟨q,0,none⟩=some (.int .i64 0):=N4.out.cell_ rfl;have y1:w1.cell? ⟨q,1,none⟩=some (.int .u64 0):=N4.out.cell_ rfl;have y2:w1.cell? ⟨q,2,none⟩=some (.slice none 0 0):=N4.out.cell_ rfl;have y3:w1.cell? ⟨q,3,none⟩=some (.slice none 0 0):=N4.out.cell_ rfl;have f0:=N4.out.frozen 0;have f1:=N4.out.frozen 1;have f2:=N4.out.frozen 2;have f3:=N4.out.frozen 3;clear h1 hv ho hl)
  first|go_end0|refine bodyPost_ret (results_none rfl _ _ _) rfl ?_
  exact⟨rfl,.mk K N rr B cc us,w1,G1.out,V1.out,K1.out,L1.out,rfl⟩
end Go.Proofs.Yteblmphohhbgcaa.Wr
