/- Joined texts. -/
import Derived.Test.YteblmphohhbgcaaGreatQmMtLt
set_option linter.unusedVariables false
namespace Go.Proofs.YteblmphohhbgcaaGreat.Mt
open Go.RowKit Go.Proofs.YteblmphohhbgcaaGreat.Gn Go.Proofs.YteblmphohhbgcaaGreat.Fd Go.Proofs.YteblmphohhbgcaaGreat.Wr Go.Deep
set_option maxRecDepth 100000
set_option maxHeartbeats 4000000 in
theorem walk_metaTargets{w:World}(v e s k:Int)(rA:Option Addr)(rn rc:Nat)(rl:List Nat)(hp:Pc w (rA,rn,rc,rl))(A:Option Addr)(n cap:Nat)(l:List Nat)(hl:BL w A n cap l)(hin:∀ad,A=some ad→ad.block < w.heap.size) :
  Calls Tryz.prog 5 #[.agg #[.int .i64 v,.int .i64 e,.int .i64 s,.int .i64 k,.slice rA rn rc],.slice A n cap] w fun e' w'=>e'=.returned (.bool true)∧Below w.heap.size w w':=by
 have HP:=Lib.hid hp
 have HL:=Lib.hid (bl_pc hl)
 have HI:=Lib.hid hin
 clear hp hl hin
 obtain⟨U,hU⟩:∃U,w.alloc (.cells #[.int .i64 v,.int .i64 e,.int .i64 s,.int .i64 k,.slice rA rn rc] 52)=U:=⟨_,rfl⟩
 have BU:=Lib.hid (show Below w.heap.size w U from by rw[←hU];exact below_one w _)
 have NU:=Lib.hid (show Bl U w.heap.size 52 #[.int .i64 v,.int .i64 e,.int .i64 s,.int .i64 k,.slice rA rn rc] from by rw[←hU];exact Bl.new_ w _ _)
 have u0:(U).cell? ⟨w.heap.size,0,none⟩=some (.int .i64 v):=(NU.out).cell_ rfl
 have u1:(U).cell? ⟨w.heap.size,1,none⟩=some (.int .i64 e):=(NU.out).cell_ rfl
 have u2:(U).cell? ⟨w.heap.size,2,none⟩=some (.int .i64 s):=(NU.out).cell_ rfl
 have u3:(U).cell? ⟨w.heap.size,3,none⟩=some (.int .i64 k):=(NU.out).cell_ rfl
 have u4:(U).cell? ⟨w.heap.size,4,none⟩=some (.slice rA rn rc):=(NU.out).cell_ rfl
 by_cases g1:4000 < rn
 ·have q1:(4000:Int) < (rn:Int):=by omega
  clear g1
  go_enter Tryz.func5,Tryz.ntmps5
  go_wp2_with (go_at_call 9;(refine(known_m _).mono ?_);rintro e9 w9 ⟨rfl,h9⟩;have F9:=Lib.hid h9;clear h9)
  go_ret
  exact⟨rfl,BU.out.trans (F9.out.mono BU.out.size)⟩
 have q1:¬(4000:Int) < (rn:Int):=by omega
 cases g2:lgB n with
 |true =>
  have LM:=Lib.hid (fun w=>long_m A n cap w)
  rw[g2] at LM
  clear g1 g2
  go_enter Tryz.func5,Tryz.ntmps5
  go_wp2_with (first
   |(go_at_call 8;(refine(LM.out _).mono ?_);rintro e0 w0 ⟨rfl,rfl⟩)
   |(go_at_call 9;(refine(known_m _).mono ?_);rintro e9 w9 ⟨rfl,h9⟩;have F9:=Lib.hid h9;clear h9))
  go_ret
  exact⟨rfl,BU.out.trans (F9.out.mono BU.out.size)⟩
 |false =>
  have LM:=Lib.hid (fun w=>long_m A n cap w)
  rw[g2] at LM
  have R9:=Lib.hid (show rn≤800000 by omega)
  have N9:=Lib.hid (show n≤800000 by have:=lgB_no g2;omega)
  clear g1 g2
  obtain⟨er,hE⟩:∃er,wE (tgB v e s k rn) (lN (tgN v e s k rl))=er:=⟨_,rfl⟩
  obtain⟨L,hLL⟩:∃L,wL (tgB v e s k rn) (lN (tgN v e s k rl))=L:=⟨_,rfl⟩
  obtain⟨qa,qb,qc,qd,qn,qh,qe,hq⟩:=a5_uni (bO tgO l)
  have C1:=Lib.hid (fun u (hu:Below U.heap.size U u)=>Write_targets (v:=v) (e:=e) (s:=s) (c:=k) (HP.out.below (BU.out.trans (hu.mono BU.out.size))) R9.out)
  have C3:=Lib.hid (fun u (hu:Below U.heap.size U u)=>RWrite_targets (v:=v) (e:=e) (s:=s) (c:=k) (HP.out.below (BU.out.trans (hu.mono BU.out.size))))
  rw[hE,hLL] at C1 C3
  have C4:=Lib.hid (fun u (hu:Below U.heap.size U u)=>show Calls _ _ #[.slice A n cap] u (A5U qa qb qc qd qn qh qe u) from(Read_targets (HL.out.below (BU.out.trans (hu.mono BU.out.size))) N9.out (fun ad h=>Nat.lt_of_lt_of_le (HI.out ad h) (Nat.le_trans BU.out.size hu.size))).mono (hq u))
  have C6:=Lib.hid (fun u (hu:Below U.heap.size U u)=>show Calls _ _ #[.slice A n cap] u (A5U qa qb qc qd qn qh qe u) from(RRead_targets (HL.out.below (BU.out.trans (hu.mono BU.out.size))) N9.out (fun ad h=>Nat.lt_of_lt_of_le (HI.out ad h) (Nat.le_trans BU.out.size hu.size))).mono (fun e' w' h=>hq u e' w' (by rw[bO_same tg_same];exact h)))
  clear hE hLL hq
  go_enter Tryz.func5,Tryz.ntmps5
  go_upto_region 4 with(first
   |(go_at_call 8;(refine(LM.out _).mono ?_);rintro e0 w0 ⟨rfl,rfl⟩)
   |(go_at_call 23;(refine(C1.out _ (Below.refl _ _)).mono ?_);rintro e1 w1 ⟨h1,A1,k1,rfl,p1,l1⟩;have B1:=Lib.hid h1;have P1:=Lib.hid p1;clear h1 p1 l1))
  clear u0 u1 u2 u3 u4 hU C1 LM
  have u0:(w1).cell? ⟨w.heap.size,0,none⟩=some (.int .i64 v):=(NU.out.below' B1.out).cell_ rfl
  have u1:(w1).cell? ⟨w.heap.size,1,none⟩=some (.int .i64 e):=(NU.out.below' B1.out).cell_ rfl
  have u2:(w1).cell? ⟨w.heap.size,2,none⟩=some (.int .i64 s):=(NU.out.below' B1.out).cell_ rfl
  have u3:(w1).cell? ⟨w.heap.size,3,none⟩=some (.int .i64 k):=(NU.out.below' B1.out).cell_ rfl
  have u4:(w1).cell? ⟨w.heap.size,4,none⟩=some (.slice rA rn rc):=(NU.out.below' B1.out).cell_ rfl
  go_upto_region 5 with(go_at_call 24;(refine(C3.out _ B1.out).mono ?_);rintro e3 w3 ⟨h1,A3,k3,rfl,p1,l1⟩;have B3:=Lib.hid (B1.out.trans (h1.mono B1.out.size));have P3:=Lib.hid p1;have Q3:=Lib.hid (P1.out.below h1);clear h1 p1 l1)
  clear u0 u1 u2 u3 u4 C3
  go_upto_region 6 with(go_at_call 25;(refine(C4.out _ B3.out).mono ?_);rintro e4 w4 ⟨h1,X4,y4,rfl,p1⟩;have D4:=Lib.hid h1;have G4:=Lib.hid p1;clear h1 p1)
  have Z4:=Lib.hid (below_one w4 (.cells #[.int .i64 qa,.int .i64 qb,.int .i64 qc,.int .i64 qd,.slice X4 qn y4] 52))
  have M4:=Lib.hid (Bl.new_ w4 52 #[.int .i64 qa,.int .i64 qb,.int .i64 qc,.int .i64 qd,.slice X4 qn y4])
  have H4:=Lib.hid (D4.out.trans (Z4.out.mono D4.out.size))
  have B4:=Lib.hid (B3.out.trans (H4.out.mono B3.out.size))
  have I4:=Lib.hid (G4.out.below Z4.out)
  obtain⟨b4,hb4⟩:∃b,w4.heap.size=b:=⟨_,rfl⟩
  rw[hb4] at M4 ⊢
  generalize w4.alloc (.cells #[.int .i64 qa,.int .i64 qb,.int .i64 qc,.int .i64 qd,.slice X4 qn y4] 52)=W4 at *
  clear hb4 Z4 D4 G4 C4
  go_upto_region 7 with(go_at_call 26;(refine(C6.out _ B4.out).mono ?_);rintro e6 w6 ⟨h1,X6,y6,rfl,p1⟩;have D6:=Lib.hid h1;have G6:=Lib.hid p1;clear h1 p1)
  have Z6:=Lib.hid (below_one w6 (.cells #[.int .i64 qa,.int .i64 qb,.int .i64 qc,.int .i64 qd,.slice X6 qn y6] 52))
  have M6:=Lib.hid (Bl.new_ w6 52 #[.int .i64 qa,.int .i64 qb,.int .i64 qc,.int .i64 qd,.slice X6 qn y6])
  have H6:=Lib.hid (D6.out.trans (Z6.out.mono D6.out.size))
  have B6:=Lib.hid (B4.out.trans (H6.out.mono B4.out.size))
  have I6:=Lib.hid (G6.out.below Z6.out)
  obtain⟨b6,hb6⟩:∃b,w6.heap.size=b:=⟨_,rfl⟩
  rw[hb6] at M6 ⊢
  generalize w6.alloc (.cells #[.int .i64 qa,.int .i64 qb,.int .i64 qc,.int .i64 qd,.slice X6 qn y6] 52)=W6 at *
  clear hb6 Z6 D6 G6 C6
  have E1:=Lib.hid (Q3.out.below (H4.out.trans (H6.out.mono H4.out.size)))
  have E3:=Lib.hid (P3.out.below (H4.out.trans (H6.out.mono H4.out.size)))
  have S1:=Lib.hid (same_pc E1.out E3.out)
  have T1:=Lib.hid (fun u (hu:Below W6.heap.size W6 u)=>SameTargets_eq qa qb qc qd ((I4.out.below H6.out).below hu) (I6.out.below hu))
  have x0:(W6).cell? ⟨b4,0,none⟩=some (.int .i64 qa):=(M4.out.below' H6.out).cell_ rfl
  have x1:(W6).cell? ⟨b4,1,none⟩=some (.int .i64 qb):=(M4.out.below' H6.out).cell_ rfl
  have x2:(W6).cell? ⟨b4,2,none⟩=some (.int .i64 qc):=(M4.out.below' H6.out).cell_ rfl
  have x3:(W6).cell? ⟨b4,3,none⟩=some (.int .i64 qd):=(M4.out.below' H6.out).cell_ rfl
  have x4:(W6).cell? ⟨b4,4,none⟩=some (.slice X4 qn y4):=(M4.out.below' H6.out).cell_ rfl
  have z0:(W6).cell? ⟨b6,0,none⟩=some (.int .i64 qa):=(M6.out).cell_ rfl
  have z1:(W6).cell? ⟨b6,1,none⟩=some (.int .i64 qb):=(M6.out).cell_ rfl
  have z2:(W6).cell? ⟨b6,2,none⟩=some (.int .i64 qc):=(M6.out).cell_ rfl
  have z3:(W6).cell? ⟨b6,3,none⟩=some (.int .i64 qd):=(M6.out).cell_ rfl
  have z4:(W6).cell? ⟨b6,4,none⟩=some (.slice X6 qn y6):=(M6.out).cell_ rfl
  go_wp2_with (first
   |(go_at_call 14;(with_reducible refine S1.out.mono ?_);rintro e7 w7 ⟨rfl,rfl⟩)
   |(go_at_call 27;(with_reducible refine(T1.out _ (Below.refl _ _)).mono ?_);rintro e8 w8 ⟨rfl,h1⟩;have F8:=Lib.hid h1;clear h1)
   |(go_at_call 9;(refine(known_m _).mono ?_);rintro e9 w9 ⟨rfl,h9⟩;have F9:=Lib.hid h9;clear h9))
  go_ret
  have b6:=B6.out.size
  exact⟨by simp,BU.out.trans ((B6.out.trans ((F8.out.trans (F9.out.mono F8.out.size)).mono b6)).mono BU.out.size)⟩
end Go.Proofs.YteblmphohhbgcaaGreat.Mt
