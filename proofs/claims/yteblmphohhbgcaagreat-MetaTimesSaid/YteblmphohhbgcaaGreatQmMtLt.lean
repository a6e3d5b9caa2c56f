/- Joined texts. -/
import Derived.Test.YteblmphohhbgcaaGreatQmMtAg
import Derived.Test.YteblmphohhbgcaaGreatQmWrDeepB
import Derived.Test.YteblmphohhbgcaaGreatQmMtI
set_option linter.unusedVariables false
namespace Go.Proofs.YteblmphohhbgcaaGreat.Mt
open Go.RowKit Go.Proofs.YteblmphohhbgcaaGreat.Gn Go.Proofs.YteblmphohhbgcaaGreat.Fd Go.Proofs.YteblmphohhbgcaaGreat.Wr Go.Deep
set_option maxRecDepth 100000
def A5U(a b c d:Int)(n:Nat)(h:List Nat)(er:Int)(w:World)(e:Ending)(w':World):Prop :=
 Below w.heap.size w w'∧∃A c',e=.returned (.tuple #[.agg #[.int .i64 a,.int .i64 b,.int .i64 c,.int .i64 d,.slice A n c'],.int .i64 er])∧Pc w' (A,n,c',h)
theorem a5_uni(o:Option A5):∃(a b c d:Int) (n:Nat) (h:List Nat) (er:Int),∀w e w',A5Q o w e w'→A5U a b c d n h er w e w':=by
 cases o with
 |none=>exact⟨0,0,0,0,0,[],80,fun w e w' ⟨hb,he⟩=>⟨hb,none,0,he,nil_pc _⟩⟩
 |some v =>
  obtain⟨a,b,c,d,h⟩:=v
  exact⟨a,b,c,d,h.length,h,0,fun w e w' ⟨hb,A,c',he,hp⟩=>⟨hb,A,c',he,hp⟩⟩
theorem same_pc{w:World}{A B:Option Addr}{n m c d:Nat}{L:List Nat}(h1:Pc w (A,n,c,L))(h2:Pc w (B,m,d,L)):Calls Tryz.prog 14 #[.slice A n c,.slice B m d] w fun e w'=>e=.returned (.bool true)∧w=w':=by
 have h:=samebytes_any A B n m c d L L w h1.lt h2.lt (by have h:=h1.row;rwa [←h1.len] at h) (by have h:=h2.row;rwa [←h2.len] at h)
 rw[beq_self_eq_true] at h
 exact h
set_option maxHeartbeats 4000000 in
theorem walk_metaTimes{w:World}(v e rv rs:Int)(rA:Option Addr)(rn rc:Nat)(rl:List Nat)(hp:Pc w (rA,rn,rc,rl))(A:Option Addr)(n cap:Nat)(l:List Nat)(hl:BL w A n cap l)(hin:∀ad,A=some ad→ad.block < w.heap.size) :
  Calls Tryz.prog 4 #[.agg #[.int .i64 v,.int .i64 e,.int .i64 rv,.int .i64 rs,.slice rA rn rc],.slice A n cap] w fun e' w'=>e'=.returned (.bool true)∧Below w.heap.size w w':=by
 have HP:=Lib.hid hp
 have HL:=Lib.hid (bl_pc hl)
 have HI:=Lib.hid hin
 clear hp hl hin
 obtain⟨U,hU⟩:∃U,w.alloc (.cells #[.int .i64 v,.int .i64 e,.int .i64 rv,.int .i64 rs,.slice rA rn rc] 40)=U:=⟨_,rfl⟩
 have BU:=Lib.hid (show Below w.heap.size w U from by rw[←hU];exact below_one w _)
 have NU:=Lib.hid (show Bl U w.heap.size 40 #[.int .i64 v,.int .i64 e,.int .i64 rv,.int .i64 rs,.slice rA rn rc] from by rw[←hU];exact Bl.new_ w _ _)
 have u0:(U).cell? ⟨w.heap.size,0,none⟩=some (.int .i64 v):=(NU.out).cell_ rfl
 have u1:(U).cell? ⟨w.heap.size,1,none⟩=some (.int .i64 e):=(NU.out).cell_ rfl
 have u2:(U).cell? ⟨w.heap.size,2,none⟩=some (.int .i64 rv):=(NU.out).cell_ rfl
 have u3:(U).cell? ⟨w.heap.size,3,none⟩=some (.int .i64 rs):=(NU.out).cell_ rfl
 have u4:(U).cell? ⟨w.heap.size,4,none⟩=some (.slice rA rn rc):=(NU.out).cell_ rfl
 by_cases g1:4000 < rn
 ·have q1:(4000:Int) < (rn:Int):=by omega
  clear g1
  go_enter Tryz.func4,Tryz.ntmps4
  go_wp2_with (go_at_call 9;(refine(known_m _).mono ?_);rintro e9 w9 ⟨rfl,h9⟩;have F9:=Lib.hid h9;clear h9)
  go_ret
  exact⟨rfl,BU.out.trans (F9.out.mono BU.out.size)⟩
 have q1:¬(4000:Int) < (rn:Int):=by omega
 cases g2:lgB n with
 |true =>
  have LM:=Lib.hid (fun w=>long_m A n cap w)
  rw[g2] at LM
  clear g1 g2
  go_enter Tryz.func4,Tryz.ntmps4
  go_wp2_with (first
   |(go_at_call 8;(refine(LM.out _).mono ?_);rintro e0 w0 ⟨rfl,rfl⟩)
   |(go_at_call 9;(refine(known_m _).mono ?_);rintro e9 w9 ⟨rfl,h9⟩;have F9:=Lib.hid h9;clear h9))
  go_ret
  exact⟨rfl,BU.out.trans (F9.out.mono BU.out.size)⟩
 |false =>
  have LM:=Lib.hid (fun w=>long_m A n cap w)
  rw[g2] at LM
  have R9:=Lib.hid (show rn≤800000 by omega)
  have N9:=Lib.hid (show n≤800000 by have:=lgB_no g2;omega)
  clear g1 g2
  obtain⟨er,hE⟩:∃er,wE (tmB v e rv rs rn) (lN (tmN v e rv rs rl))=er:=⟨_,rfl⟩
  obtain⟨L,hLL⟩:∃L,wL (tmB v e rv rs rn) (lN (tmN v e rv rs rl))=L:=⟨_,rfl⟩
  obtain⟨qa,qb,qc,qd,qn,qh,qe,hq⟩:=a5_uni (bO tsO l)
  have C1:=Lib.hid (fun u (hu:Below U.heap.size U u)=>Write_timestamp (v:=v) (e:=e) (rv:=rv) (rs:=rs) (HP.out.below (BU.out.trans (hu.mono BU.out.size))) R9.out)
  have C2:=Lib.hid (fun u (hu:Below U.heap.size U u)=>Write_snapshot (v:=v) (e:=e) (rv:=rv) (rs:=rs) (HP.out.below (BU.out.trans (hu.mono BU.out.size))) R9.out)
  have C3:=Lib.hid (fun u (hu:Below U.heap.size U u)=>RWrite_timestamp (v:=v) (e:=e) (rv:=rv) (rs:=rs) (HP.out.below (BU.out.trans (hu.mono BU.out.size))))
  rw[hE,hLL] at C1 C2 C3
  have C4:=Lib.hid (fun u (hu:Below U.heap.size U u)=>show Calls _ _ #[.slice A n cap] u (A5U qa qb qc qd qn qh qe u) from(Read_timestamp (HL.out.below (BU.out.trans (hu.mono BU.out.size))) N9.out (fun ad h=>Nat.lt_of_lt_of_le (HI.out ad h) (Nat.le_trans BU.out.size hu.size))).mono (hq u))
  have C5:=Lib.hid (fun u (hu:Below U.heap.size U u)=>show Calls _ _ #[.slice A n cap] u (A5U qa qb qc qd qn qh qe u) from(Read_snapshot (HL.out.below (BU.out.trans (hu.mono BU.out.size))) N9.out (fun ad h=>Nat.lt_of_lt_of_le (HI.out ad h) (Nat.le_trans BU.out.size hu.size))).mono (hq u))
  have C6:=Lib.hid (fun u (hu:Below U.heap.size U u)=>show Calls _ _ #[.slice A n cap] u (A5U qa qb qc qd qn qh qe u) from(RRead_timestamp (HL.out.below (BU.out.trans (hu.mono BU.out.size))) N9.out (fun ad h=>Nat.lt_of_lt_of_le (HI.out ad h) (Nat.le_trans BU.out.size hu.size))).mono (fun e' w' h=>hq u e' w' (by rw[bO_same ts_same];exact h)))
  clear hE hLL hq
  go_enter Tryz.func4,Tryz.ntmps4
  go_upto_region 4 with(first
   |(go_at_call 8;(refine(LM.out _).mono ?_);rintro e0 w0 ⟨rfl,rfl⟩)
   |(go_at_call 16;(refine(C1.out _ (Below.refl _ _)).mono ?_);rintro e1 w1 ⟨h1,A1,k1,rfl,p1,l1⟩;have B1:=Lib.hid h1;have P1:=Lib.hid p1;clear h1 p1 l1))
  clear u0 u1 u2 u3 u4 hU C1 LM
  have u0:(w1).cell? ⟨w.heap.size,0,none⟩=some (.int .i64 v):=(NU.out.below' B1.out).cell_ rfl
  have u1:(w1).cell? ⟨w.heap.size,1,none⟩=some (.int .i64 e):=(NU.out.below' B1.out).cell_ rfl
  have u2:(w1).cell? ⟨w.heap.size,2,none⟩=some (.int .i64 rv):=(NU.out.below' B1.out).cell_ rfl
  have u3:(w1).cell? ⟨w.heap.size,3,none⟩=some (.int .i64 rs):=(NU.out.below' B1.out).cell_ rfl
  have u4:(w1).cell? ⟨w.heap.size,4,none⟩=some (.slice rA rn rc):=(NU.out.below' B1.out).cell_ rfl
  go_upto_region 5 with(go_at_call 17;(refine(C2.out _ B1.out).mono ?_);rintro e2 w2 ⟨h1,A2,k2,rfl,p1,l1⟩;have B2:=Lib.hid (B1.out.trans (h1.mono B1.out.size));have P2:=Lib.hid p1;have Q2:=Lib.hid (P1.out.below h1);clear h1 p1 l1)
  clear u0 u1 u2 u3 u4 C2
  have u0:(w2).cell? ⟨w.heap.size,0,none⟩=some (.int .i64 v):=(NU.out.below' B2.out).cell_ rfl
  have u1:(w2).cell? ⟨w.heap.size,1,none⟩=some (.int .i64 e):=(NU.out.below' B2.out).cell_ rfl
  have u2:(w2).cell? ⟨w.heap.size,2,none⟩=some (.int .i64 rv):=(NU.out.below' B2.out).cell_ rfl
  have u3:(w2).cell? ⟨w.heap.size,3,none⟩=some (.int .i64 rs):=(NU.out.below' B2.out).cell_ rfl
  have u4:(w2).cell? ⟨w.heap.size,4,none⟩=some (.slice rA rn rc):=(NU.out.below' B2.out).cell_ rfl
  go_upto_region 6 with(go_at_call 18;(refine(C3.out _ B2.out).mono ?_);rintro e3 w3 ⟨h1,A3,k3,rfl,p1,l1⟩;have B3:=Lib.hid (B2.out.trans (h1.mono B2.out.size));have P3:=Lib.hid p1;have Q3:=Lib.hid (Q2.out.below h1);have S3:=Lib.hid (P2.out.below h1);clear h1 p1 l1)
  clear u0 u1 u2 u3 u4 C3
  go_upto_region 7 with(go_at_call 19;(refine(C4.out _ B3.out).mono ?_);rintro e4 w4 ⟨h1,X4,y4,rfl,p1⟩;have D4:=Lib.hid h1;have G4:=Lib.hid p1;clear h1 p1)
  have Z4:=Lib.hid (below_one w4 (.cells #[.int .i64 qa,.int .i64 qb,.int .i64 qc,.int .i64 qd,.slice X4 qn y4] 40))
  have M4:=Lib.hid (Bl.new_ w4 40 #[.int .i64 qa,.int .i64 qb,.int .i64 qc,.int .i64 qd,.slice X4 qn y4])
  have H4:=Lib.hid (D4.out.trans (Z4.out.mono D4.out.size))
  have B4:=Lib.hid (B3.out.trans (H4.out.mono B3.out.size))
  have I4:=Lib.hid (G4.out.below Z4.out)
  obtain⟨b4,hb4⟩:∃b,w4.heap.size=b:=⟨_,rfl⟩
  rw[hb4] at M4 ⊢
  generalize w4.alloc (.cells #[.int .i64 qa,.int .i64 qb,.int .i64 qc,.int .i64 qd,.slice X4 qn y4] 40)=W4 at *
  clear hb4 Z4 D4 G4 C4
  go_upto_region 8 with(go_at_call 20;(refine(C5.out _ B4.out).mono ?_);rintro e5 w5 ⟨h1,X5,y5,rfl,p1⟩;have D5:=Lib.hid h1;have G5:=Lib.hid p1;clear h1 p1)
  have Z5:=Lib.hid (below_one w5 (.cells #[.int .i64 qa,.int .i64 qb,.int .i64 qc,.int .i64 qd,.slice X5 qn y5] 44))
  have M5:=Lib.hid (Bl.new_ w5 44 #[.int .i64 qa,.int .i64 qb,.int .i64 qc,.int .i64 qd,.slice X5 qn y5])
  have H5:=Lib.hid (D5.out.trans (Z5.out.mono D5.out.size))
  have B5:=Lib.hid (B4.out.trans (H5.out.mono B4.out.size))
  have I5:=Lib.hid (G5.out.below Z5.out)
  obtain⟨b5,hb5⟩:∃b,w5.heap.size=b:=⟨_,rfl⟩
  rw[hb5] at M5 ⊢
  generalize w5.alloc (.cells #[.int .i64 qa,.int .i64 qb,.int .i64 qc,.int .i64 qd,.slice X5 qn y5] 44)=W5 at *
  clear hb5 Z5 D5 G5 C5
  go_upto_region 9 with(go_at_call 21;(refine(C6.out _ B5.out).mono ?_);rintro e6 w6 ⟨h1,X6,y6,rfl,p1⟩;have D6:=Lib.hid h1;have G6:=Lib.hid p1;clear h1 p1)
  have Z6:=Lib.hid (below_one w6 (.cells #[.int .i64 qa,.int .i64 qb,.int .i64 qc,.int .i64 qd,.slice X6 qn y6] 40))
  have M6:=Lib.hid (Bl.new_ w6 40 #[.int .i64 qa,.int .i64 qb,.int .i64 qc,.int .i64 qd,.slice X6 qn y6])
  have H6:=Lib.hid (D6.out.trans (Z6.out.mono D6.out.size))
  have B6:=Lib.hid (B5.out.trans (H6.out.mono B5.out.size))
  have I6:=Lib.hid (G6.out.below Z6.out)
  obtain⟨b6,hb6⟩:∃b,w6.heap.size=b:=⟨_,rfl⟩
  rw[hb6] at M6 ⊢
  generalize w6.alloc (.cells #[.int .i64 qa,.int .i64 qb,.int .i64 qc,.int .i64 qd,.slice X6 qn y6] 40)=W6 at *
  clear hb6 Z6 D6 G6 C6
  have J4:=Lib.hid (H5.out.trans (H6.out.mono H5.out.size))
  have E1:=Lib.hid (Q3.out.below (H4.out.trans (J4.out.mono H4.out.size)))
  have E2:=Lib.hid (S3.out.below (H4.out.trans (J4.out.mono H4.out.size)))
  have E3:=Lib.hid (P3.out.below (H4.out.trans (J4.out.mono H4.out.size)))
  have S1:=Lib.hid (same_pc E1.out E3.out)
  have S2:=Lib.hid (same_pc E2.out E3.out)
  have T1:=Lib.hid (fun u (hu:Below W6.heap.size W6 u)=>SameTime_eq qa qb qc qd ((I4.out.below J4.out).below hu) (I6.out.below hu))
  have T2:=Lib.hid (fun u (hu:Below W6.heap.size W6 u)=>SameTime_eq qa qb qc qd ((I5.out.below H6.out).below hu) (I6.out.below hu))
  have x0:(W6).cell? ⟨b4,0,none⟩=some (.int .i64 qa):=(M4.out.below' J4.out).cell_ rfl
  have x1:(W6).cell? ⟨b4,1,none⟩=some (.int .i64 qb):=(M4.out.below' J4.out).cell_ rfl
  have x2:(W6).cell? ⟨b4,2,none⟩=some (.int .i64 qc):=(M4.out.below' J4.out).cell_ rfl
  have x3:(W6).cell? ⟨b4,3,none⟩=some (.int .i64 qd):=(M4.out.below' J4.out).cell_ rfl
  have x4:(W6).cell? ⟨b4,4,none⟩=some (.slice X4 qn y4):=(M4.out.below' J4.out).cell_ rfl
  have z0:(W6).cell? ⟨b6,0,none⟩=some (.int .i64 qa):=(M6.out).cell_ rfl
  have z1:(W6).cell? ⟨b6,1,none⟩=some (.int .i64 qb):=(M6.out).cell_ rfl
  have z2:(W6).cell? ⟨b6,2,none⟩=some (.int .i64 qc):=(M6.out).cell_ rfl
  have z3:(W6).cell? ⟨b6,3,none⟩=some (.int .i64 qd):=(M6.out).cell_ rfl
  have z4:(W6).cell? ⟨b6,4,none⟩=some (.slice X6 qn y6):=(M6.out).cell_ rfl
  go_wp2_with (first
   |(go_at_call 14;(with_reducible refine S1.out.mono ?_);rintro e7 w7 ⟨rfl,rfl⟩)
   |(go_at_call 14;(with_reducible refine S2.out.mono ?_);rintro e7 w7 ⟨rfl,rfl⟩)
   |(go_at_call 22;(with_reducible refine(T1.out _ (Below.refl _ _)).mono ?_);rintro e8 w8 ⟨rfl,h1⟩;have F8:=Lib.hid h1;have yy0:(w8).cell? ⟨b5,0,none⟩=some (.int .i64 qa):=((M5.out.below' H6.out).below' F8.out).cell_ rfl;have yy1:(w8).cell? ⟨b5,1,none⟩=some (.int .i64 qb):=((M5.out.below' H6.out).below' F8.out).cell_ rfl;have yy2:(w8).cell? ⟨b5,2,none⟩=some (.int .i64 qc):=((M5.out.below' H6.out).below' F8.out).cell_ rfl;have yy3:(w8).cell? ⟨b5,3,none⟩=some (.int .i64 qd):=((M5.out.below' H6.out).below' F8.out).cell_ rfl;have yy4:(w8).cell? ⟨b5,4,none⟩=some (.slice X5 qn y5):=((M5.out.below' H6.out).below' F8.out).cell_ rfl;have zz0:(w8).cell? ⟨b6,0,none⟩=some (.int .i64 qa):=(M6.out.below' F8.out).cell_ rfl;have zz1:(w8).cell? ⟨b6,1,none⟩=some (.int .i64 qb):=(M6.out.below' F8.out).cell_ rfl;have zz2:(w8).cell? ⟨b6,2,none⟩=some (.int .i64 qc):=(M6.out.below' F8.out).cell_ rfl;have zz3:(w8).cell? ⟨b6,3,none⟩=some (.int .i64 qd):=(M6.out.below' F8.out).cell_ rfl;have zz4:(w8).cell? ⟨b6,4,none⟩=some (.slice X6 qn y6):=(M6.out.below' F8.out).cell_ rfl;clear h1)
   |(go_at_call 22;(with_reducible refine(T2.out _ F8.out).mono ?_);rintro e10 w10 ⟨rfl,h1⟩;have F10:=Lib.hid (F8.out.trans (h1.mono F8.out.size));clear h1)
   |(go_at_call 9;(refine(known_m _).mono ?_);rintro e9 w9 ⟨rfl,h9⟩;have F9:=Lib.hid h9;clear h9))
  go_ret
  have b6:=B6.out.size
  exact⟨by simp,BU.out.trans ((B6.out.trans ((F10.out.trans (F9.out.mono F10.out.size)).mono b6)).mono BU.out.size)⟩
end Go.Proofs.YteblmphohhbgcaaGreat.Mt
namespace Go.Proofs.YteblmphohhbgcaaGreat.Mt
open Go.RowKit Go.Proofs.YteblmphohhbgcaaGreat.Gn Go.Proofs.YteblmphohhbgcaaGreat.Fd Go.Proofs.YteblmphohhbgcaaGreat.Wr Go.Deep Go.ChangeShapes Go.WideShapes
theorem cells64:Tryz.prog.cellsOf 2=1:=by kernel_rfl
theorem cellsBy:Tryz.prog.cellsOf 25=1:=by kernel_rfl
theorem cells8':Tryz.prog.cellsOf 5=1:=by kernel_rfl
theorem cellsRf:Tryz.prog.cellsOf 38=3:=by kernel_rfl
theorem cellsTm:Tryz.prog.cellsOf 40=5:=by kernel_rfl
theorem cellsTg:Tryz.prog.cellsOf 52=5:=by kernel_rfl
section
variable {H:Type} {enc:TypeId × Value→H} {w:World} {base:Nat} {spare:Nat→Bool} {held:Bool}
theorem open_i1{n:Nat}{p:Value}{y:DataW H × List MemPlace}(g:DataW.trod enc Tryz.prog w base spare held n 2 [p]=some y):∃a:Int,p=.int .i64 a:=by
 obtain⟨K,hK,-, -⟩:=DataW.trod_int Tryz.underlying2 g
 exact⟨K,by simpa using hK⟩
theorem open_b1{n:Nat}{p:Value}{y:DataW H × List MemPlace}(g:DataW.trod enc Tryz.prog w base spare held n 25 [p]=some y):∃r:Rw,p=.slice r.1 r.2.1 r.2.2.1∧Pc w r:=by
 rcases DataW.trod_slice Tryz.underlying25 g with⟨h1,-⟩|⟨a,len,cap,elems,rest,n2,-, h1,h2,-, hlc,-, hel,-⟩
 ·have e:p=.slice none 0 0:=by simpa using h1
  exact⟨(none,0,0,[]),e,nil_pc w⟩
 ·have e:p=.slice (some a) len cap:=by simpa using h1
  subst e
  obtain⟨l,hl⟩:=open_bl Tryz.underlying25 Tryz.underlying5 cells8' (DataW.trod_lt n _ _ _ g) (⟨n,by simpa[Value.cells] using g⟩:DataW.Trod enc Tryz.prog w base spare held 25 (.slice (some a) len cap) y.1 y.2)
  exact⟨(some a,len,cap,l),rfl,bl_pc hl⟩
set_option maxRecDepth 100000 in
theorem open_tm{r:Reach}{b0:Nat}{v:Value}{d:DataW H}{ps:List MemPlace}(hv:Value.okWide Tryz.prog w r b0 40 v)(h:DataW.Trod enc Tryz.prog w base spare held 40 v d ps) :
  ∃(a b c e:Int) (A:Option Addr) (n cp:Nat) (l:List Nat),v=.agg #[.int .i64 a,.int .i64 b,.int .i64 c,.int .i64 e,.slice A n cp]∧Pc w (A,n,cp,l):=by
 have hv':∃cs,v=.agg cs∧cs.size=Tryz.prog.cellsOf 40∧Row.okWide Tryz.prog w r b0 40 cs:=by
  have h:=hv
  unfold Value.okWide at h
  rw[Tryz.underlying40] at h
  exact h
 obtain⟨cs,rfl,hsz,-⟩:=hv'
 obtain⟨l⟩:=cs
 have hl:l.length=5:=hsz.trans cellsTm
 match l,hl with
 | [p0,p1,p2,p3,p4],_ =>
  obtain⟨fuel,hf⟩:=h
  obtain⟨xs,m,-, -, -, hx,hg⟩:=DataW.trod_struct Tryz.underlying40 hf
  match xs,hx with
  | [y0,y1,y2],_ =>
   obtain⟨a,rfl⟩:=open_i1 (p:=p0) (y:=y0) (by have:=hg 0 _ rfl;simpa[Value.cells,cells64] using this)
   obtain⟨b,rfl⟩:=open_i1 (p:=p1) (y:=y1) (by have:=hg 1 _ rfl;simpa[Value.cells,cells64] using this)
   have g2:DataW.trod enc Tryz.prog w base spare held m 38 [p2,p3,p4]=some y2:=by have:=hg 2 _ rfl;simpa[Value.cells,cells64,cellsRf] using this
   obtain⟨xs2,m2,-, -, -, hx2,hg2⟩:=DataW.trod_struct Tryz.underlying38 g2
   match xs2,hx2 with
   | [z0,z1,z2],_ =>
    obtain⟨c,rfl⟩:=open_i1 (p:=p2) (y:=z0) (by have:=hg2 0 _ rfl;simpa[Value.cells,cells64] using this)
    obtain⟨e,rfl⟩:=open_i1 (p:=p3) (y:=z1) (by have:=hg2 1 _ rfl;simpa[Value.cells,cells64] using this)
    obtain⟨rr,rfl,hr⟩:=open_b1 (p:=p4) (y:=z2) (by have:=hg2 2 _ rfl;simpa[Value.cells,cells64,cellsBy] using this)
    exact⟨a,b,c,e,rr.1,rr.2.1,rr.2.2.1,rr.2.2.2,rfl,hr⟩
set_option maxRecDepth 100000 in
theorem open_tg{r:Reach}{b0:Nat}{v:Value}{d:DataW H}{ps:List MemPlace}(hv:Value.okWide Tryz.prog w r b0 52 v)(h:DataW.Trod enc Tryz.prog w base spare held 52 v d ps) :
  ∃(a b c e:Int) (A:Option Addr) (n cp:Nat) (l:List Nat),v=.agg #[.int .i64 a,.int .i64 b,.int .i64 c,.int .i64 e,.slice A n cp]∧Pc w (A,n,cp,l):=by
 have hv':∃cs,v=.agg cs∧cs.size=Tryz.prog.cellsOf 52∧Row.okWide Tryz.prog w r b0 52 cs:=by
  have h:=hv
  unfold Value.okWide at h
  rw[Tryz.underlying52] at h
  exact h
 obtain⟨cs,rfl,hsz,-⟩:=hv'
 obtain⟨l⟩:=cs
 have hl:l.length=5:=hsz.trans cellsTg
 match l,hl with
 | [p0,p1,p2,p3,p4],_ =>
  obtain⟨fuel,hf⟩:=h
  obtain⟨xs,m,-, -, -, hx,hg⟩:=DataW.trod_struct Tryz.underlying52 hf
  match xs,hx with
  | [y0,y1,y2,y3,y4],_ =>
   obtain⟨a,rfl⟩:=open_i1 (p:=p0) (y:=y0) (by have:=hg 0 _ rfl;simpa[Value.cells,cells64] using this)
   obtain⟨b,rfl⟩:=open_i1 (p:=p1) (y:=y1) (by have:=hg 1 _ rfl;simpa[Value.cells,cells64] using this)
   obtain⟨c,rfl⟩:=open_i1 (p:=p2) (y:=y2) (by have:=hg 2 _ rfl;simpa[Value.cells,cells64] using this)
   obtain⟨e,rfl⟩:=open_i1 (p:=p3) (y:=y3) (by have:=hg 3 _ rfl;simpa[Value.cells,cells64] using this)
   obtain⟨rr,rfl,hr⟩:=open_b1 (p:=p4) (y:=y4) (by have:=hg 4 _ rfl;simpa[Value.cells,cells64,cellsBy] using this)
   exact⟨a,b,c,e,rr.1,rr.2.1,rr.2.2.1,rr.2.2.2,rfl,hr⟩
end
end Go.Proofs.YteblmphohhbgcaaGreat.Mt
