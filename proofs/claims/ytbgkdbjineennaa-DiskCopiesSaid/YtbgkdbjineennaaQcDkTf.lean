/- Joined texts. -/
import Derived.Test.YtbgkdbjineennaaQcDkTe
set_option linter.unusedVariables false
namespace Go.Proofs.Ytbgkdbjineennaa.Dk
open Go.IntWalk Go.RowKit Go.Proofs.Ytbgkdbjineennaa.Gn Go.Proofs.Ytbgkdbjineennaa.Fd Go.Deep
theorem same_any(A B:Option Addr)(n m c d:Nat)(l k:List Nat)(w:World)(h1:Sl w A n (bl l))(h2:Sl w B m (bl k)) :
  Calls Try.prog 15 #[.slice A n c,.slice B m d] w fun e w'=>e=.returned (.bool (decide (txt l=txt k)))∧w=w':=by
 have r1:=run_txt (P:=Try.prog) w 22 9 5 Try.underlying22 Try.underlying5 Try.underlying9 A n c l h1
 have r2:=run_txt (P:=Try.prog) w 22 9 5 Try.underlying22 Try.underlying5 Try.underlying9 B m d k h2
 clear h1 h2
 obtain⟨s,hs⟩:∃s,s=txt l:=⟨_,rfl⟩
 obtain⟨t,ht⟩:∃t,t=txt k:=⟨_,rfl⟩
 rw[←hs] at r1
 rw[←ht] at r2
 have HS:=Lib.hid hs
 have HT:=Lib.hid ht
 clear hs ht
 go_enter Try.func15,Try.ntmps15
 go_wp2
 go_ret
 refine⟨ret_bool ?_,rfl⟩
 rw[HS.out,HT.out,ByteArray.toList_eq,ByteArray.toList_eq,Bool.eq_iff_iff,beq_iff_eq,decide_eq_true_iff]
 constructor
 ·intro h
  exact Go.WideShapes.bytes_inj h
 ·intro h;rw[h]
section
variable {w:World} {g gb:Nat} {H:Value} {cs:Bool} {cw:Int} {ch:Value} {m:M} {a0 lo r n K:Nat}
theorem Read_two(R:Rd w a0 lo r n K)(a:Int):Calls Try.prog 48 #[.pointer (some ⟨r,0,none⟩),.int .i64 a] w (TwoQ w):=by
 obtain⟨S,V,dn,st,lf,A,k,c,xs,hs,cb,h,-, -⟩:=R
 refine(Read_r h a).mono ?_
 rintro e w' ⟨rfl,X,rfl,h1,h2⟩
 by_cases h0:thereE dn n a=0
 ·obtain⟨q,cap,l,rfl,-, -, -, h3⟩:=h1 h0
  exact⟨_,_,_,_,_,rfl,h3,by omega,Below.refl _ _⟩
 ·rw[h2 h0]
  exact⟨_,_,_,[],_,rfl,Sl.nil_ _ _,by omega,Below.refl _ _⟩
def SnQ(u:World)(a0 g gb:Nat)(H:Value)(m':M)(e:Ending)(w':World):Prop:=(∃v,e=.returned v)∧∃(H1:Value) (cs1:Bool) (cw1:Int) (ch1:Value),Dd w' a0 g gb H1 cs1 cw1 ch1 m'∧(H1.ownBlock=H.ownBlock∨∃q,H1.ownBlock=some q∧u.heap.size≤q)∧Gx (Ts g gb H) u w'
theorem LoseQ.sn{u:World}{c:List Bool}{e:Ending}{w':World}(h:LoseQ u a0 g gb H cs cw ch m c e w'):SnQ u a0 g gb H (m.lose c) e w':=by
 obtain⟨h1,H1,h2,h3,h4⟩:=h
 exact⟨h1,H1,_,_,_,h2,.inl h3,h4⟩
set_option maxRecDepth 100000 in
set_option maxHeartbeats 8000000 in
theorem plays_2(D:Dd w a0 g gb H cs cw ch m)(R:Rd w a0 lo r n K)(hgb:gb < lo)(h9:m.ss.length≤100)(o:Od)(ho:o.ok w a0)(hK:K+o.bn+1≤9000)(hk:m.hd.length≤K)(hst:m.st≤K):Calls Try.prog 26 #[.pointer (some ⟨g,0,none⟩),.pointer (some ⟨r,0,none⟩),.agg #[.int .i64 2,.int .i64 o.at_,.int .i64 o.nn,.slice o.bA o.bn o.bc,.slice o.cA o.cn o.cc]] w (PlQ w a0 lo g gb H r n (K+o.bn+1) m.flush.2):=by
 have AL:a0≤w.heap.size:=Nat.le_of_lt (Nat.lt_of_le_of_lt D.b1 D.glt)
 have HBX:=Lib.hid (Bl.new_ w 37 #[.int .i64 2,.int .i64 o.at_,.int .i64 o.nn,.slice o.bA o.bn o.bc,.slice o.cA o.cn o.cc])
 obtain⟨W0,hW0⟩:∃W0,w.alloc (.cells #[.int .i64 2,.int .i64 o.at_,.int .i64 o.nn,.slice o.bA o.bn o.bc,.slice o.cA o.cn o.cc] 37)=W0:=⟨_,rfl⟩
 rw[hW0] at HBX
 have BW:=Lib.hid (show Below w.heap.size w W0 from by rw[←hW0];exact(Below.refl _ _).alloc (Nat.le_refl _) _)
 have BD:=Lib.hid (show Below W0.heap.size W0 W0.drew from below_drewN (Below.refl _ _) 1)
 have b0:W0.cell? ⟨w.heap.size,0,none⟩=some (.int .i64 2):=HBX.out.cell_ rfl
 have b1:W0.cell? ⟨w.heap.size,1,none⟩=some (.int .i64 o.at_):=HBX.out.cell_ rfl
 have b2:W0.cell? ⟨w.heap.size,2,none⟩=some (.int .i64 o.nn):=HBX.out.cell_ rfl
 have b3:W0.cell? ⟨w.heap.size,3,none⟩=some (.slice o.bA o.bn o.bc):=HBX.out.cell_ rfl
 have b4:W0.cell? ⟨w.heap.size,4,none⟩=some (.slice o.cA o.cn o.cc):=HBX.out.cell_ rfl
 have HD:=Lib.hid (D.below BW.out)
 have HRR:=Lib.hid (R.below BW.out)
 have HO:=Lib.hid (ho.low (BW.out.mono AL))
 have HDD:=Lib.hid D
 have HGB:=Lib.hid hgb
 have PC:=Lib.hid (fun(u:World) (hu:Below W0.heap.size W0 u)=>(Flush_dd (HD.out.below hu) (by omega) (by omega)).mono fun e w' h=>StQ.of_op h)
 have RC:=Lib.hid (fun(u:World) (hr:Rd u a0 lo r n K) (hu:Below a0 W0 u)=>(Flush_r hr (by omega)).mono fun e w' (h:RopQ u a0 lo r n (K+1) e w')=>show RopQ u a0 lo r n (K+o.bn+1) e w' from⟨h.choose,h.choose_spec.1,h.choose_spec.2.1.more (by omega),h.choose_spec.2.2⟩)
 clear D R ho hgb h9 hK hk hst AL
 obtain⟨MM,hMM⟩:∃MM,m.flush.2=MM:=⟨_,rfl⟩
 have HMM:=Lib.hid hMM
 rw[hMM]
 clear hMM
 go_enter Try.func26,Try.ntmps26
 go_wp2_with (first
  |(go_at_call 12;(with_reducible refine(PC.out _ (Below.refl _ _)).mono ?_);rintro e w1 ⟨er,H1,cs1,cw1,ch1,rfl,d1,o1,g1⟩;have D1:=Lib.hid d1;have O1:=Lib.hid o1;have G1:=Lib.hid (show Gx (Ts g gb H) W0 w1 from g1);have R1:=Lib.hid (HRR.out.ts HD.out HGB.out G1.out);have BL1:=Lib.hid (G1.out.below (Nat.le_of_lt (Nat.lt_of_le_of_lt HD.out.b1 HD.out.glt)) (ts_base HD.out));have BX1:=Lib.hid (G1.out.bl (HD.out.off ⟨_,HBX.out⟩ (by decide) (by decide) (by decide)) HBX.out);have y4:w1.cell? ⟨w.heap.size,4,none⟩=some (.slice o.cA o.cn o.cc):=BX1.out.cell_ rfl;clear d1 o1 g1)
  |(go_at_call 44;(with_reducible refine(RC.out w1 R1.out BL1.out).mono ?_);rintro e w2 ⟨v,rfl,r2,f2⟩;have R2:=Lib.hid r2;have F2:=Lib.hid f2;clear r2 f2))
 go_ret
 rw[←HMM.out]
 exact pl_both HDD.out BW.out G1.out D1.out O1.out R2.out F2.out _
theorem Rd.lose{L:Nat}(hr:Rd w a0 lo r n K)(hL:K≤L)(A2:Option Addr)(k2 c2:Nat)(cb2:List Bool)(hs2:Sl w A2 k2 (cb2.map Value.bool))(hA2:∀ad,A2=some ad→0 < k2→ad.block < a0):Calls Try.prog 46 #[.pointer (some ⟨r,0,none⟩),.slice A2 k2 c2] w (RloseQ w a0 lo r n L):=by
 obtain⟨S,V,dn,st,lf,A,k,c,xs,hs,cb,h,h1,h2⟩:=hr
 exact Lose_r h (by omega) (by omega) A2 k2 c2 cb2 hs2 hA2
set_option maxRecDepth 100000 in
set_option maxHeartbeats 8000000 in
theorem plays_4(D:Dd w a0 g gb H cs cw ch m)(R:Rd w a0 lo r n K)(hgb:gb < lo)(h9:m.ss.length≤100)(o:Od)(ho:o.ok w a0)(hK:K+o.bn+1≤9000)(hk:m.hd.length≤K)(hst:m.st≤K):Calls Try.prog 26 #[.pointer (some ⟨g,0,none⟩),.pointer (some ⟨r,0,none⟩),.agg #[.int .i64 4,.int .i64 o.at_,.int .i64 o.nn,.slice o.bA o.bn o.bc,.slice o.cA o.cn o.cc]] w (PlQ w a0 lo g gb H r n (K+o.bn+1) (m.lose o.cl)):=by
 have AL:a0≤w.heap.size:=Nat.le_of_lt (Nat.lt_of_le_of_lt D.b1 D.glt)
 have HBX:=Lib.hid (Bl.new_ w 37 #[.int .i64 4,.int .i64 o.at_,.int .i64 o.nn,.slice o.bA o.bn o.bc,.slice o.cA o.cn o.cc])
 obtain⟨W0,hW0⟩:∃W0,w.alloc (.cells #[.int .i64 4,.int .i64 o.at_,.int .i64 o.nn,.slice o.bA o.bn o.bc,.slice o.cA o.cn o.cc] 37)=W0:=⟨_,rfl⟩
 rw[hW0] at HBX
 have BW:=Lib.hid (show Below w.heap.size w W0 from by rw[←hW0];exact(Below.refl _ _).alloc (Nat.le_refl _) _)
 have BD:=Lib.hid (show Below W0.heap.size W0 W0.drew from below_drewN (Below.refl _ _) 1)
 have b0:W0.cell? ⟨w.heap.size,0,none⟩=some (.int .i64 4):=HBX.out.cell_ rfl
 have b1:W0.cell? ⟨w.heap.size,1,none⟩=some (.int .i64 o.at_):=HBX.out.cell_ rfl
 have b2:W0.cell? ⟨w.heap.size,2,none⟩=some (.int .i64 o.nn):=HBX.out.cell_ rfl
 have b3:W0.cell? ⟨w.heap.size,3,none⟩=some (.slice o.bA o.bn o.bc):=HBX.out.cell_ rfl
 have b4:W0.cell? ⟨w.heap.size,4,none⟩=some (.slice o.cA o.cn o.cc):=HBX.out.cell_ rfl
 have HD:=Lib.hid (D.below BW.out)
 have HRR:=Lib.hid (R.below BW.out)
 have HO:=Lib.hid (ho.low (BW.out.mono AL))
 have HDD:=Lib.hid D
 have HGB:=Lib.hid hgb
 have PC:=Lib.hid (fun(u:World) (hu:Below W0.heap.size W0 u)=>(Lose_dd (HD.out.below hu) (by omega) o.cA o.cn o.cc o.cl (HO.out.low (hu.mono (Nat.le_trans AL BW.out.size))).c ho.c1 ho.c9 ho.c0 (fun ad e h0=>by have:=ho.c2 ad e h0;have:=D.b2;omega)).mono fun e w' h=>LoseQ.sn h)
 have RC:=Lib.hid (fun(u:World) (hr:Rd u a0 lo r n K) (hu:Below a0 W0 u)=>show Calls Try.prog 46 #[.pointer (some ⟨r,0,none⟩),.slice o.cA o.cn o.cc] u (RloseQ u a0 lo r n (K+o.bn+1)) from hr.lose (by omega) o.cA o.cn o.cc o.cl (HO.out.low hu).c ho.c2)
 clear D R ho hgb h9 hK hk hst AL
 obtain⟨MM,hMM⟩:∃MM,(m.lose o.cl)=MM:=⟨_,rfl⟩
 have HMM:=Lib.hid hMM
 rw[hMM]
 clear hMM
 go_enter Try.func26,Try.ntmps26
 go_wp2_with (first
  |(go_at_call 14;(with_reducible refine(PC.out _ (Below.refl _ _)).mono ?_);rintro e w1 ⟨⟨v1,rfl⟩,H1,cs1,cw1,ch1,d1,o1,g1⟩;have D1:=Lib.hid d1;have O1:=Lib.hid o1;have G1:=Lib.hid (show Gx (Ts g gb H) W0 w1 from g1);have R1:=Lib.hid (HRR.out.ts HD.out HGB.out G1.out);have BL1:=Lib.hid (G1.out.below (Nat.le_of_lt (Nat.lt_of_le_of_lt HD.out.b1 HD.out.glt)) (ts_base HD.out));have BX1:=Lib.hid (G1.out.bl (HD.out.off ⟨_,HBX.out⟩ (by decide) (by decide) (by decide)) HBX.out);have y4:w1.cell? ⟨w.heap.size,4,none⟩=some (.slice o.cA o.cn o.cc):=BX1.out.cell_ rfl;clear d1 o1 g1)
  |(go_at_call 46;(with_reducible refine(RC.out w1 R1.out BL1.out).mono ?_);rintro e w2 ⟨⟨v2,rfl⟩,r2,f2⟩;have R2:=Lib.hid r2;have F2:=Lib.hid f2;clear r2 f2))
 go_ret
 rw[←HMM.out]
 exact pl_both HDD.out BW.out G1.out D1.out O1.out R2.out F2.out _
set_option maxRecDepth 100000 in
set_option maxHeartbeats 8000000 in
theorem plays_5(D:Dd w a0 g gb H cs cw ch m)(R:Rd w a0 lo r n K)(hgb:gb < lo)(h9:m.ss.length≤100)(o:Od)(ho:o.ok w a0)(hK:K+o.bn+1≤9000)(hk:m.hd.length≤K)(hst:m.st≤K):Calls Try.prog 26 #[.pointer (some ⟨g,0,none⟩),.pointer (some ⟨r,0,none⟩),.agg #[.int .i64 5,.int .i64 o.at_,.int .i64 o.nn,.slice o.bA o.bn o.bc,.slice o.cA o.cn o.cc]] w (PlQ w a0 lo g gb H r n (K+o.bn+1) m.start):=by
 have AL:a0≤w.heap.size:=Nat.le_of_lt (Nat.lt_of_le_of_lt D.b1 D.glt)
 have HBX:=Lib.hid (Bl.new_ w 37 #[.int .i64 5,.int .i64 o.at_,.int .i64 o.nn,.slice o.bA o.bn o.bc,.slice o.cA o.cn o.cc])
 obtain⟨W0,hW0⟩:∃W0,w.alloc (.cells #[.int .i64 5,.int .i64 o.at_,.int .i64 o.nn,.slice o.bA o.bn o.bc,.slice o.cA o.cn o.cc] 37)=W0:=⟨_,rfl⟩
 rw[hW0] at HBX
 have BW:=Lib.hid (show Below w.heap.size w W0 from by rw[←hW0];exact(Below.refl _ _).alloc (Nat.le_refl _) _)
 have BD:=Lib.hid (show Below W0.heap.size W0 W0.drew from below_drewN (Below.refl _ _) 1)
 have b0:W0.cell? ⟨w.heap.size,0,none⟩=some (.int .i64 5):=HBX.out.cell_ rfl
 have b1:W0.cell? ⟨w.heap.size,1,none⟩=some (.int .i64 o.at_):=HBX.out.cell_ rfl
 have b2:W0.cell? ⟨w.heap.size,2,none⟩=some (.int .i64 o.nn):=HBX.out.cell_ rfl
 have b3:W0.cell? ⟨w.heap.size,3,none⟩=some (.slice o.bA o.bn o.bc):=HBX.out.cell_ rfl
 have b4:W0.cell? ⟨w.heap.size,4,none⟩=some (.slice o.cA o.cn o.cc):=HBX.out.cell_ rfl
 have HD:=Lib.hid (D.below BW.out)
 have HRR:=Lib.hid (R.below BW.out)
 have HO:=Lib.hid (ho.low (BW.out.mono AL))
 have HDD:=Lib.hid D
 have HGB:=Lib.hid hgb
 have PC:=Lib.hid (fun(u:World) (hu:Below W0.heap.size W0 u)=>(Start_dd (HD.out.below hu)).mono fun e w' h=>show SnQ u a0 g gb H m.start e w' from⟨h.1,H,_,_,_,h.2.1,.inl rfl,h.2.2.mono fun k hk=>by rw[List.mem_singleton.1 hk];simp[Ts]⟩)
 have RC:=Lib.hid (fun(u:World) (hr:Rd u a0 lo r n K) (hu:Below a0 W0 u)=>show Calls Try.prog 47 #[.pointer (some ⟨r,0,none⟩)] u (RloseQ u a0 lo r n (K+o.bn+1)) from(Start_r hr).mono fun e w' h=>⟨h.1,h.2.1.more (by omega),h.2.2⟩)
 clear D R ho hgb h9 hK hk hst AL
 obtain⟨MM,hMM⟩:∃MM,m.start=MM:=⟨_,rfl⟩
 have HMM:=Lib.hid hMM
 rw[hMM]
 clear hMM
 go_enter Try.func26,Try.ntmps26
 go_wp2_with (first
  |(go_at_call 11;(with_reducible refine(PC.out _ (Below.refl _ _)).mono ?_);rintro e w1 ⟨⟨v1,rfl⟩,H1,cs1,cw1,ch1,d1,o1,g1⟩;have D1:=Lib.hid d1;have O1:=Lib.hid o1;have G1:=Lib.hid (show Gx (Ts g gb H) W0 w1 from g1);have R1:=Lib.hid (HRR.out.ts HD.out HGB.out G1.out);have BL1:=Lib.hid (G1.out.below (Nat.le_of_lt (Nat.lt_of_le_of_lt HD.out.b1 HD.out.glt)) (ts_base HD.out));have BX1:=Lib.hid (G1.out.bl (HD.out.off ⟨_,HBX.out⟩ (by decide) (by decide) (by decide)) HBX.out);have y4:w1.cell? ⟨w.heap.size,4,none⟩=some (.slice o.cA o.cn o.cc):=BX1.out.cell_ rfl;clear d1 o1 g1)
  |(go_at_call 47;(with_reducible refine(RC.out w1 R1.out BL1.out).mono ?_);rintro e w2 ⟨⟨v2,rfl⟩,r2,f2⟩;have R2:=Lib.hid r2;have F2:=Lib.hid f2;clear r2 f2))
 go_ret
 rw[←HMM.out]
 exact pl_both HDD.out BW.out G1.out D1.out O1.out R2.out F2.out _
set_option maxRecDepth 100000 in
set_option maxHeartbeats 8000000 in
theorem plays_6(D:Dd w a0 g gb H cs cw ch m)(R:Rd w a0 lo r n K)(hgb:gb < lo)(h9:m.ss.length≤100)(o:Od)(ho:o.ok w a0)(hK:K+o.bn+1≤9000)(hk:m.hd.length≤K)(hst:m.st≤K):Calls Try.prog 26 #[.pointer (some ⟨g,0,none⟩),.pointer (some ⟨r,0,none⟩),.agg #[.int .i64 6,.int .i64 o.at_,.int .i64 o.nn,.slice o.bA o.bn o.bc,.slice o.cA o.cn o.cc]] w (PlQ w a0 lo g gb H r n (K+o.bn+1) m):=by
 have AL:a0≤w.heap.size:=Nat.le_of_lt (Nat.lt_of_le_of_lt D.b1 D.glt)
 have HBX:=Lib.hid (Bl.new_ w 37 #[.int .i64 6,.int .i64 o.at_,.int .i64 o.nn,.slice o.bA o.bn o.bc,.slice o.cA o.cn o.cc])
 obtain⟨W0,hW0⟩:∃W0,w.alloc (.cells #[.int .i64 6,.int .i64 o.at_,.int .i64 o.nn,.slice o.bA o.bn o.bc,.slice o.cA o.cn o.cc] 37)=W0:=⟨_,rfl⟩
 rw[hW0] at HBX
 have BW:=Lib.hid (show Below w.heap.size w W0 from by rw[←hW0];exact(Below.refl _ _).alloc (Nat.le_refl _) _)
 have BD:=Lib.hid (show Below W0.heap.size W0 W0.drew from below_drewN (Below.refl _ _) 1)
 have b0:W0.cell? ⟨w.heap.size,0,none⟩=some (.int .i64 6):=HBX.out.cell_ rfl
 have b1:W0.cell? ⟨w.heap.size,1,none⟩=some (.int .i64 o.at_):=HBX.out.cell_ rfl
 have b2:W0.cell? ⟨w.heap.size,2,none⟩=some (.int .i64 o.nn):=HBX.out.cell_ rfl
 have b3:W0.cell? ⟨w.heap.size,3,none⟩=some (.slice o.bA o.bn o.bc):=HBX.out.cell_ rfl
 have b4:W0.cell? ⟨w.heap.size,4,none⟩=some (.slice o.cA o.cn o.cc):=HBX.out.cell_ rfl
 have HD:=Lib.hid (D.below BW.out)
 have HRR:=Lib.hid (R.below BW.out)
 have HO:=Lib.hid (ho.low (BW.out.mono AL))
 have HDD:=Lib.hid D
 have HGB:=Lib.hid hgb
 have PC:=Lib.hid (Read_dd HD.out (by omega) o.at_)
 have RC:=Lib.hid (fun(u:World) (hr:Rd u a0 lo r n K)=>Read_two hr o.at_)
 have RM:=Lib.hid (show K≤K+o.bn+1 by omega)
 clear D R ho hgb h9 hK hk hst AL
 go_enter Try.func26,Try.ntmps26
 go_upto_region 17 with(first
  |(go_at_call 24;(with_reducible refine(PC.out).mono ?_);rintro e w1 ⟨A1,n1,c1,l1,e1,rfl,s1,h1,b1'⟩;have S1:=Lib.hid s1;have B1:=Lib.hid b1';have R1:=Lib.hid (HRR.out.below b1');have BX1:=HBX.out.below' b1';have y1:w1.cell? ⟨w.heap.size,1,none⟩=some (.int .i64 o.at_):=BX1.cell_ rfl;have y2:w1.cell? ⟨w.heap.size,2,none⟩=some (.int .i64 o.nn):=BX1.cell_ rfl;clear s1 b1' BX1)
  |(go_at_call 48;(with_reducible refine(RC.out w1 R1.out).mono ?_);rintro e w2 ⟨A2,n2,c2,l2,e2,rfl,s2,h2,b2'⟩;have S2:=Lib.hid s2;have B2:=Lib.hid b2';clear s2 b2'))
 have SB:=same_any A1 A2 n1 n2 c1 c2 l1 l2 w2 (S1.out.below B2.out) S2.out
 have BB:=Lib.hid (B1.out.trans (B2.out.mono B1.out.size))
 by_cases ht:txt l1=txt l2
 ·rw[decide_eq_true ht] at SB
  have SB:=Lib.hid SB
  clear ht
  go_wp2_with (go_at_call 15;(with_reducible refine SB.out.mono ?_);rintro e w3 ⟨rfl,rfl⟩)
  go_ret
  exact pl_both HDD.out BW.out (Gx.of_below BB.out) (HD.out.below BB.out) (.inl rfl) ((HRR.out.below BB.out).more RM.out) (Fx.refl _ _ _) _
 ·rw[decide_eq_false ht] at SB
  have SB:=Lib.hid SB
  clear ht
  go_wp2_with (go_at_call 15;(with_reducible refine SB.out.mono ?_);rintro e w3 ⟨rfl,rfl⟩)
  go_ret
  exact pl_both HDD.out BW.out (Gx.of_below BB.out) (HD.out.below BB.out) (.inl rfl) ((HRR.out.below BB.out).more RM.out) (Fx.refl _ _ _) _
set_option maxRecDepth 100000 in
set_option maxHeartbeats 8000000 in
theorem plays_7(D:Dd w a0 g gb H cs cw ch m)(R:Rd w a0 lo r n K)(hgb:gb < lo)(h9:m.ss.length≤100)(o:Od)(ho:o.ok w a0)(hK:K+o.bn+1≤9000)(hk:m.hd.length≤K)(hst:m.st≤K):Calls Try.prog 26 #[.pointer (some ⟨g,0,none⟩),.pointer (some ⟨r,0,none⟩),.agg #[.int .i64 7,.int .i64 o.at_,.int .i64 o.nn,.slice o.bA o.bn o.bc,.slice o.cA o.cn o.cc]] w (PlQ w a0 lo g gb H r n (K+o.bn+1) m):=by
 have AL:a0≤w.heap.size:=Nat.le_of_lt (Nat.lt_of_le_of_lt D.b1 D.glt)
 have HBX:=Lib.hid (Bl.new_ w 37 #[.int .i64 7,.int .i64 o.at_,.int .i64 o.nn,.slice o.bA o.bn o.bc,.slice o.cA o.cn o.cc])
 obtain⟨W0,hW0⟩:∃W0,w.alloc (.cells #[.int .i64 7,.int .i64 o.at_,.int .i64 o.nn,.slice o.bA o.bn o.bc,.slice o.cA o.cn o.cc] 37)=W0:=⟨_,rfl⟩
 rw[hW0] at HBX
 have BW:=Lib.hid (show Below w.heap.size w W0 from by rw[←hW0];exact(Below.refl _ _).alloc (Nat.le_refl _) _)
 have BD:=Lib.hid (show Below W0.heap.size W0 W0.drew from below_drewN (Below.refl _ _) 1)
 have b0:W0.cell? ⟨w.heap.size,0,none⟩=some (.int .i64 7):=HBX.out.cell_ rfl
 have b1:W0.cell? ⟨w.heap.size,1,none⟩=some (.int .i64 o.at_):=HBX.out.cell_ rfl
 have b2:W0.cell? ⟨w.heap.size,2,none⟩=some (.int .i64 o.nn):=HBX.out.cell_ rfl
 have b3:W0.cell? ⟨w.heap.size,3,none⟩=some (.slice o.bA o.bn o.bc):=HBX.out.cell_ rfl
 have b4:W0.cell? ⟨w.heap.size,4,none⟩=some (.slice o.cA o.cn o.cc):=HBX.out.cell_ rfl
 have HD:=Lib.hid (D.below BW.out)
 have HRR:=Lib.hid (R.below BW.out)
 have HO:=Lib.hid (ho.low (BW.out.mono AL))
 have HDD:=Lib.hid D
 have HGB:=Lib.hid hgb
 have PC:=Lib.hid (Load_dd HD.out (by omega) h9 o.at_ o.nn ho.n9)
 have RC:=Lib.hid (fun(u:World) (hr:Rd u a0 lo r n K)=>Load_r hr o.at_ o.nn)
 have RM:=Lib.hid (show K≤K+o.bn+1 by omega)
 clear D R ho hgb h9 hK hk hst AL
 go_enter Try.func26,Try.ntmps26
 go_upto_region 21 with(first
  |(go_at_call 22;(with_reducible refine(PC.out).mono ?_);rintro e w1 ⟨A1,n1,c1,l1,e1,rfl,s1,h1,b1'⟩;have S1:=Lib.hid s1;have B1:=Lib.hid b1';have R1:=Lib.hid (HRR.out.below b1');have BX1:=HBX.out.below' b1';have y1:w1.cell? ⟨w.heap.size,1,none⟩=some (.int .i64 o.at_):=BX1.cell_ rfl;have y2:w1.cell? ⟨w.heap.size,2,none⟩=some (.int .i64 o.nn):=BX1.cell_ rfl;clear s1 b1' BX1)
  |(go_at_call 49;(with_reducible refine(RC.out w1 R1.out).mono ?_);rintro e w2 ⟨A2,n2,c2,l2,e2,rfl,s2,h2,b2'⟩;have S2:=Lib.hid s2;have B2:=Lib.hid b2';clear s2 b2'))
 have SB:=same_any A1 A2 n1 n2 c1 c2 l1 l2 w2 (S1.out.below B2.out) S2.out
 have BB:=Lib.hid (B1.out.trans (B2.out.mono B1.out.size))
 by_cases ht:txt l1=txt l2
 ·rw[decide_eq_true ht] at SB
  have SB:=Lib.hid SB
  clear ht
  go_wp2_with (go_at_call 15;(with_reducible refine SB.out.mono ?_);rintro e w3 ⟨rfl,rfl⟩)
  go_ret
  exact pl_both HDD.out BW.out (Gx.of_below BB.out) (HD.out.below BB.out) (.inl rfl) ((HRR.out.below BB.out).more RM.out) (Fx.refl _ _ _) _
 ·rw[decide_eq_false ht] at SB
  have SB:=Lib.hid SB
  clear ht
  go_wp2_with (go_at_call 15;(with_reducible refine SB.out.mono ?_);rintro e w3 ⟨rfl,rfl⟩)
  go_ret
  exact pl_both HDD.out BW.out (Gx.of_below BB.out) (HD.out.below BB.out) (.inl rfl) ((HRR.out.below BB.out).more RM.out) (Fx.refl _ _ _) _
set_option maxRecDepth 100000 in
set_option maxHeartbeats 8000000 in
theorem plays_0(D:Dd w a0 g gb H cs cw ch m)(R:Rd w a0 lo r n K)(hgb:gb < lo)(h9:m.ss.length≤100)(o:Od)(ho:o.ok w a0)(hK:K+o.bn+1≤9000)(hk:m.hd.length≤K)(hst:m.st≤K)(k1:o.kd≠1)(k2:o.kd≠2)(k3:o.kd≠3)(k4:o.kd≠4)(k5:o.kd≠5)(k6:o.kd≠6)(k7:o.kd≠7)(k8:o.kd≠8):Calls Try.prog 26 #[.pointer (some ⟨g,0,none⟩),.pointer (some ⟨r,0,none⟩),.agg #[.int .i64 o.kd,.int .i64 o.at_,.int .i64 o.nn,.slice o.bA o.bn o.bc,.slice o.cA o.cn o.cc]] w (PlQ w a0 lo g gb H r n (K+o.bn+1) m):=by
 have AL:a0≤w.heap.size:=Nat.le_of_lt (Nat.lt_of_le_of_lt D.b1 D.glt)
 have HBX:=Lib.hid (Bl.new_ w 37 #[.int .i64 o.kd,.int .i64 o.at_,.int .i64 o.nn,.slice o.bA o.bn o.bc,.slice o.cA o.cn o.cc])
 obtain⟨W0,hW0⟩:∃W0,w.alloc (.cells #[.int .i64 o.kd,.int .i64 o.at_,.int .i64 o.nn,.slice o.bA o.bn o.bc,.slice o.cA o.cn o.cc] 37)=W0:=⟨_,rfl⟩
 rw[hW0] at HBX
 have BW:=Lib.hid (show Below w.heap.size w W0 from by rw[←hW0];exact(Below.refl _ _).alloc (Nat.le_refl _) _)
 have BD:=Lib.hid (show Below W0.heap.size W0 W0.drew from below_drewN (Below.refl _ _) 1)
 have b0:W0.cell? ⟨w.heap.size,0,none⟩=some (.int .i64 o.kd):=HBX.out.cell_ rfl
 have b1:W0.cell? ⟨w.heap.size,1,none⟩=some (.int .i64 o.at_):=HBX.out.cell_ rfl
 have b2:W0.cell? ⟨w.heap.size,2,none⟩=some (.int .i64 o.nn):=HBX.out.cell_ rfl
 have b3:W0.cell? ⟨w.heap.size,3,none⟩=some (.slice o.bA o.bn o.bc):=HBX.out.cell_ rfl
 have b4:W0.cell? ⟨w.heap.size,4,none⟩=some (.slice o.cA o.cn o.cc):=HBX.out.cell_ rfl
 have HD:=Lib.hid (D.below BW.out)
 have HRR:=Lib.hid (R.below BW.out)
 have HO:=Lib.hid (ho.low (BW.out.mono AL))
 have HDD:=Lib.hid D
 have HGB:=Lib.hid hgb
 have RM:=Lib.hid (show K≤K+o.bn+1 by omega)
 clear D R ho hgb h9 hK hk hst AL
 have z1:(o.kd == 1)=false:=by rw[beq_eq_false_iff_ne];exact k1
 have z2:(o.kd == 2)=false:=by rw[beq_eq_false_iff_ne];exact k2
 have z3:(o.kd == 3)=false:=by rw[beq_eq_false_iff_ne];exact k3
 have z4:(o.kd == 4)=false:=by rw[beq_eq_false_iff_ne];exact k4
 have z5:(o.kd == 5)=false:=by rw[beq_eq_false_iff_ne];exact k5
 have z6:(o.kd == 6)=false:=by rw[beq_eq_false_iff_ne];exact k6
 have z7:(o.kd == 7)=false:=by rw[beq_eq_false_iff_ne];exact k7
 have z8:(o.kd == 8)=false:=by rw[beq_eq_false_iff_ne];exact k8
 clear k1 k2 k3 k4 k5 k6 k7 k8
 go_enter Try.func26,Try.ntmps26
 go_wp2_with fail
 go_ret
 exact pl_both HDD.out BW.out (Gx.refl _ _) HD.out (.inl rfl) (HRR.out.more RM.out) (Fx.refl _ _ _) _
theorem plays_any(D:Dd w a0 g gb H cs cw ch m)(R:Rd w a0 lo r n K)(hgb:gb < lo)(h9:m.ss.length≤100)(o:Od)(ho:o.ok w a0)(hK:K+o.bn+1≤9000)(hk:m.hd.length≤K)(hst:m.st≤K):Calls Try.prog 26 #[.pointer (some ⟨g,0,none⟩),.pointer (some ⟨r,0,none⟩),.agg #[.int .i64 o.kd,.int .i64 o.at_,.int .i64 o.nn,.slice o.bA o.bn o.bc,.slice o.cA o.cn o.cc]] w (PlQ w a0 lo g gb H r n (K+o.bn+1) (m.play o)):=by
 unfold M.play
 by_cases k1:o.kd=1
 ·have:=plays_1 D R hgb h9 o ho hK hk hst
  rw[k1]
  exact this
 by_cases k2:o.kd=2
 ·have:=plays_2 D R hgb h9 o ho hK hk hst
  rw[k2]
  exact this
 by_cases k3:o.kd=3
 ·have:=plays_3 D R hgb h9 o ho hK hk hst
  rw[k3]
  exact this
 by_cases k4:o.kd=4
 ·have:=plays_4 D R hgb h9 o ho hK hk hst
  rw[k4]
  exact this
 by_cases k5:o.kd=5
 ·have:=plays_5 D R hgb h9 o ho hK hk hst
  rw[k5]
  exact this
 by_cases k6:o.kd=6
 ·have:=plays_6 D R hgb h9 o ho hK hk hst
  rw[k6]
  exact this
 by_cases k7:o.kd=7
 ·have:=plays_7 D R hgb h9 o ho hK hk hst
  rw[k7]
  exact this
 by_cases k8:o.kd=8
 ·have:=plays_8 D R hgb h9 o ho hK hk hst
  rw[k8]
  exact this
 rw[if_neg k1,if_neg k2,if_neg k3,if_neg k4,if_neg k5,if_neg k8]
 exact plays_0 D R hgb h9 o ho hK hk hst k1 k2 k3 k4 k5 k6 k7 k8
end
end Go.Proofs.Ytbgkdbjineennaa.Dk
