/- Joined texts. -/
import Derived.Test.YteblmphohhbgcaaQaMtS
set_option linter.unusedVariables false
namespace Go.Proofs.Yteblmphohhbgcaa.Mt
open Go.RowKit Go.Proofs.Yteblmphohhbgcaa.Gn Go.Proofs.Yteblmphohhbgcaa.Fd Go.Proofs.Yteblmphohhbgcaa.Wr Go.Deep
def bd(a b n:Int):Bool:=decide (a≤n) && decide (n≤b)
structure Bo (w:World) (bb:Nat) (t:TypeId) (cs:Array Value):Prop where
 bl:Bl w bb t cs
 t1:t≠94
 t2:t≠80
theorem Bo.fz{w w':World}{lo g bb:Nat}{t:TypeId}{cs:Array Value}(h:Bo w bb t cs)(hf:Fz lo g w w'){wr:Bool}{K:Nat}{N:List Nd}(hp:Px w lo g wr K N):Bo w' bb t cs:=⟨hf.bl h.bl h.t2 (hp.ng h.bl h.t1),h.t1,h.t2⟩
theorem Bo.below{w w':World}{bb:Nat}{t:TypeId}{cs:Array Value}(h:Bo w bb t cs)(hb:Below w.heap.size w w'):Bo w' bb t cs:=⟨h.bl.below' hb,h.t1,h.t2⟩
theorem drewB(w:World)(n:Nat):Below w.heap.size w (w.drewN n):=below_drewN (Below.refl _ w) n
set_option maxHeartbeats 4000000 in
theorem version_x{w:World}{lo g:Nat}{wr:Bool}{K:Nat}{N:List Nd}(h:Px w lo g wr K N){bb o:Nat}{t:TypeId}{cs:Array Value}(hb:Bo w bb t cs){n:Int}(ho:cs[o]?=some (.int .i64 n))(hK:K≤1000000) :
  Calls Try.prog 67 #[.pointer (some ⟨g,0,none⟩),.pointer (some ⟨bb,o,none⟩)] w fun e w'=>e=.returned (.tuple #[])∧Px w' lo g (wr || !bd 1 4611686018427387904 n) (K+1) (N ++ [nN n])∧Fz lo g w w':=by
 have CN:=Lib.hid (number_x h hb.bl ho hb.t1 hb.t2 hK 1 4611686018427387904)
 rw[show(decide ((1:Int)≤n) && decide (n≤4611686018427387904))=bd 1 4611686018427387904 n from rfl] at CN
 clear h hb ho hK
 go_enter Try.func67,Try.ntmps67
 go_wp2_with (go_at_call 51;(refine CN.out.mono ?_);rintro e w1 ⟨rfl,h1,h2⟩;have P1:=Lib.hid h1;have F1:=Lib.hid h2;clear h1 h2)
 first|go_end0|refine bodyPost_ret (results_none rfl _ _ _) rfl ?_
 exact⟨rfl,P1.out,F1.out⟩
def hdB(v e:Int):Bool:=bd 1 4611686018427387904 v && bd 0 4611686018427387904 e
theorem or_and(wr a b:Bool):((wr || !a) || !b)=(wr || !(a && b)):=by cases wr <;> cases a <;> cases b <;> rfl
set_option maxHeartbeats 4000000 in
theorem head_x{w:World}{lo g:Nat}{wr:Bool}{K:Nat}{N:List Nd}(h:Px w lo g wr K N){bb o p:Nat}{t:TypeId}{cs:Array Value}(hb:Bo w bb t cs){n m:Int}(ho:cs[o]?=some (.int .i64 n))(hp:cs[p]?=some (.int .i64 m))(hK:K≤999999) :
  Calls Try.prog 44 #[.pointer (some ⟨g,0,none⟩),.pointer (some ⟨bb,o,none⟩),.pointer (some ⟨bb,p,none⟩)] w fun e w'=>e=.returned (.tuple #[])∧Px w' lo g (wr || !hdB n m) (K+2) (N ++ [nN n,nN m])∧Fz lo g w w':=by
 have CV:=Lib.hid (version_x h hb ho (by omega))
 have HP:=Lib.hid h
 have HB:=Lib.hid hb
 have HO:=Lib.hid hp
 have HK:=Lib.hid hK
 clear h hb ho hp hK
 go_enter Try.func44,Try.ntmps44
 go_wp2_with (first
  |(go_at_call 67;(refine CV.out.mono ?_);rintro e w1 ⟨rfl,h1,h2⟩;have F1:=Lib.hid h2;have B1:=HB.out.fz h2 HP.out;have CN:=Lib.hid (number_x h1 B1.bl HO.out B1.t1 B1.t2 (by have:=HK.out;omega) 0 4611686018427387904);rw[show(decide ((0:Int)≤m) && decide (m≤4611686018427387904))=bd 0 4611686018427387904 m from rfl] at CN;clear h1 h2 B1)
  |(go_at_call 51;(refine CN.out.mono ?_);rintro e w2 ⟨rfl,h1,h2⟩;have P2:=Lib.hid h1;have F2:=Lib.hid h2;clear h1 h2))
 first|go_end0|refine bodyPost_ret (results_none rfl _ _ _) rfl ?_
 refine⟨rfl,?_,F1.out.trans F2.out⟩
 have:=P2.out
 rwa [or_and,List.append_assoc] at this
def rfB(v s:Int)(n:Nat):Bool:=bd 1 4611686018427387904 v && (bd 0 4611686018427387904 s && bd 32 32 n)
abbrev rfN(v s:Int)(l:List Nat):List Nd:=[nN v,nN s,bN l]
set_option maxHeartbeats 4000000 in
theorem ref_x{w:World}{lo g:Nat}{wr:Bool}{K:Nat}{N:List Nd}(h:Px w lo g wr K N){bb:Nat}{t:TypeId}{cs:Array Value}(hb:Bo w bb t cs){n m:Int}{rA:Option Addr}{rn rc:Nat}{rl:List Nat}(ho:cs[2]?=some (.int .i64 n))(hm:cs[3]?=some (.int .i64 m))(hr:cs[4]?=some (.slice rA rn rc))(hp:Pc w (rA,rn,rc,rl))(hin:∀ad,rA=some ad→0 < rl.length→ad.block < lo)(hr9:rn≤1000000)(hK:K≤999998) :
  Calls Try.prog 64 #[.pointer (some ⟨g,0,none⟩),.pointer (some ⟨bb,2,none⟩)] w fun e w'=>e=.returned (.tuple #[])∧Px w' lo g (wr || !rfB n m rn) (K+(3+rn)) (N ++ rfN n m rl)∧Fz lo g w w':=by
 have CV:=Lib.hid (version_x h hb ho (by omega))
 have HP:=Lib.hid h
 have HB:=Lib.hid hb
 have HM:=Lib.hid hm
 have HR:=Lib.hid hr
 have HC:=Lib.hid hp
 have HI:=Lib.hid hin
 have R9:=Lib.hid hr9
 have HK:=Lib.hid hK
 have HL:=Lib.hid h.lt
 clear h hb ho hm hr hp hin hr9 hK
 go_enter Try.func64,Try.ntmps64
 go_wp2_with (first
  |(go_at_call 67;(refine CV.out.mono ?_);rintro e w1 ⟨rfl,h1,h2⟩;have F1:=Lib.hid h2;have B1:=Lib.hid (HB.out.fz h2 HP.out);have P1:=Lib.hid h1;have CN:=Lib.hid (number_x h1 B1.out.bl HM.out B1.out.t1 B1.out.t2 (by have:=HK.out;omega) 0 4611686018427387904);rw[show(decide ((0:Int)≤m) && decide (m≤4611686018427387904))=bd 0 4611686018427387904 m from rfl] at CN;clear h1 h2)
  |(go_at_call 51;(refine CN.out.mono ?_);rintro e w2 ⟨rfl,h1,h2⟩;have F2:=Lib.hid (F1.out.trans h2);have B2:=Lib.hid (B1.out.fz h2 P1.out);have CB:=Lib.hid (bytes_x h1 B2.out.bl HR.out (pc_low HC.out HI.out (F2.out.below HL.out.1 (Nat.le_refl _) (by have:=HL.out;omega))) HI.out R9.out B2.out.t1 B2.out.t2 (by have:=HK.out;omega) 32 32);rw[show(decide ((32:Int)≤(rn:Int)) && decide ((rn:Int)≤32))=bd 32 32 rn from rfl] at CB;clear h1 h2)
  |(go_at_call 52;(refine CB.out.mono ?_);rintro e w3 ⟨rfl,h1,h2⟩;have P3:=Lib.hid h1;have F3:=Lib.hid h2;clear h1 h2))
 first|go_end0|refine bodyPost_ret (results_none rfl _ _ _) rfl ?_
 refine⟨rfl,?_,F2.out.trans F3.out⟩
 have:=P3.out
 rw[or_and,or_and,List.append_assoc,List.append_assoc] at this
 rw[show K+(3+rn)=K+1+1+(1+rn) by omega]
 exact this
set_option maxHeartbeats 4000000 in
theorem inner_x{w:World}{lo g:Nat}{wr:Bool}{K:Nat}{N:List Nd}(h:Px w lo g wr K N){bb:Nat}{t:TypeId}{cs:Array Value}(hb:Bo w bb t cs){n m:Int}{rA:Option Addr}{rn rc:Nat}{rl:List Nat}(ho:cs[2]?=some (.int .i64 n))(hm:cs[3]?=some (.int .i64 m))(hr:cs[4]?=some (.slice rA rn rc))(hp:Pc w (rA,rn,rc,rl))(hr9:rn≤800000)(hK:K≤100000) :
  Calls Try.prog 63 #[.pointer (some ⟨g,0,none⟩),.pointer (some ⟨bb,2,none⟩),.func (.func 64) #[] #[]] w fun e w'=>e=.returned (.tuple #[])∧Px w' lo g (wr || !rfB n m rn) (K+(4+rn)) (N ++ [lN (rfN n m rl)])∧Fz lo g w w':=by
 obtain⟨ks,T,hpw,hN⟩:=h
 have CO:=Lib.hid (open_w hpw.bl)
 have HP:=Lib.hid hpw
 have HN:=Lib.hid hN
 have HB:=Lib.hid hb
 have HO:=Lib.hid ho
 have HM:=Lib.hid hm
 have HR:=Lib.hid hr
 have HC:=Lib.hid hp
 have R9:=Lib.hid hr9
 have HK:=Lib.hid hK
 clear hpw hN hb ho hm hr hp hr9 hK
 go_enter Try.func63,Try.ntmps63
 go_wp2_with (first
  |(go_at_call 68;(refine CO.out.mono ?_);rintro e w1 ⟨rfl,h1,h2⟩;have B1:=Lib.hid h2;have CF:=Lib.hid (ref_x h1 (HB.out.below h2) HO.out HM.out HR.out (HC.out.below h2) (pc_lt HC.out) (by have:=R9.out;omega) (by decide));have L1:=Lib.hid h1.lt;clear h1 h2)
  |(go_at_call 64;(refine CF.out.mono ?_);rintro e w2 ⟨rfl,h1,h2⟩;have B2:=Lib.hid (B1.out.trans (h2.below (Nat.le_refl _) (Nat.le_refl _) (Nat.le_of_lt L1.out.2)));obtain⟨us,T2,p2,n2⟩:=h1;obtain⟨A2,c2,rfl,-⟩:=own_form p2.own;have N2:=Lib.hid n2;have CE:=Lib.hid (end_w (HP.out.below B2.out) p2 HP.out.bl.lt (fun k e=>(own_ltg HP.out.own k e).2) (by have:=HK.out;omega) (by have:=R9.out;omega));clear h2 p2 n2)
  |(go_at_call 70;(refine CE.out.mono ?_);rintro e w3 ⟨rfl,t3,T3,h1,h2,h3,h4⟩;have P3:=Lib.hid h1;have N3:=Lib.hid h2;have F3:=Lib.hid h3;have D3:=Lib.hid h4;clear h1 h2 h3 h4))
 first|go_end0|refine bodyPost_ret (results_none rfl _ _ _) rfl ?_
 have e1:(wr || !!(false || !rfB n m rn))=(wr || !rfB n m rn):=by cases wr <;> cases rfB n m rn <;> rfl
 rw[e1] at P3
 refine⟨rfl,⟨_,T3,⟨P3.out.bl,P3.out.own,P3.out.ok,P3.out.aw,P3.out.low,Nat.le_trans P3.out.sz (by omega),P3.out.up⟩,fun hw=>?_⟩,(Fz.of_below B2.out).trans (.of (HP.out.below B2.out) F3.out D3.out)⟩
 obtain⟨w1',w2'⟩:=or_false hw
 have e2:(false || !rfB n m rn)=false:=by rw[Bool.false_or];exact w2'
 rw[nds_snoc,HN.out w1',N3.out,N2.out e2]
 rfl
end Go.Proofs.Yteblmphohhbgcaa.Mt
namespace Go.Proofs.Yteblmphohhbgcaa.Mt
open Go.RowKit Go.Proofs.Yteblmphohhbgcaa.Gn Go.Proofs.Yteblmphohhbgcaa.Fd Go.Proofs.Yteblmphohhbgcaa.Wr Go.Deep
def tmB(v e rv rs:Int)(n:Nat):Bool:=hdB v e && rfB rv rs n
abbrev tmN(v e rv rs:Int)(l:List Nat):List Nd:=[nN v,nN e,lN (rfN rv rs l)]
set_option maxHeartbeats 4000000 in
theorem timestamp_x{w:World}{lo g:Nat}{wr:Bool}{K:Nat}{N:List Nd}(h:Px w lo g wr K N){bb:Nat}{t:TypeId}{v e rv rs:Int}{rA:Option Addr}{rn rc:Nat}{rl:List Nat}(hb:Bo w bb t #[.int .i64 v,.int .i64 e,.int .i64 rv,.int .i64 rs,.slice rA rn rc])(hp:Pc w (rA,rn,rc,rl))(hin:∀ad,rA=some ad→0 < rl.length→ad.block < lo)(hr9:rn≤800000)(hK:K≤90000) :
  Calls Try.prog 40 #[.pointer (some ⟨g,0,none⟩),.pointer (some ⟨bb,0,none⟩)] w fun e' w'=>e'=.returned (.tuple #[])∧Px w' lo g (wr || !tmB v e rv rs rn) (K+(6+rn)) (N ++ tmN v e rv rs rl)∧Fz lo g w w':=by
 have CH:=Lib.hid (fun n=>head_x (h.below (drewB w n)) (hb.below (drewB w n)) (o:=0) (p:=1) rfl rfl (by omega))
 have HP:=Lib.hid h
 have HB:=Lib.hid hb
 have HC:=Lib.hid hp
 have HI:=Lib.hid hin
 have R9:=Lib.hid hr9
 have HK:=Lib.hid hK
 clear h hb hp hin hr9 hK
 go_enter Try.func40,Try.ntmps40
 go_wp2_with fail
 go_region_with (go_at_call 44;(refine(CH.out _).mono ?_);rintro e1 w1 ⟨rfl,h1,h2⟩;have F1:=Lib.hid ((Fz.of_below (drewB w _)).trans h2);have D1:=F1.out.below HP.out.lt.1 (Nat.le_refl _) (by have:=HP.out.lt;omega);have CI:=Lib.hid (inner_x h1 ((HB.out.below (drewB w _)).fz h2 (HP.out.below (drewB w _))) rfl rfl rfl (pc_low HC.out HI.out D1) R9.out (by have:=HK.out;omega));clear h1 h2 D1)
 all_goals go_wp2_with (go_at_call 63;(refine CI.out.mono ?_);rintro e2 w2 ⟨rfl,h1,h2⟩;have P2:=Lib.hid h1;have F2:=Lib.hid h2;clear h1 h2)
 all_goals(
  first|go_end0|refine bodyPost_ret (results_none rfl _ _ _) rfl ?_
  refine⟨rfl,?_,F1.out.trans F2.out⟩
  have:=P2.out
  rw[or_and,List.append_assoc] at this
  rw[show K+(6+rn)=K+2+(4+rn) by omega]
  exact this)
end Go.Proofs.Yteblmphohhbgcaa.Mt
