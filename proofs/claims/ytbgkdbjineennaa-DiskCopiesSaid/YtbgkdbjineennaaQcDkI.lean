/- Joined texts. -/
import Derived.Test.YtbgkdbjineennaaQcDkH
set_option linter.unusedVariables false
namespace Go.Proofs.Ytbgkdbjineennaa.Dk
open Go.IntWalk Go.RowKit Go.Proofs.Ytbgkdbjineennaa.Gn Go.Proofs.Ytbgkdbjineennaa.Fd Go.Deep
theorem own_held{w:World}{base p:Nat}{H:Value}(h:w.ownsRow base 67 65 H 1 (vw p).toList):∃gh cap cur,H=.slice (some ⟨gh,0,none⟩) 1 cap∧base≤gh∧Bl w gh 67 cur∧1≤cap∧cap≤maxLen∧cur.size=cap*65∧cur.toList.take 65=(vw p).toList:=by
 obtain⟨-, ⟨-, e⟩|⟨gh,cap,cur,rfl,hb,hh,h1,h2,h3,h4⟩⟩:=h
 ·cases e
 ·exact⟨gh,cap,cur,rfl,hb,hh,h1,h2,h3,by simpa using h4⟩
theorem own_empty{w:World}{base gh cap:Nat}{cur:Array Value}(hb:base≤gh)(hh:Bl w gh 67 cur)(h2:cap≤maxLen)(hs:cur.size=cap*65):w.ownsRow base 67 65 (.slice (some ⟨gh,0,none⟩) 0 cap) 0 [] :=
 ⟨by simp,.inr ⟨gh,cap,cur,rfl,hb,hh,Nat.zero_le _,h2,hs,by simp⟩⟩
section
variable {g gb:Nat} {st:Int} {cs:Bool} {cw:Int} {ch:Value} {w:World}
set_option maxRecDepth 100000 in
set_option maxHeartbeats 4000000 in
theorem Flush_one(gh cap p:Nat)(CS cur:Array Value)(h:DB w g gb 128 128 (.slice (some ⟨gh,0,none⟩) 1 cap) true st false cw ch)(hst:0≤st∧st < 1000)(hr:Bl w gb 5 CS)(hCS:CS.size=128)(hp:p < 2)(hh:Bl w gh 67 cur)(hcap:1≤cap)(hcur:cur.size=cap*65)(htk:cur.toList.take 65=(vw p).toList)(hg1:g≠gb)(hg2:g≠gh)(hg3:gb≠gh) :
  Calls Try.prog 12 #[.pointer (some ⟨g,0,none⟩)] w fun e w'=>e=.returned (.int .i64 0)∧∃cur',DB w' g gb 128 128 (.slice (some ⟨gh,0,none⟩) 0 cap) true (st+1) false cw ch∧Bl w' gb 5 (spl CS (64*p) sv)∧Bl w' gh 67 cur'∧cur'.size=cap*65∧Gx [g,gb,gh] w w':=by
 have C:=Lib.hid (ready_up h (by decide))
 have C1:=Lib.hid (stroke_free h hst)
 have C2:=Lib.hid (settle_Flush gh cap p CS cur (h.set3 (st+1)) (hr.other (by simpa using Ne.symm hg1) _) hCS hp (hh.other (by simpa using Ne.symm hg2) _) hcap hcur htk hg1 hg2 hg3)
 have G:=Lib.hid ((Gx.refl [g,gb,gh] w).set (p:=⟨g,3,none⟩) (by simp) (.int .i64 (st+1)))
 clear h hr hh hCS htk hcur
 generalize w.setCell ⟨g,3,none⟩ (.int .i64 (st+1))=w2 at C1 C2 G
 go_enter Try.func12,Try.ntmps12
 go_wp2_with (first|(go_at_call 31;(with_reducible refine C.out.mono ?_);rintro e w1 ⟨rfl,rfl⟩)|(go_at_call 32;(with_reducible refine C1.out.mono ?_);rintro e w1 ⟨rfl,rfl⟩)|(go_at_call 33;(with_reducible refine C2.out.mono ?_);rintro e w3 ⟨⟨v,rfl⟩,cur',k1,k2,k3,k4,k5⟩;have K1:=Lib.hid k1;have K2:=Lib.hid k2;have K3:=Lib.hid k3;have K4:=Lib.hid k4;have K5:=Lib.hid k5;clear k1 k2 k3 k4 k5))
 go_ret
 exact⟨rfl,cur',K1.out,K2.out,K3.out,K4.out,G.out.trans K5.out⟩
set_option maxRecDepth 100000 in
set_option maxHeartbeats 4000000 in
theorem Lose_one(gh cap p q qc:Nat)(CS cur:Array Value)(h:DB w g gb 128 128 (.slice (some ⟨gh,0,none⟩) 1 cap) true st cs cw ch)(hr:Bl w gb 5 CS)(hCS:CS.size=128)(hp:p < 2)(hh:Bl w gh 67 cur)(hcap:1≤cap)(hcur:cur.size=cap*65)(htk:cur.toList.take 65=(vw p).toList)(hg1:g≠gb)(hg2:g≠gh)(hg3:gb≠gh)(hq:w.cell? ⟨q,0,none⟩=some (.bool true))(hqc:1≤qc) :
  Calls Try.prog 14 #[.pointer (some ⟨g,0,none⟩),.slice (some ⟨q,0,none⟩) 1 qc] w fun e w'=>(∃v,e=.returned v)∧∃cur',DB w' g gb 128 128 (.slice (some ⟨gh,0,none⟩) 0 cap) false st cs cw ch∧Bl w' gb 5 (spl CS (64*p) sv)∧Bl w' gh 67 cur'∧cur'.size=cap*65∧Gx [g,gb,gh] w w':=by
 have U:=Lib.hid (fun(W:World) (hb:Below w.heap.size w W)=>up_any (h.below hb) (by decide))
 have S:=Lib.hid (fun(W:World) (hb:Below w.heap.size w W) (B:Nat) (hB:W.cell? ⟨B,0,none⟩=some (.slice (some ⟨q,0,none⟩) 1 qc))=>settle_Lose gh cap p CS cur (h.below hb) (hr.below' hb) hCS hp (hh.below' hb) hcap hcur htk hg1 hg2 hg3 B q qc hB ((hb.cell (p:=⟨q,0,none⟩) (World.block_lt_of_cell? w _ hq)).trans hq))
 clear h hr hh hCS htk hcur
 go_enter Try.func14,Try.ntmps14
 have b0:Below w.heap.size w (w.alloc (.cells #[.slice (some ⟨q,0,none⟩) 1 qc] 24)):=(Below.refl _ _).alloc (Nat.le_refl _) _
 have U0:=Lib.hid (U.out _ b0)
 have S0:=Lib.hid (S.out _ b0 w.heap.size (by exact(Bl.new_ w 24 #[.slice (some ⟨q,0,none⟩) 1 qc]).cell_ (i:=0) rfl))
 have G:=Lib.hid (Gx.of_below (S:=[g,gb,gh]) b0)
 clear S b0 U
 go_wp2_with (first|(go_at_call 9;(with_reducible refine U0.out.mono ?_);rintro e w1 ⟨rfl,rfl⟩)|(go_at_call 33;(with_reducible refine S0.out.mono ?_);rintro e w3 ⟨⟨v,rfl⟩,cur',k1,k2,k3,k4,k5⟩;have c2:=k1.c2;have f2:=k1.fz 2;have K1:=Lib.hid k1;have K2:=Lib.hid k2;have K3:=Lib.hid k3;have K4:=Lib.hid k4;have K5:=Lib.hid k5;clear k1 k2 k3 k4 k5))
 refine bodyPost_end (results_none rfl _ _ _) rfl ?_
 exact⟨⟨_,rfl⟩,cur',K1.out.set2 _,Bl.other K2.out (by simpa using Ne.symm hg1) _,Bl.other K3.out (by simpa using Ne.symm hg2) _,K4.out,(G.out.trans K5.out).set (by simp) _⟩
set_option maxRecDepth 100000 in
set_option maxHeartbeats 4000000 in
theorem stroke_cut(gh cap p q qc:Nat)(CS cur:Array Value)(h:DB w g gb 128 128 (.slice (some ⟨gh,0,none⟩) 1 cap) true st true 0 (.slice (some ⟨q,0,none⟩) 1 qc))(hst:0≤st∧st < 1000)(hr:Bl w gb 5 CS)(hCS:CS.size=128)(hp:p < 2)(hh:Bl w gh 67 cur)(hcap:1≤cap)(hcur:cur.size=cap*65)(htk:cur.toList.take 65=(vw p).toList)(hg1:g≠gb)(hg2:g≠gh)(hg3:gb≠gh)(hq:w.cell? ⟨q,0,none⟩=some (.bool true))(hqg:q≠g)(hqc:1≤qc) :
  Calls Try.prog 32 #[.pointer (some ⟨g,0,none⟩)] w fun e w'=>e=.returned (.int .i64 60)∧∃cur',DB w' g gb 128 128 (.slice (some ⟨gh,0,none⟩) 0 cap) false (st+1) true 0 (.slice (some ⟨q,0,none⟩) 1 qc)∧Bl w' gb 5 (spl CS (64*p) sv)∧Bl w' gh 67 cur'∧cur'.size=cap*65∧Gx [g,gb,gh] w w':=by
 have h2:=h.set3 (st+1)
 have C2:=Lib.hid (Lose_one gh cap p q qc CS cur h2 (hr.other (by simpa using Ne.symm hg1) _) hCS hp (hh.other (by simpa using Ne.symm hg2) _) hcap hcur htk hg1 hg2 hg3 (by refine(World.cell?_of_block (w:=w) ?_).trans hq;exact Below.heap_setCell _ _ _ _ hqg) hqc)
 have G:=Lib.hid ((Gx.refl [g,gb,gh] w).set (p:=⟨g,3,none⟩) (by simp) (.int .i64 (st+1)))
 have c3:=h.c3
 have f3:=h.fz 3
 have c4:=h2.c4
 have c5:=h2.c5
 have c6:=h2.c6
 obtain⟨s0,s1⟩:=hst
 have e1:IntKind.i64.wrap (st+1)=st+1:=i64_in _ (by omega)
 obtain⟨w2,hw2⟩:∃w2,w.setCell ⟨g,3,none⟩ (.int .i64 (st+1))=w2:=⟨_,rfl⟩
 rw[hw2] at c4 c5 c6 C2 G
 clear h h2 hr hh hCS htk hcur hq
 go_enter Try.func32,Try.ntmps32
 go_wp2_with (go_at_call 14;(with_reducible refine C2.out.mono ?_);rintro e w3 ⟨⟨v,rfl⟩,cur',k1,k2,k3,k4,k5⟩;have K1:=Lib.hid k1;have K2:=Lib.hid k2;have K3:=Lib.hid k3;have K4:=Lib.hid k4;have K5:=Lib.hid k5;clear k1 k2 k3 k4 k5)
 go_ret
 exact⟨rfl,cur',K1.out,K2.out,K3.out,K4.out,G.out.trans K5.out⟩
end
end Go.Proofs.Ytbgkdbjineennaa.Dk
