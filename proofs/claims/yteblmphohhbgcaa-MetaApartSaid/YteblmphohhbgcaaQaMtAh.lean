/- Joined texts. -/
import Derived.Test.YteblmphohhbgcaaQaMtX
set_option linter.unusedVariables false
namespace Go.Proofs.Yteblmphohhbgcaa.Mt
open Go.RowKit Go.Proofs.Yteblmphohhbgcaa.Gn Go.Proofs.Yteblmphohhbgcaa.Fd Go.Proofs.Yteblmphohhbgcaa.Wr Go.Deep
set_option maxRecDepth 100000
theorem infoR:(Try.prog.info? 56).map (fun i=>(i.zero,i.size,i.bytes))=some (some (.agg #[.slice none 0 0,.int .i64 0]),2,32):=by kernel_rfl
theorem make_roles(m:Nat)(hm:m≤1000000)(w:World):(Instr.makeSlice 22 (.int .i64 (m:Int)) (.int .i64 (m:Int))).run Try.prog w=.ok (.slice (some ⟨w.heap.size,0,none⟩) m m) (w.alloc (.cells (madeCells #[.slice none 0 0,.int .i64 0] (m*2)) 56)):=by
 obtain⟨i0,hi,hz0,hz1,hz2⟩:=info_parts infoR
 have h:=run_make (P:=Try.prog) w 22 56 i0 _ Try.underlying22 hi hz0 .i64 .i64 (m:Int) (m:Int) (by omega) (Int.le_refl _) (by rw[hz2];omega) (by omega)
 rw[hz1] at h
 exact h
theorem Pr.below{w u:World}{g q:Nat}{wr wh:Bool}{ks:List Tv}(h:Pr w g q wr wh ks)(hb:Below w.heap.size w u):Pr u g q wr wh ks:=⟨h.bl.below' hb,h.fl.below hb,h.ne⟩
theorem Bx.below{w u:World}{bb:Nat}{t:TypeId}{cs:Array Value}(h:Bx w bb t cs)(hb:Below w.heap.size w u):Bx u bb t cs:=⟨h.bl.below' hb,h.pn⟩
theorem len_kids{us:List Tv}{X:Tv}(h:nds us=nds (kids X)):us.length=(kids X).length:=by
 have h2:=congrArg List.length h
 rwa [nds_map,nds_map,List.length_map,List.length_map] at h2
set_option maxHeartbeats 4000000 in
theorem row_bad{w:World}{g q:Nat}{wr wh:Bool}{ks:List Tv}{bb:Nat}{t:TypeId}{cs:Array Value}{v0:Value}(h:Ps w g q wr wh ks bb t cs)(ho:cs[2]?=some v0){L:Tv × Bool × List Tv}(hL:nxt (FL 0 9223372036854775807) 3 wh ks=L){m:Nat}(hm:(kids L.1).length=m)(h4:m≠4)(f:Value):Calls Try.prog 45 #[.pointer (some ⟨g,0,none⟩),.pointer (some ⟨bb,2,none⟩),.int .i64 4,.int .i64 4,f] w fun e w'=>e=.returned (.tuple #[])∧∃z,Ps w' g q true L.2.1 L.2.2 bb t (cs.setIfInBounds 2 (.slice (some ⟨z,0,none⟩) m m))∧Tc (fun k=>k=q∨k=bb∨k=g) w w':=by
 have m9:m≤900000:=by
  have h1:=nxt_kids (F:=FL 0 9223372036854775807) (k:=3) (wh:=wh) h.pr.fl.ok h.sz
  rw[hL] at h1
  have:=szs_len (kids L.1)
  omega
 have CO:=Lib.hid ((open_p h hL).mono fun e w' ⟨g2,q2,us,h1,h2,h3,h4,h5,h6,h7⟩=>(show ∃g2 q2,e=Ending.returned (.tuple #[.pointer (some ⟨g2,0,none⟩),.int .i64 (m:Int)])∧Pr w' g q wr L.2.1 L.2.2∧w.grownBy w' (some q) from⟨g2,q2,by rw[h1,len_kids h2,hm],h4,h7⟩))
 have RM:∀u,(Instr.makeSlice 22 (.int .i64 (m:Int)) (.int .i64 (m:Int))).run Try.prog u=.ok (.slice (some ⟨u.heap.size,0,none⟩) m m) (u.alloc (.cells (madeCells #[.slice none 0 0,.int .i64 0] (m*2)) 56)):=make_roles m (by omega)
 have HL:=Lib.hid (show ∀t∈L.2.2,Wr.sz t≤900000 from by rw[←hL];exact nxt_rest h.sz)
 have HB:=Lib.hid h.bx
 have HQ:=Lib.hid h.nq
 have HG:=Lib.hid h.ng
 have HO:=Lib.hid ho
 clear hL hm ho h m9
 go_enter Try.func45,Try.ntmps45
 go_upto_region 2 with(first
  |(go_at_call 68;(refine CO.out.mono ?_);rintro e w1 ⟨g2,q2,rfl,hr,hw⟩;have R1:=Lib.hid hr;have Q1:=Lib.hid hw;have CR:=Lib.hid (reads_yes hr.bl);clear hr hw)
  |(go_at_call 65;(refine CR.out.mono ?_);rintro e w2 ⟨rfl,rfl⟩))
 have X1:=Lib.hid (below_one w1 (.cells (madeCells #[.slice none 0 0,.int .i64 0] (m*2)) 56))
 have B1:=Lib.hid ((HB.out.tc (Tc.grown Q1.out) (fun e=>HQ.out e)).below X1.out)
 have R2:=Lib.hid (R1.out.below X1.out)
 have T2:=Lib.hid (((Tc.grown Q1.out).mono (T:=fun k=>k=q∨k=bb∨k=g) (fun k _ e=>.inl e)).trans (Tc.below (S:=fun k=>k=q∨k=bb∨k=g) X1.out))
 obtain⟨z,hz⟩:∃z,w1.heap.size=z:=⟨_,rfl⟩
 obtain⟨W2,hW2⟩:∃W2,w1.alloc (.cells (madeCells #[.slice none 0 0,.int .i64 0] (m*2)) 56)=W2:=⟨_,rfl⟩
 rw[hW2] at B1 R2 T2
 have RM1:(Instr.makeSlice 22 (.int .i64 (m:Int)) (.int .i64 (m:Int))).run Try.prog w1=.ok (.slice (some ⟨z,0,none⟩) m m) W2:=by rw[RM,hz,hW2]
 have c2:W2.cell? ⟨bb,2,none⟩=some v0:=B1.out.bl.cell_ HO.out
 have f2:=B1.out.bl.frozen 2
 have B3:=Lib.hid (B1.out.set 2 (.slice (some ⟨z,0,none⟩) m m) rfl)
 have R3:=Lib.hid (R2.out.touch (S:=fun k=>k=bb) ((Tc.refl (fun k=>k=bb) W2).set (p:=⟨bb,2,none⟩) (.inl rfl) (.slice (some ⟨z,0,none⟩) m m)) (fun k e=>e▸B1.out.pnk) (fun e=>HG.out e.symm) (fun e=>HQ.out e.symm))
 have T3:=Lib.hid (T2.out.set (p:=⟨bb,2,none⟩) (.inl (.inr (.inl rfl))) (.slice (some ⟨z,0,none⟩) m m))
 have CM:=Lib.hid (must_any R3.out.bl false)
 have k2:(W2.setCell ⟨bb,2,none⟩ (.slice (some ⟨z,0,none⟩) m m)).cell? ⟨bb,2,none⟩=some (.slice (some ⟨z,0,none⟩) m m):=B3.out.bl.cell_ (by rw[Array.getElem?_setIfInBounds,if_pos rfl,if_pos (Array.getElem?_eq_some_iff.1 HO.out).1])
 rw[Bool.not_false,Bool.or_true] at CM
 clear RM hz hW2 CO CR Q1
 obtain⟨W3,hW3⟩:∃W3,W2.setCell ⟨bb,2,none⟩ (.slice (some ⟨z,0,none⟩) m m)=W3:=⟨_,rfl⟩
 rw[hW3] at B3 R3 T3 CM k2
 rcases Nat.lt_or_gt_of_ne h4 with h5|h5
 ·have q0:(m:Int) < 4:=by omega
  clear h5 h4
  go_upto_region 4 with(go_at_call 69;(refine CM.out.mono ?_);rintro e w4 ⟨rfl,h1,h2⟩;have M4:=Lib.hid h1;have G4:=Lib.hid h2;have m2:w4.cell? ⟨g,2,none⟩=some (.bool true):=h1.cell_ rfl;clear h1 h2)
  go_wp2_with fail
  first|go_end0|refine bodyPost_ret (results_none rfl _ _ _) rfl ?_
  exact⟨rfl,z,⟨⟨M4.out,fl_touch R3.out.fl (Tc.grown G4.out) (fun k e=>e▸R3.out.png) (fun e=>R3.out.ne e.symm),R3.out.ne⟩,B3.out.tc (Tc.grown G4.out) (fun e=>HG.out e),HL.out,HQ.out,HG.out⟩,T3.out.trans ((Tc.grown G4.out).mono (fun k _ e=>.inr (.inr e)))⟩
 ·have q1:(4:Int)≤(m:Int):=by omega
  have q0:¬(m:Int)≤4:=by omega
  clear h5 h4
  go_upto_region 4 with(go_at_call 69;(refine CM.out.mono ?_);rintro e w4 ⟨rfl,h1,h2⟩;have M4:=Lib.hid h1;have G4:=Lib.hid h2;have m2:w4.cell? ⟨g,2,none⟩=some (.bool true):=h1.cell_ rfl;clear h1 h2)
  go_wp2_with fail
  first|go_end0|refine bodyPost_ret (results_none rfl _ _ _) rfl ?_
  exact⟨rfl,z,⟨⟨M4.out,fl_touch R3.out.fl (Tc.grown G4.out) (fun k e=>e▸R3.out.png) (fun e=>R3.out.ne e.symm),R3.out.ne⟩,B3.out.tc (Tc.grown G4.out) (fun e=>HG.out e),HL.out,HQ.out,HG.out⟩,T3.out.trans ((Tc.grown G4.out).mono (fun k _ e=>.inr (.inr e)))⟩
end Go.Proofs.Yteblmphohhbgcaa.Mt
