/- Joined texts. -/
import Derived.Deep.RegionHeld
import Derived.Deep.AppendLies
import Derived.Test.YteblmphohhbgcaaQaMkSeq
import Derived.Test.YteblmphohhbgcaaQaWrCount
set_option linter.unusedVariables false
namespace Go.Proofs.Yteblmphohhbgcaa.Wr
open Go.RowKit Go.Proofs.Yteblmphohhbgcaa.Gn Go.Proofs.Yteblmphohhbgcaa.Fd Go.Deep
structure Fr (w w':World) (Q:Nat) (T T':Value):Prop where
 size:w.heap.size≤w'.heap.size
 keep:∀k,k < w.heap.size→k≠Q→T.ownBlock≠some k→w'.heap[k]?=w.heap[k]?
 own:∀k,T'.ownBlock=some k→T.ownBlock=some k∨w.heap.size≤k
theorem setc_size(w:World)(a:Addr)(v:Value):(w.setCell a v).heap.size=w.heap.size:=by unfold World.setCell;split <;> simp
theorem take_l{P:Program}{ops:Array Oper}{Q:Exit→Act→World→Prop}{md:Region.Mode}{S:World→Prop}(i:Nat){oi:Oper}{v:Value}{fuel:Nat}{listed:Array Bool}{a:Act}{w:World}(hi:ops.toList[i]?=some oi)
  (hs:Region.noSelect ops=true) (hf:Region.free md ops listed i=true) (hr:(Region.ready md ops listed).contains i=true)
  (hQ:∀c a w,Q (.panic c) (a.put oi.dst v) w→Q (.panic c) a w) (hy:YieldsIf P ops S oi v a) (hS:S w)
  (h:wpAnyH P md ops Q S fuel (listed.setIfInBounds i true) (a.put oi.dst v) w):wpAnyH P md ops Q S (fuel+1) listed a w :=
 wpAnyH_take (by rw[←Array.getElem?_toList];exact hi) hs hf hr hQ hy hS h
theorem cons_l{P:Program}{ops:Array Oper}{Q:Exit→Act→World→Prop}{md:Region.Mode}{S:World→Prop}{fuel:Nat}{listed:Array Bool}{a:Act}{w:World}{i:Nat}{o:Oper}{rs:List Nat}(ho:ops.toList[i]?=some o)
  (h:∀K':Act→World→Prop,Shut (∀a w,S w→(S w→wpAnyH P md ops Q S fuel (listed.setIfInBounds i true) a w)→K' a w)→if Region.wanted o (yielded ops a.tmps)=true then Oper.wp P o a w K' Q else K' (a.put o.dst undef) w)
  (hs:AllReadyH P md ops Q S fuel listed a w rs):AllReadyH P md ops Q S fuel listed a w (i :: rs) :=
 AllReadyH.cons (by rw[←Array.getElem?_toList];exact ho) h hs
structure Wt (w:World) (g:Nat) (a b c d k:Int) (l:List Nat) (T:Value):Prop where
 row:Bl w g 121 #[.int .i64 a,.int .i64 b,.int .i64 c,.int .i64 d,.int .i64 k,T]
 own:w.ownsRow (g+1) 5 1 T l.length (bl l)
set_option maxHeartbeats 4000000 in
set_option maxRecDepth 100000 in
theorem wcount_any{w:World}{g:Nat}{a b c d k:Int}{l:List Nat}{T:Value}(h:Wt w g a b c d k l T)(hl:l.length≤900000)(n:Nat)(hn:n < 2 ^ 64) :
  Calls Try.prog 92 #[.pointer (some ⟨g,0,none⟩),.int .u64 (n:Int)] w fun e w'=>e=.returned (.tuple #[])∧∃T',Wt w' g a b c d k (l ++ cb n) T'∧Fr w w' g T T'∧Below g w w':=by
 obtain⟨i0,hi,hz0,hz1,hz2⟩:=info_parts infob8
 have c5:w.cell? ⟨g,5,none⟩=some T:=h.row.cell_ rfl
 have CP:=Lib.hid (fun u=>count_any n hn u)
 have H:=Lib.hid h
 have glt:g < w.heap.size:=Bl.lt (t:=121) h.row
 obtain⟨L,hL⟩:∃L,(cb n).length=L:=⟨_,rfl⟩
 have LN:=Lib.hid hL
 have L9:=cb_len hn
 have L0:0 < L:=by rw[←hL];unfold cb;split <;> simp
 rw[hL] at L9
 clear h hL
 go_enter Try.func92,Try.ntmps92
 refine wp_region_held_drew (S:=fun _=>True) (by kernel_rfl) trivial (fun _=>?_)
 refine take_l 0 (v:=?_) rfl (by kernel_rfl) (by kernel_rfl) (by kernel_rfl) (fun _ _ _ h=>h) (Or.inl ⟨by rfl,?_⟩) trivial ?_;rotate_left
 ·intro w' hSw
  go_simp
  all_goals with_reducible rfl
 try simp only[Act.put,List.setIfInBounds_toArray,List.set_cons_zero,List.set_cons_succ]
 refine take_l 1 (v:=?_) rfl (by kernel_rfl) (by kernel_rfl) (by kernel_rfl) (fun _ _ _ h=>h) (Or.inl ⟨by rfl,?_⟩) trivial ?_;rotate_left
 ·intro w' hSw
  go_simp
  all_goals with_reducible rfl
 try simp only[Act.put,List.setIfInBounds_toArray,List.set_cons_zero,List.set_cons_succ]
 refine take_l 2 (v:=?_) rfl (by kernel_rfl) (by kernel_rfl) (by kernel_rfl) (fun _ _ _ h=>h) (Or.inl ⟨by rfl,?_⟩) trivial ?_;rotate_left
 ·intro w' hSw
  go_simp
  all_goals with_reducible rfl
 try simp only[Act.put,List.setIfInBounds_toArray,List.set_cons_zero,List.set_cons_succ]
 refine take_l 3 (v:=?_) rfl (by kernel_rfl) (by kernel_rfl) (by kernel_rfl) (fun _ _ _ h=>h) (Or.inl ⟨by rfl,?_⟩) trivial ?_;rotate_left
 ·intro w' hSw
  go_simp
  all_goals with_reducible rfl
 try simp only[Act.put,List.setIfInBounds_toArray,List.set_cons_zero,List.set_cons_succ]
 refine take_l 5 (v:=?_) rfl (by kernel_rfl) (by kernel_rfl) (by kernel_rfl) (fun _ _ _ h=>h) (Or.inl ⟨by rfl,?_⟩) trivial ?_;rotate_left
 ·intro w' hSw
  go_simp
  all_goals with_reducible rfl
 try simp only[Act.put,List.setIfInBounds_toArray,List.set_cons_zero,List.set_cons_succ]
 refine wpAnyH_ready (rs:=[4,6]) (by kernel_rfl) (by simp) ?_
 refine cons_l rfl (fun K0 hK=>?_) (cons_l rfl (fun K0 hK=>?_) AllReadyH.nil)
 ·go_simp
  refine hK.out _ _ trivial (fun _=>?_)
  clear hK K0
  try simp only[Act.put,List.setIfInBounds_toArray,List.set_cons_zero,List.set_cons_succ]
  refine wpAnyH_ready (rs:=[6]) (by kernel_rfl) (by simp) ?_
  refine cons_l rfl (fun K0 hK=>?_) AllReadyH.nil
  go_simp
  (go_at_call 99;(refine(CP.out _).mono ?_);rintro e w1 ⟨g2,c2,rfl,hp,hg2,hb⟩)
  have hb0:Below w.heap.size w w1:=⟨hb.os,hb.tape,hb.output,hb.size,hb.block⟩
  have HB:=Lib.hid hb0
  have R1:=Lib.hid (show Bl w1 g 121 _ from(hb0.block g glt).trans H.out.row)
  have O1:=Lib.hid (own_below H.out.own hb0)
  have SP:=Lib.hid hp.row
  have c5':w1.cell? ⟨g,5,none⟩=some T:=R1.out.cell_ rfl
  clear hb0 hp hg2 hb
  refine hK.out _ _ trivial (fun _=>?_)
  clear hK K0
  try simp only[Act.put,List.setIfInBounds_toArray,List.set_cons_zero,List.set_cons_succ]
  refine wpAnyH_ready (rs:=[7]) (by kernel_rfl) (by simp) ?_
  refine cons_l rfl (fun K0 hK=>?_) AllReadyH.nil
  rw[LN.out]
  refine step_append_lies w1 rfl _ _ 25 rfl (g+1) 5 i0 _ 1 1 Try.underlying25 hi hz0 hz1 hz2 rfl (by decide) T l.length (bl l) rfl O1.out ⟨g2,0,none⟩ L c2 (bl (cb n)) rfl (by rw[bl_length,LN.out,Nat.mul_one]) (fun j u hu=>by obtain⟨ad,e,hc⟩:=SP.out.2 j u hu;cases e;exact hc) (bl_one _) L0 (by unfold maxLen;omega) (by omega) (by have:=HB.out.size;omega) _ rfl ?_
  intro g4 cap4 w4 hown4 hgrow4 hat4 hlt4
  have GR:=Lib.hid hgrow4
  have AT:=Lib.hid hat4
  have OW:=Lib.hid hown4
  have R4:=Lib.hid (show Bl w4 g 121 _ from(hgrow4.block g (Nat.lt_of_lt_of_le glt HB.out.size) (fun e=>by have:=own_rows O1.out g e.symm;omega)).trans R1.out)
  have c54:w4.cell? ⟨g,5,none⟩=some T:=R4.out.cell_ rfl
  have f54:=R4.out.frozen 5
  clear hown4 hgrow4 hat4
  refine hK.out _ _ trivial (fun _=>?_)
  clear hK K0
  try simp only[Act.put,List.setIfInBounds_toArray,List.set_cons_zero,List.set_cons_succ]
  refine wpAnyH_ready (rs:=[8]) (by kernel_rfl) (by simp) ?_
  refine cons_l rfl (fun K0 hK=>?_) AllReadyH.nil
  go_simp
  refine hK.out _ _ trivial (fun _=>?_)
  clear hK K0
  try simp only[Act.put,List.setIfInBounds_toArray,List.set_cons_zero,List.set_cons_succ]
  refine wpAnyH_ready (rs:=[9]) (by kernel_rfl) (by simp) ?_
  refine cons_l rfl (fun K0 hK=>?_) AllReadyH.nil
  go_simp
  refine hK.out _ _ trivial (fun _=>?_)
  clear hK K0
  try simp only[Act.put,List.setIfInBounds_toArray,List.set_cons_zero,List.set_cons_succ]
  refine wpAnyH_ready (rs:=[10]) (by kernel_rfl) (by simp) ?_
  refine cons_l rfl (fun K0 hK=>?_) AllReadyH.nil
  go_simp
  refine hK.out _ _ trivial (fun _=>?_)
  clear hK K0
  try simp only[Act.put,List.setIfInBounds_toArray,List.set_cons_zero,List.set_cons_succ]
  refine wpAnyH_done (by kernel_rfl) ?_ _
  go_wp2_with fail
  first|go_end0|refine bodyPost_ret (results_none rfl _ _ _) rfl ?_
  refine⟨rfl,_,⟨R4.out.set_ 5 _,?_⟩,⟨?_,?_,?_⟩,?_⟩
  ·have h:=ownsRow_setCell_below OW.out (a:=⟨g,5,none⟩) (Nat.lt_succ_self g) (.slice (some ⟨g4,0,none⟩) (l.length+L) cap4)
   rw[List.length_append,LN.out]
   simpa[bl] using h
  ·rw[setc_size];exact Nat.le_trans HB.out.size GR.out.size
  ·intro j hj hg hT
   exact(Below.heap_setCell w4 ⟨g,5,none⟩ _ j (by show j≠g;exact hg)).trans ((GR.out.block j (Nat.lt_of_lt_of_le hj HB.out.size) (fun e=>hT e.symm)).trans (HB.out.block j hj))
  ·intro j hj
   have hj:g4=j:=by simpa[Value.ownBlock] using hj
   subst hj
   rcases AT.out with h|h
   ·exact .inl h
   ·exact .inr (by rw[h];exact HB.out.size)
  ·refine(((HB.out.mono (Nat.le_of_lt glt)).grown GR.out ?_ ?_).setCell (p:=⟨g,5,none⟩) (Nat.le_refl _) _)
   ·have:=HB.out.size;omega
   ·intro j hj;have:=own_rows O1.out j hj;omega
 ·go_simp
  (go_at_call 99;(refine(CP.out _).mono ?_);rintro e w1 ⟨g2,c2,rfl,hp,hg2,hb⟩)
  have hb0:Below w.heap.size w w1:=⟨hb.os,hb.tape,hb.output,hb.size,hb.block⟩
  have HB:=Lib.hid hb0
  have R1:=Lib.hid (show Bl w1 g 121 _ from(hb0.block g glt).trans H.out.row)
  have O1:=Lib.hid (own_below H.out.own hb0)
  have SP:=Lib.hid hp.row
  have c5':w1.cell? ⟨g,5,none⟩=some T:=R1.out.cell_ rfl
  clear hb0 hp hg2 hb
  refine hK.out _ _ trivial (fun _=>?_)
  clear hK K0
  try simp only[Act.put,List.setIfInBounds_toArray,List.set_cons_zero,List.set_cons_succ]
  refine wpAnyH_ready (rs:=[4]) (by kernel_rfl) (by simp) ?_
  refine cons_l rfl (fun K0 hK=>?_) AllReadyH.nil
  go_simp
  refine hK.out _ _ trivial (fun _=>?_)
  clear hK K0
  try simp only[Act.put,List.setIfInBounds_toArray,List.set_cons_zero,List.set_cons_succ]
  refine wpAnyH_ready (rs:=[7]) (by kernel_rfl) (by simp) ?_
  refine cons_l rfl (fun K0 hK=>?_) AllReadyH.nil
  rw[LN.out]
  refine step_append_lies w1 rfl _ _ 25 rfl (g+1) 5 i0 _ 1 1 Try.underlying25 hi hz0 hz1 hz2 rfl (by decide) T l.length (bl l) rfl O1.out ⟨g2,0,none⟩ L c2 (bl (cb n)) rfl (by rw[bl_length,LN.out,Nat.mul_one]) (fun j u hu=>by obtain⟨ad,e,hc⟩:=SP.out.2 j u hu;cases e;exact hc) (bl_one _) L0 (by unfold maxLen;omega) (by omega) (by have:=HB.out.size;omega) _ rfl ?_
  intro g4 cap4 w4 hown4 hgrow4 hat4 hlt4
  have GR:=Lib.hid hgrow4
  have AT:=Lib.hid hat4
  have OW:=Lib.hid hown4
  have R4:=Lib.hid (show Bl w4 g 121 _ from(hgrow4.block g (Nat.lt_of_lt_of_le glt HB.out.size) (fun e=>by have:=own_rows O1.out g e.symm;omega)).trans R1.out)
  have c54:w4.cell? ⟨g,5,none⟩=some T:=R4.out.cell_ rfl
  have f54:=R4.out.frozen 5
  clear hown4 hgrow4 hat4
  refine hK.out _ _ trivial (fun _=>?_)
  clear hK K0
  try simp only[Act.put,List.setIfInBounds_toArray,List.set_cons_zero,List.set_cons_succ]
  refine wpAnyH_ready (rs:=[8]) (by kernel_rfl) (by simp) ?_
  refine cons_l rfl (fun K0 hK=>?_) AllReadyH.nil
  go_simp
  refine hK.out _ _ trivial (fun _=>?_)
  clear hK K0
  try simp only[Act.put,List.setIfInBounds_toArray,List.set_cons_zero,List.set_cons_succ]
  refine wpAnyH_ready (rs:=[9]) (by kernel_rfl) (by simp) ?_
  refine cons_l rfl (fun K0 hK=>?_) AllReadyH.nil
  go_simp
  refine hK.out _ _ trivial (fun _=>?_)
  clear hK K0
  try simp only[Act.put,List.setIfInBounds_toArray,List.set_cons_zero,List.set_cons_succ]
  refine wpAnyH_ready (rs:=[10]) (by kernel_rfl) (by simp) ?_
  refine cons_l rfl (fun K0 hK=>?_) AllReadyH.nil
  go_simp
  refine hK.out _ _ trivial (fun _=>?_)
  clear hK K0
  try simp only[Act.put,List.setIfInBounds_toArray,List.set_cons_zero,List.set_cons_succ]
  refine wpAnyH_done (by kernel_rfl) ?_ _
  go_wp2_with fail
  first|go_end0|refine bodyPost_ret (results_none rfl _ _ _) rfl ?_
  refine⟨rfl,_,⟨R4.out.set_ 5 _,?_⟩,⟨?_,?_,?_⟩,?_⟩
  ·have h:=ownsRow_setCell_below OW.out (a:=⟨g,5,none⟩) (Nat.lt_succ_self g) (.slice (some ⟨g4,0,none⟩) (l.length+L) cap4)
   rw[List.length_append,LN.out]
   simpa[bl] using h
  ·rw[setc_size];exact Nat.le_trans HB.out.size GR.out.size
  ·intro j hj hg hT
   exact(Below.heap_setCell w4 ⟨g,5,none⟩ _ j (by show j≠g;exact hg)).trans ((GR.out.block j (Nat.lt_of_lt_of_le hj HB.out.size) (fun e=>hT e.symm)).trans (HB.out.block j hj))
  ·intro j hj
   have hj:g4=j:=by simpa[Value.ownBlock] using hj
   subst hj
   rcases AT.out with h|h
   ·exact .inl h
   ·exact .inr (by rw[h];exact HB.out.size)
  ·refine(((HB.out.mono (Nat.le_of_lt glt)).grown GR.out ?_ ?_).setCell (p:=⟨g,5,none⟩) (Nat.le_refl _) _)
   ·have:=HB.out.size;omega
   ·intro j hj;have:=own_rows O1.out j hj;omega
theorem wbegin_ok{w:World}{g:Nat}{a b c d k:Int}{l:List Nat}{T:Value}(h:Wt w g a b c d k l T)(at_ deep:Int)(hd:¬b < deep)(hk:¬k=c)(k0:0≤k)(k1:k≤1000000) :
  Calls Try.prog 91 #[.pointer (some ⟨g,0,none⟩),.int .i64 at_,.int .i64 deep] w fun e w'=>e=.returned (.tuple #[])∧Wt w' g a b c d (k+1) l T∧Fr w w' g T T∧Below g w w':=by
 refine(begin_ok (h.row.cell_ rfl) (h.row.cell_ rfl) (h.row.cell_ rfl) (h.row.frozen 4) at_ deep hd hk k0 k1).mono ?_
 rintro e w' ⟨rfl,q,rfl⟩
 have h2:Bl (w.drewN q) g 121 _:=h.row
 have h3:(w.drewN q).ownsRow (g+1) 5 1 T l.length (bl l):=h.own
 refine⟨rfl,⟨h2.set_ 4 _,ownsRow_setCell_below h3 (a:=⟨g,4,none⟩) (Nat.lt_succ_self g) _⟩,⟨?_,?_,fun j hj=>.inl hj⟩,?_⟩
 ·rw[setc_size];exact Nat.le_refl _
 ·intro j hj hg hT
  exact Below.heap_setCell (w.drewN q) ⟨g,4,none⟩ _ j (by show j≠g;exact hg)
 ·exact(below_drewN (Below.refl g w) q).setCell (p:=⟨g,4,none⟩) (Nat.le_refl _) _
theorem wbegin_deep{w:World}{g:Nat}{a b c d k:Int}{l:List Nat}{T:Value}(h:Wt w g a b c d k l T)(at_ deep:Int)(hd:b < deep) :
  Calls Try.prog 91 #[.pointer (some ⟨g,0,none⟩),.int .i64 at_,.int .i64 deep] w fun e w'=>e=pan at_ 23∧w=w' :=
 begin_deep (h.row.cell_ rfl) at_ deep hd
theorem wbegin_many{w:World}{g:Nat}{a b c d:Int}{l:List Nat}{T:Value}(h:Wt w g a b c d c l T)(at_ deep:Int)(hd:¬b < deep) :
  Calls Try.prog 91 #[.pointer (some ⟨g,0,none⟩),.int .i64 at_,.int .i64 deep] w fun e w'=>e=pan at_ 24∧∃q,w'=w.drewN q :=
 begin_many (h.row.cell_ rfl) (h.row.cell_ rfl) (h.row.cell_ rfl) at_ deep hd
theorem whold_any{w:World}{g:Nat}{a b c d k:Int}{l:List Nat}{T:Value}(h:Wt w g a b c d k l T)(d0:0≤d)(d1:d≤9223372036854775807)(at_:Int)(n:Nat) :
  Calls Try.prog 93 #[.pointer (some ⟨g,0,none⟩),.int .i64 at_,.int .u64 (n:Int)] w fun e w'=>e=(if d < (n:Int) then pan at_ 2 else .returned (.tuple #[]))∧w=w' :=
 hold_any (h.row.cell_ rfl) d0 d1 at_ n
end Go.Proofs.Yteblmphohhbgcaa.Wr
