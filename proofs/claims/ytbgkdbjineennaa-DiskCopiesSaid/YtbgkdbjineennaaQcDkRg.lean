/- Joined texts. -/
import Derived.Test.YtbgkdbjineennaaQcDkRf
set_option linter.unusedVariables false
namespace Go.Proofs.Ytbgkdbjineennaa.Dk
open Go.IntWalk Go.RowKit Go.Proofs.Ytbgkdbjineennaa.Gn Go.Proofs.Ytbgkdbjineennaa.Fd Go.Deep
theorem infoH:(Try.prog.info? 79).map (fun i=>(i.zero,i.size,i.bytes))=some (some (.agg #[.int .i64 0,.slice none 0 0]),2,32):=by kernel_rfl
section
variable {w:World} {a0 lo r n:Nat} {S V:Value} {dn:Bool} {st lf:Int} {A:Option Addr} {k c:Nat} {xs:List Value} {hs:List (Nat × Value)} {cb:List Bool}
theorem Rq.still(h:Rq w a0 lo r n S V dn st lf A k c xs hs cb){w1 w4:World}{o:Obj}(hb:Below w.heap.size w w1)(hg:(w1.alloc o).grownBy w4 V.ownBlock):Bl w4 r 76 #[S,V,.bool dn,.int .i64 st,.int .i64 lf,.slice A k c]:=by
 have G1:Gx V.ownBlock.toList w w4:=((Gx.of_below hb).alloc o).trans (Gx.of_grown hg (fun b e=>by simpa using e))
 exact G1.bl (fun e=>Kd.unlike ⟨_,h.blk⟩ (own_kd h.wait (by simpa using e)).2 (by decide) rfl) h.blk
set_option maxRecDepth 100000 in
set_option maxHeartbeats 8000000 in
theorem Write_r{KK:Nat}(h:Rd w a0 lo r n KK)(hK:KK < 900000)(a:Int)(B:Option Addr)(m cap:Nat)(l:List Nat)(hB:Sl w B m (bl l))(hB0:B=none→cap=0):Calls Try.prog 43 #[.pointer (some ⟨r,0,none⟩),.int .i64 a,.slice B m cap] w (RopQ w a0 lo r n (KK+1)):=by
 obtain⟨S,V,dn,st,lf,A,k,c,xs,hs,cb,h,h1,h2⟩:=h
 have h0:=Lib.hid h
 have C:=there_any h a
 by_cases hE:thereE dn n a=0
 ·rw[hE] at C
  have C:=Lib.hid C
  by_cases h6:m=64
  ·subst h6
   obtain⟨g1,g2⟩:=there_in hE
   obtain⟨p,rfl⟩:∃p:Nat,a=(p:Int):=⟨a.toNat,by omega⟩
   have hp:p < n:=by omega
   obtain rfl:dn=false:=by cases dn with|true=>cases hE|false=>rfl
   have HM:=Lib.hid (show(hs.length+1:Nat)≤KK+1∧st+1≤((KK+1:Nat):Int) from⟨by omega,by omega⟩)
   have HM:=Lib.hid (show ∀x:Value,(hs ++ [(p,x)]).length≤KK+1 from fun x=>by rw[List.length_append,List.length_singleton];exact HM.out.1)
   have HM2:=Lib.hid (show st+1≤((KK+1:Nat):Int) by omega)
   have BD:=Lib.hid (show Below w.heap.size w w.drew from below_drewN (Below.refl _ _) 1)
   have FC:=Lib.hid (fun(u:World) (hu:Below w.heap.size w u)=>full_any B 64 cap l u (hB.below hu) hB0 (Nat.le_refl _))
   obtain⟨i0,hi,hz0,hz1,hz2⟩:=info_parts infoH
   have hl9:hs.length < 999999:=by omega
   have LT:=Lib.hid (show lo≤w.heap.size from Nat.le_of_lt (Nat.lt_of_le_of_lt h.rlo h.lt))
   have hst:st < 999999999:=by omega
   have CS0:=fun(b:Bool) (hb:b=decide (lf=0)) (u:World) (V':Value) (hs':List (Nat × Value)) (hq:Rq u a0 lo r n S V' false st lf A k c xs hs' cb)=>rstroke_any hq hst b hb
   obtain⟨vA,vc,rfl⟩:=own_len h.wait
   have c1:=h.c1
   by_cases hf:lf=0
   ·have CS:=Lib.hid (CS0 true (by rw[decide_eq_true hf]))
    clear h h1 h2 hf hE hB CS0 hst hK g1 g2
    go_enter Try.func43,Try.ntmps43
    go_upto_region 6 with(go_at_call 51;(with_reducible refine C.out.mono ?_);rintro e w9 ⟨rfl,rfl⟩)
    refine wp_region_held_drew (S:=fun _=>True) (by kernel_rfl) trivial (fun _=>?_)
    refine take_l 0 (v:=?_) rfl (by kernel_rfl) (by kernel_rfl) (by kernel_rfl) (fun _ _ _ h=>h) (Or.inl ⟨by rfl,?_⟩) trivial ?_;rotate_left
    ·intro w' hSw
     go_simp
     all_goals with_reducible rfl
    try simp only[Act.put,List.setIfInBounds_toArray,List.set_cons_zero,List.set_cons_succ]
    refine take_l 1 (v:=?_) rfl (by kernel_rfl) (by kernel_rfl) (by kernel_rfl) (fun _ _ _ h=>h) (Or.inl ⟨by rfl,?_⟩) trivial ?_;rotate_left
    ·intro w' hSw
     go_simp
     all_goals with_reducible rfl
    try simp only[Act.put,List.setIfInBounds_toArray,List.set_cons_zero,List.set_cons_succ]
    refine take_l 2 (v:=?_) rfl (by kernel_rfl) (by kernel_rfl) (by kernel_rfl) (fun _ _ _ h=>h) (Or.inl ⟨by rfl,?_⟩) trivial ?_;rotate_left
    ·intro w' hSw
     go_simp
     all_goals with_reducible rfl
    try simp only[Act.put,List.setIfInBounds_toArray,List.set_cons_zero,List.set_cons_succ]
    refine take_l 3 (v:=?_) rfl (by kernel_rfl) (by kernel_rfl) (by kernel_rfl) (fun _ _ _ h=>h) (Or.inl ⟨by rfl,?_⟩) trivial ?_;rotate_left
    ·intro w' hSw
     go_simp
     all_goals with_reducible rfl
    try simp only[Act.put,List.setIfInBounds_toArray,List.set_cons_zero,List.set_cons_succ]
    refine take_l 5 (v:=?_) rfl (by kernel_rfl) (by kernel_rfl) (by kernel_rfl) (fun _ _ _ h=>h) (Or.inl ⟨by rfl,?_⟩) trivial ?_;rotate_left
    ·intro w' hSw
     go_simp
     all_goals with_reducible rfl
    try simp only[Act.put,List.setIfInBounds_toArray,List.set_cons_zero,List.set_cons_succ]
    refine take_l 6 (v:=?_) rfl (by kernel_rfl) (by kernel_rfl) (by kernel_rfl) (fun _ _ _ h=>h) (Or.inl ⟨by rfl,?_⟩) trivial ?_;rotate_left
    ·intro w' hSw
     go_simp
     all_goals with_reducible rfl
    try simp only[Act.put,List.setIfInBounds_toArray,List.set_cons_zero,List.set_cons_succ]
    refine wpAnyH_ready (rs:=[4,7]) (by kernel_rfl) (by simp) ?_
    refine cons_l rfl (fun K0 hK=>?_) (cons_l rfl (fun K0 hK=>?_) (AllReadyH.nil))
    ·go_simp
     refine hK.out _ _ trivial (fun _=>?_)
     clear hK K0
     try simp only[Act.put,List.setIfInBounds_toArray,List.set_cons_zero,List.set_cons_succ]
     refine wpAnyH_ready (rs:=[7]) (by kernel_rfl) (by simp) ?_
     refine cons_l rfl (fun K0 hK=>?_) (AllReadyH.nil)
     go_simp
     (go_at_call 42;(with_reducible refine(FC.out _ BD.out).mono ?_);rintro e w1 ⟨X,rfl,k1,k2⟩)
     obtain⟨xq,xc,xl,rfl,xx⟩:=id k1
     have HX:=Lib.hid (show Sec w1 w.heap.size (.slice (some ⟨xq,0,none⟩) 64 xc) from k1)
     have HB:=Lib.hid (show Below w.heap.size w w1 from BD.out.trans k2)
     have c1b:=(h0.out.below HB.out).c1
     have c1c:(w1.alloc (.cells #[.int .i64 (p:Int),(.slice (some ⟨xq,0,none⟩) 64 xc)] 79)).cell? ⟨r,1,none⟩=some (.slice vA hs.length vc):=((h0.out.below HB.out).blk.alloc _).cell_ rfl
     have OA:=Lib.hid (own_gx (Gx.of_below (S:=[]) ((Below.refl w1.heap.size w1).alloc (Nat.le_refl _) (.cells #[.int .i64 (p:Int),(.slice (some ⟨xq,0,none⟩) 64 xc)] 79))) (fun b hb e=>by cases e) (h0.out.below HB.out).wait)
     have SX:=Lib.hid (show Sl (w1.alloc (.cells #[.int .i64 (p:Int),(.slice (some ⟨xq,0,none⟩) 64 xc)] 79)) (some ⟨w1.heap.size,0,none⟩) (1*2) [.int .i64 (p:Int),(.slice (some ⟨xq,0,none⟩) 64 xc)] from Sl.of_bl (Bl.new_ w1 _ _) 0 _ _ rfl fun k v hk=>by rw[Nat.zero_add];simpa using hk)
     clear k1 k2 xx
     refine hK.out _ _ trivial (fun _=>?_)
     clear hK K0
     try simp only[Act.put,List.setIfInBounds_toArray,List.set_cons_zero,List.set_cons_succ]
     refine take_l 8 (v:=?_) rfl (by kernel_rfl) (by kernel_rfl) (by kernel_rfl) (fun _ _ _ h=>h) (Or.inl ⟨by rfl,?_⟩) trivial ?_;rotate_left
     ·intro w' hSw
      go_simp
      all_goals with_reducible rfl
     try simp only[Act.put,List.setIfInBounds_toArray,List.set_cons_zero,List.set_cons_succ]
     refine wpAnyH_ready (rs:=[9]) (by kernel_rfl) (by simp) ?_
     refine cons_l rfl (fun K0 hK=>?_) (AllReadyH.nil)
     go_simp
     refine hK.out _ _ trivial (fun _=>?_)
     clear hK K0
     try simp only[Act.put,List.setIfInBounds_toArray,List.set_cons_zero,List.set_cons_succ]
     refine wpAnyH_ready (rs:=[10]) (by kernel_rfl) (by simp) ?_
     refine cons_l rfl (fun K0 hK=>?_) (AllReadyH.nil)
     refine step_append_at (w1.alloc (.cells #[.int .i64 (p:Int),(.slice (some ⟨xq,0,none⟩) 64 xc)] 79)) rfl _ _ 74 rfl lo 79 i0 _ 2 32 Try.underlying74 hi hz0 hz1 hz2 rfl (by decide) (.slice vA hs.length vc) hs.length (hcells hs) rfl OA.out (some ⟨w1.heap.size,0,none⟩) 1 1 [.int .i64 (p:Int),(.slice (some ⟨xq,0,none⟩) 64 xc)] rfl (fun e=>by cases e) SX.out (by intro u hu;simp at hu;rcases hu with rfl|rfl <;> rfl) (by unfold maxLen;omega) (by omega) (by have:=HB.out.size;have:=LT.out;simp;omega) ?_
     intro v4 w4 hown4 hgrow4 hat4
     obtain⟨E4,cap4,rfl⟩:=own_len hown4
     have HQ:=Lib.hid (h0.out.hold HB.out hp HX.out hown4 hgrow4 hl9)
     have B4:=h0.out.still HB.out hgrow4
     have c14:w4.cell? ⟨r,1,none⟩=some (.slice vA hs.length vc):=B4.cell_ rfl
     have f14:=B4.frozen 1
     clear hown4 hgrow4 hat4 B4
     refine hK.out _ _ trivial (fun _=>?_)
     clear hK K0
     try simp only[Act.put,List.setIfInBounds_toArray,List.set_cons_zero,List.set_cons_succ]
     refine take_l 11 (v:=?_) rfl (by kernel_rfl) (by kernel_rfl) (by kernel_rfl) (fun _ _ _ h=>h) (Or.inl ⟨by rfl,?_⟩) trivial ?_;rotate_left
     ·intro w' hSw
      go_simp
      all_goals with_reducible rfl
     try simp only[Act.put,List.setIfInBounds_toArray,List.set_cons_zero,List.set_cons_succ]
     refine take_l 12 (v:=?_) rfl (by kernel_rfl) (by kernel_rfl) (by kernel_rfl) (fun _ _ _ h=>h) (Or.inl ⟨by rfl,?_⟩) trivial ?_;rotate_left
     ·intro w' hSw
      go_simp
      all_goals with_reducible rfl
     try simp only[Act.put,List.setIfInBounds_toArray,List.set_cons_zero,List.set_cons_succ]
     refine wpAnyH_ready (rs:=[13]) (by kernel_rfl) (by simp) ?_
     refine cons_l rfl (fun K0 hK=>?_) (AllReadyH.nil)
     go_simp
     refine hK.out _ _ trivial (fun _=>?_)
     clear hK K0
     try simp only[Act.put,List.setIfInBounds_toArray,List.set_cons_zero,List.set_cons_succ]
     refine wpAnyH_done (by kernel_rfl) ?_ _
     go_wp2_with (first|(go_at_call 52;(with_reducible refine(CS.out _ _ _ HQ.out.1).mono ?_);rintro e w5 ⟨lf',rfl,hq,hg⟩;have HQ5:=Lib.hid hq;have HG5:=Lib.hid (HQ.out.1.grow (st':=0) (lf':=0) hg);have c5:=hq.c5;clear hq hg)|(go_at_call 46;(with_reducible refine(Lose_own HQ5.out (HM.out _) HM2.out).mono ?_);rintro e w6 ⟨⟨v,rfl⟩,k1,k2⟩;have K1:=Lib.hid k1;have K2:=Lib.hid k2;clear k1 k2))
     go_ret
     exact⟨_,rfl,K1.out,(HQ.out.2.trans HG5.out).trans K2.out⟩
    ·go_simp
     (go_at_call 42;(with_reducible refine(FC.out _ BD.out).mono ?_);rintro e w1 ⟨X,rfl,k1,k2⟩)
     obtain⟨xq,xc,xl,rfl,xx⟩:=id k1
     have HX:=Lib.hid (show Sec w1 w.heap.size (.slice (some ⟨xq,0,none⟩) 64 xc) from k1)
     have HB:=Lib.hid (show Below w.heap.size w w1 from BD.out.trans k2)
     have c1b:=(h0.out.below HB.out).c1
     have c1c:(w1.alloc (.cells #[.int .i64 (p:Int),(.slice (some ⟨xq,0,none⟩) 64 xc)] 79)).cell? ⟨r,1,none⟩=some (.slice vA hs.length vc):=((h0.out.below HB.out).blk.alloc _).cell_ rfl
     have OA:=Lib.hid (own_gx (Gx.of_below (S:=[]) ((Below.refl w1.heap.size w1).alloc (Nat.le_refl _) (.cells #[.int .i64 (p:Int),(.slice (some ⟨xq,0,none⟩) 64 xc)] 79))) (fun b hb e=>by cases e) (h0.out.below HB.out).wait)
     have SX:=Lib.hid (show Sl (w1.alloc (.cells #[.int .i64 (p:Int),(.slice (some ⟨xq,0,none⟩) 64 xc)] 79)) (some ⟨w1.heap.size,0,none⟩) (1*2) [.int .i64 (p:Int),(.slice (some ⟨xq,0,none⟩) 64 xc)] from Sl.of_bl (Bl.new_ w1 _ _) 0 _ _ rfl fun k v hk=>by rw[Nat.zero_add];simpa using hk)
     clear k1 k2 xx
     refine hK.out _ _ trivial (fun _=>?_)
     clear hK K0
     try simp only[Act.put,List.setIfInBounds_toArray,List.set_cons_zero,List.set_cons_succ]
     refine take_l 8 (v:=?_) rfl (by kernel_rfl) (by kernel_rfl) (by kernel_rfl) (fun _ _ _ h=>h) (Or.inl ⟨by rfl,?_⟩) trivial ?_;rotate_left
     ·intro w' hSw
      go_simp
      all_goals with_reducible rfl
     try simp only[Act.put,List.setIfInBounds_toArray,List.set_cons_zero,List.set_cons_succ]
     refine wpAnyH_ready (rs:=[4,9]) (by kernel_rfl) (by simp) ?_
     refine cons_l rfl (fun K0 hK=>?_) (cons_l rfl (fun K0 hK=>?_) (AllReadyH.nil))
     ·go_simp
      refine hK.out _ _ trivial (fun _=>?_)
      clear hK K0
      try simp only[Act.put,List.setIfInBounds_toArray,List.set_cons_zero,List.set_cons_succ]
      refine wpAnyH_ready (rs:=[9]) (by kernel_rfl) (by simp) ?_
      refine cons_l rfl (fun K0 hK=>?_) (AllReadyH.nil)
      go_simp
      refine hK.out _ _ trivial (fun _=>?_)
      clear hK K0
      try simp only[Act.put,List.setIfInBounds_toArray,List.set_cons_zero,List.set_cons_succ]
      refine wpAnyH_ready (rs:=[10]) (by kernel_rfl) (by simp) ?_
      refine cons_l rfl (fun K0 hK=>?_) (AllReadyH.nil)
      refine step_append_at (w1.alloc (.cells #[.int .i64 (p:Int),(.slice (some ⟨xq,0,none⟩) 64 xc)] 79)) rfl _ _ 74 rfl lo 79 i0 _ 2 32 Try.underlying74 hi hz0 hz1 hz2 rfl (by decide) (.slice vA hs.length vc) hs.length (hcells hs) rfl OA.out (some ⟨w1.heap.size,0,none⟩) 1 1 [.int .i64 (p:Int),(.slice (some ⟨xq,0,none⟩) 64 xc)] rfl (fun e=>by cases e) SX.out (by intro u hu;simp at hu;rcases hu with rfl|rfl <;> rfl) (by unfold maxLen;omega) (by omega) (by have:=HB.out.size;have:=LT.out;simp;omega) ?_
      intro v4 w4 hown4 hgrow4 hat4
      obtain⟨E4,cap4,rfl⟩:=own_len hown4
      have HQ:=Lib.hid (h0.out.hold HB.out hp HX.out hown4 hgrow4 hl9)
      have B4:=h0.out.still HB.out hgrow4
      have c14:w4.cell? ⟨r,1,none⟩=some (.slice vA hs.length vc):=B4.cell_ rfl
      have f14:=B4.frozen 1
      clear hown4 hgrow4 hat4 B4
      refine hK.out _ _ trivial (fun _=>?_)
      clear hK K0
      try simp only[Act.put,List.setIfInBounds_toArray,List.set_cons_zero,List.set_cons_succ]
      refine take_l 11 (v:=?_) rfl (by kernel_rfl) (by kernel_rfl) (by kernel_rfl) (fun _ _ _ h=>h) (Or.inl ⟨by rfl,?_⟩) trivial ?_;rotate_left
      ·intro w' hSw
       go_simp
       all_goals with_reducible rfl
      try simp only[Act.put,List.setIfInBounds_toArray,List.set_cons_zero,List.set_cons_succ]
      refine take_l 12 (v:=?_) rfl (by kernel_rfl) (by kernel_rfl) (by kernel_rfl) (fun _ _ _ h=>h) (Or.inl ⟨by rfl,?_⟩) trivial ?_;rotate_left
      ·intro w' hSw
       go_simp
       all_goals with_reducible rfl
      try simp only[Act.put,List.setIfInBounds_toArray,List.set_cons_zero,List.set_cons_succ]
      refine wpAnyH_ready (rs:=[13]) (by kernel_rfl) (by simp) ?_
      refine cons_l rfl (fun K0 hK=>?_) (AllReadyH.nil)
      go_simp
      refine hK.out _ _ trivial (fun _=>?_)
      clear hK K0
      try simp only[Act.put,List.setIfInBounds_toArray,List.set_cons_zero,List.set_cons_succ]
      refine wpAnyH_done (by kernel_rfl) ?_ _
      go_wp2_with (first|(go_at_call 52;(with_reducible refine(CS.out _ _ _ HQ.out.1).mono ?_);rintro e w5 ⟨lf',rfl,hq,hg⟩;have HQ5:=Lib.hid hq;have HG5:=Lib.hid (HQ.out.1.grow (st':=0) (lf':=0) hg);have c5:=hq.c5;clear hq hg)|(go_at_call 46;(with_reducible refine(Lose_own HQ5.out (HM.out _) HM2.out).mono ?_);rintro e w6 ⟨⟨v,rfl⟩,k1,k2⟩;have K1:=Lib.hid k1;have K2:=Lib.hid k2;clear k1 k2))
      go_ret
      exact⟨_,rfl,K1.out,(HQ.out.2.trans HG5.out).trans K2.out⟩
     ·go_simp
      refine hK.out _ _ trivial (fun _=>?_)
      clear hK K0
      try simp only[Act.put,List.setIfInBounds_toArray,List.set_cons_zero,List.set_cons_succ]
      refine wpAnyH_ready (rs:=[4]) (by kernel_rfl) (by simp) ?_
      refine cons_l rfl (fun K0 hK=>?_) (AllReadyH.nil)
      go_simp
      refine hK.out _ _ trivial (fun _=>?_)
      clear hK K0
      try simp only[Act.put,List.setIfInBounds_toArray,List.set_cons_zero,List.set_cons_succ]
      refine wpAnyH_ready (rs:=[10]) (by kernel_rfl) (by simp) ?_
      refine cons_l rfl (fun K0 hK=>?_) (AllReadyH.nil)
      refine step_append_at (w1.alloc (.cells #[.int .i64 (p:Int),(.slice (some ⟨xq,0,none⟩) 64 xc)] 79)) rfl _ _ 74 rfl lo 79 i0 _ 2 32 Try.underlying74 hi hz0 hz1 hz2 rfl (by decide) (.slice vA hs.length vc) hs.length (hcells hs) rfl OA.out (some ⟨w1.heap.size,0,none⟩) 1 1 [.int .i64 (p:Int),(.slice (some ⟨xq,0,none⟩) 64 xc)] rfl (fun e=>by cases e) SX.out (by intro u hu;simp at hu;rcases hu with rfl|rfl <;> rfl) (by unfold maxLen;omega) (by omega) (by have:=HB.out.size;have:=LT.out;simp;omega) ?_
      intro v4 w4 hown4 hgrow4 hat4
      obtain⟨E4,cap4,rfl⟩:=own_len hown4
      have HQ:=Lib.hid (h0.out.hold HB.out hp HX.out hown4 hgrow4 hl9)
      have B4:=h0.out.still HB.out hgrow4
      have c14:w4.cell? ⟨r,1,none⟩=some (.slice vA hs.length vc):=B4.cell_ rfl
      have f14:=B4.frozen 1
      clear hown4 hgrow4 hat4 B4
      refine hK.out _ _ trivial (fun _=>?_)
      clear hK K0
      try simp only[Act.put,List.setIfInBounds_toArray,List.set_cons_zero,List.set_cons_succ]
      refine take_l 11 (v:=?_) rfl (by kernel_rfl) (by kernel_rfl) (by kernel_rfl) (fun _ _ _ h=>h) (Or.inl ⟨by rfl,?_⟩) trivial ?_;rotate_left
      ·intro w' hSw
       go_simp
       all_goals with_reducible rfl
      try simp only[Act.put,List.setIfInBounds_toArray,List.set_cons_zero,List.set_cons_succ]
      refine take_l 12 (v:=?_) rfl (by kernel_rfl) (by kernel_rfl) (by kernel_rfl) (fun _ _ _ h=>h) (Or.inl ⟨by rfl,?_⟩) trivial ?_;rotate_left
      ·intro w' hSw
       go_simp
       all_goals with_reducible rfl
      try simp only[Act.put,List.setIfInBounds_toArray,List.set_cons_zero,List.set_cons_succ]
      refine wpAnyH_ready (rs:=[13]) (by kernel_rfl) (by simp) ?_
      refine cons_l rfl (fun K0 hK=>?_) (AllReadyH.nil)
      go_simp
      refine hK.out _ _ trivial (fun _=>?_)
      clear hK K0
      try simp only[Act.put,List.setIfInBounds_toArray,List.set_cons_zero,List.set_cons_succ]
      refine wpAnyH_done (by kernel_rfl) ?_ _
      go_wp2_with (first|(go_at_call 52;(with_reducible refine(CS.out _ _ _ HQ.out.1).mono ?_);rintro e w5 ⟨lf',rfl,hq,hg⟩;have HQ5:=Lib.hid hq;have HG5:=Lib.hid (HQ.out.1.grow (st':=0) (lf':=0) hg);have c5:=hq.c5;clear hq hg)|(go_at_call 46;(with_reducible refine(Lose_own HQ5.out (HM.out _) HM2.out).mono ?_);rintro e w6 ⟨⟨v,rfl⟩,k1,k2⟩;have K1:=Lib.hid k1;have K2:=Lib.hid k2;clear k1 k2))
      go_ret
      exact⟨_,rfl,K1.out,(HQ.out.2.trans HG5.out).trans K2.out⟩
   ·have CS:=Lib.hid (CS0 false (by rw[decide_eq_false hf]))
    clear h h1 h2 hf hE hB CS0 hst hK g1 g2
    go_enter Try.func43,Try.ntmps43
    go_upto_region 6 with(go_at_call 51;(with_reducible refine C.out.mono ?_);rintro e w9 ⟨rfl,rfl⟩)
    refine wp_region_held_drew (S:=fun _=>True) (by kernel_rfl) trivial (fun _=>?_)
    refine take_l 0 (v:=?_) rfl (by kernel_rfl) (by kernel_rfl) (by kernel_rfl) (fun _ _ _ h=>h) (Or.inl ⟨by rfl,?_⟩) trivial ?_;rotate_left
    ·intro w' hSw
     go_simp
     all_goals with_reducible rfl
    try simp only[Act.put,List.setIfInBounds_toArray,List.set_cons_zero,List.set_cons_succ]
    refine take_l 1 (v:=?_) rfl (by kernel_rfl) (by kernel_rfl) (by kernel_rfl) (fun _ _ _ h=>h) (Or.inl ⟨by rfl,?_⟩) trivial ?_;rotate_left
    ·intro w' hSw
     go_simp
     all_goals with_reducible rfl
    try simp only[Act.put,List.setIfInBounds_toArray,List.set_cons_zero,List.set_cons_succ]
    refine take_l 2 (v:=?_) rfl (by kernel_rfl) (by kernel_rfl) (by kernel_rfl) (fun _ _ _ h=>h) (Or.inl ⟨by rfl,?_⟩) trivial ?_;rotate_left
    ·intro w' hSw
     go_simp
     all_goals with_reducible rfl
    try simp only[Act.put,List.setIfInBounds_toArray,List.set_cons_zero,List.set_cons_succ]
    refine take_l 3 (v:=?_) rfl (by kernel_rfl) (by kernel_rfl) (by kernel_rfl) (fun _ _ _ h=>h) (Or.inl ⟨by rfl,?_⟩) trivial ?_;rotate_left
    ·intro w' hSw
     go_simp
     all_goals with_reducible rfl
    try simp only[Act.put,List.setIfInBounds_toArray,List.set_cons_zero,List.set_cons_succ]
    refine take_l 5 (v:=?_) rfl (by kernel_rfl) (by kernel_rfl) (by kernel_rfl) (fun _ _ _ h=>h) (Or.inl ⟨by rfl,?_⟩) trivial ?_;rotate_left
    ·intro w' hSw
     go_simp
     all_goals with_reducible rfl
    try simp only[Act.put,List.setIfInBounds_toArray,List.set_cons_zero,List.set_cons_succ]
    refine take_l 6 (v:=?_) rfl (by kernel_rfl) (by kernel_rfl) (by kernel_rfl) (fun _ _ _ h=>h) (Or.inl ⟨by rfl,?_⟩) trivial ?_;rotate_left
    ·intro w' hSw
     go_simp
     all_goals with_reducible rfl
    try simp only[Act.put,List.setIfInBounds_toArray,List.set_cons_zero,List.set_cons_succ]
    refine wpAnyH_ready (rs:=[4,7]) (by kernel_rfl) (by simp) ?_
    refine cons_l rfl (fun K0 hK=>?_) (cons_l rfl (fun K0 hK=>?_) (AllReadyH.nil))
    ·go_simp
     refine hK.out _ _ trivial (fun _=>?_)
     clear hK K0
     try simp only[Act.put,List.setIfInBounds_toArray,List.set_cons_zero,List.set_cons_succ]
     refine wpAnyH_ready (rs:=[7]) (by kernel_rfl) (by simp) ?_
     refine cons_l rfl (fun K0 hK=>?_) (AllReadyH.nil)
     go_simp
     (go_at_call 42;(with_reducible refine(FC.out _ BD.out).mono ?_);rintro e w1 ⟨X,rfl,k1,k2⟩)
     obtain⟨xq,xc,xl,rfl,xx⟩:=id k1
     have HX:=Lib.hid (show Sec w1 w.heap.size (.slice (some ⟨xq,0,none⟩) 64 xc) from k1)
     have HB:=Lib.hid (show Below w.heap.size w w1 from BD.out.trans k2)
     have c1b:=(h0.out.below HB.out).c1
     have c1c:(w1.alloc (.cells #[.int .i64 (p:Int),(.slice (some ⟨xq,0,none⟩) 64 xc)] 79)).cell? ⟨r,1,none⟩=some (.slice vA hs.length vc):=((h0.out.below HB.out).blk.alloc _).cell_ rfl
     have OA:=Lib.hid (own_gx (Gx.of_below (S:=[]) ((Below.refl w1.heap.size w1).alloc (Nat.le_refl _) (.cells #[.int .i64 (p:Int),(.slice (some ⟨xq,0,none⟩) 64 xc)] 79))) (fun b hb e=>by cases e) (h0.out.below HB.out).wait)
     have SX:=Lib.hid (show Sl (w1.alloc (.cells #[.int .i64 (p:Int),(.slice (some ⟨xq,0,none⟩) 64 xc)] 79)) (some ⟨w1.heap.size,0,none⟩) (1*2) [.int .i64 (p:Int),(.slice (some ⟨xq,0,none⟩) 64 xc)] from Sl.of_bl (Bl.new_ w1 _ _) 0 _ _ rfl fun k v hk=>by rw[Nat.zero_add];simpa using hk)
     clear k1 k2 xx
     refine hK.out _ _ trivial (fun _=>?_)
     clear hK K0
     try simp only[Act.put,List.setIfInBounds_toArray,List.set_cons_zero,List.set_cons_succ]
     refine take_l 8 (v:=?_) rfl (by kernel_rfl) (by kernel_rfl) (by kernel_rfl) (fun _ _ _ h=>h) (Or.inl ⟨by rfl,?_⟩) trivial ?_;rotate_left
     ·intro w' hSw
      go_simp
      all_goals with_reducible rfl
     try simp only[Act.put,List.setIfInBounds_toArray,List.set_cons_zero,List.set_cons_succ]
     refine wpAnyH_ready (rs:=[9]) (by kernel_rfl) (by simp) ?_
     refine cons_l rfl (fun K0 hK=>?_) (AllReadyH.nil)
     go_simp
     refine hK.out _ _ trivial (fun _=>?_)
     clear hK K0
     try simp only[Act.put,List.setIfInBounds_toArray,List.set_cons_zero,List.set_cons_succ]
     refine wpAnyH_ready (rs:=[10]) (by kernel_rfl) (by simp) ?_
     refine cons_l rfl (fun K0 hK=>?_) (AllReadyH.nil)
     refine step_append_at (w1.alloc (.cells #[.int .i64 (p:Int),(.slice (some ⟨xq,0,none⟩) 64 xc)] 79)) rfl _ _ 74 rfl lo 79 i0 _ 2 32 Try.underlying74 hi hz0 hz1 hz2 rfl (by decide) (.slice vA hs.length vc) hs.length (hcells hs) rfl OA.out (some ⟨w1.heap.size,0,none⟩) 1 1 [.int .i64 (p:Int),(.slice (some ⟨xq,0,none⟩) 64 xc)] rfl (fun e=>by cases e) SX.out (by intro u hu;simp at hu;rcases hu with rfl|rfl <;> rfl) (by unfold maxLen;omega) (by omega) (by have:=HB.out.size;have:=LT.out;simp;omega) ?_
     intro v4 w4 hown4 hgrow4 hat4
     obtain⟨E4,cap4,rfl⟩:=own_len hown4
     have HQ:=Lib.hid (h0.out.hold HB.out hp HX.out hown4 hgrow4 hl9)
     have B4:=h0.out.still HB.out hgrow4
     have c14:w4.cell? ⟨r,1,none⟩=some (.slice vA hs.length vc):=B4.cell_ rfl
     have f14:=B4.frozen 1
     clear hown4 hgrow4 hat4 B4
     refine hK.out _ _ trivial (fun _=>?_)
     clear hK K0
     try simp only[Act.put,List.setIfInBounds_toArray,List.set_cons_zero,List.set_cons_succ]
     refine take_l 11 (v:=?_) rfl (by kernel_rfl) (by kernel_rfl) (by kernel_rfl) (fun _ _ _ h=>h) (Or.inl ⟨by rfl,?_⟩) trivial ?_;rotate_left
     ·intro w' hSw
      go_simp
      all_goals with_reducible rfl
     try simp only[Act.put,List.setIfInBounds_toArray,List.set_cons_zero,List.set_cons_succ]
     refine take_l 12 (v:=?_) rfl (by kernel_rfl) (by kernel_rfl) (by kernel_rfl) (fun _ _ _ h=>h) (Or.inl ⟨by rfl,?_⟩) trivial ?_;rotate_left
     ·intro w' hSw
      go_simp
      all_goals with_reducible rfl
     try simp only[Act.put,List.setIfInBounds_toArray,List.set_cons_zero,List.set_cons_succ]
     refine wpAnyH_ready (rs:=[13]) (by kernel_rfl) (by simp) ?_
     refine cons_l rfl (fun K0 hK=>?_) (AllReadyH.nil)
     go_simp
     refine hK.out _ _ trivial (fun _=>?_)
     clear hK K0
     try simp only[Act.put,List.setIfInBounds_toArray,List.set_cons_zero,List.set_cons_succ]
     refine wpAnyH_done (by kernel_rfl) ?_ _
     go_wp2_with (go_at_call 52;(with_reducible refine(CS.out _ _ _ HQ.out.1).mono ?_);rintro e w5 ⟨lf',rfl,hq,hg⟩;have HQ5:=Lib.hid hq;have HG5:=Lib.hid (HQ.out.1.grow (st':=0) (lf':=0) hg);have c5:=hq.c5;clear hq hg)
     go_ret
     exact⟨_,rfl,HQ5.out.rd (HM.out _) HM2.out,HQ.out.2.trans HG5.out⟩
    ·go_simp
     (go_at_call 42;(with_reducible refine(FC.out _ BD.out).mono ?_);rintro e w1 ⟨X,rfl,k1,k2⟩)
     obtain⟨xq,xc,xl,rfl,xx⟩:=id k1
     have HX:=Lib.hid (show Sec w1 w.heap.size (.slice (some ⟨xq,0,none⟩) 64 xc) from k1)
     have HB:=Lib.hid (show Below w.heap.size w w1 from BD.out.trans k2)
     have c1b:=(h0.out.below HB.out).c1
     have c1c:(w1.alloc (.cells #[.int .i64 (p:Int),(.slice (some ⟨xq,0,none⟩) 64 xc)] 79)).cell? ⟨r,1,none⟩=some (.slice vA hs.length vc):=((h0.out.below HB.out).blk.alloc _).cell_ rfl
     have OA:=Lib.hid (own_gx (Gx.of_below (S:=[]) ((Below.refl w1.heap.size w1).alloc (Nat.le_refl _) (.cells #[.int .i64 (p:Int),(.slice (some ⟨xq,0,none⟩) 64 xc)] 79))) (fun b hb e=>by cases e) (h0.out.below HB.out).wait)
     have SX:=Lib.hid (show Sl (w1.alloc (.cells #[.int .i64 (p:Int),(.slice (some ⟨xq,0,none⟩) 64 xc)] 79)) (some ⟨w1.heap.size,0,none⟩) (1*2) [.int .i64 (p:Int),(.slice (some ⟨xq,0,none⟩) 64 xc)] from Sl.of_bl (Bl.new_ w1 _ _) 0 _ _ rfl fun k v hk=>by rw[Nat.zero_add];simpa using hk)
     clear k1 k2 xx
     refine hK.out _ _ trivial (fun _=>?_)
     clear hK K0
     try simp only[Act.put,List.setIfInBounds_toArray,List.set_cons_zero,List.set_cons_succ]
     refine take_l 8 (v:=?_) rfl (by kernel_rfl) (by kernel_rfl) (by kernel_rfl) (fun _ _ _ h=>h) (Or.inl ⟨by rfl,?_⟩) trivial ?_;rotate_left
     ·intro w' hSw
      go_simp
      all_goals with_reducible rfl
     try simp only[Act.put,List.setIfInBounds_toArray,List.set_cons_zero,List.set_cons_succ]
     refine wpAnyH_ready (rs:=[4,9]) (by kernel_rfl) (by simp) ?_
     refine cons_l rfl (fun K0 hK=>?_) (cons_l rfl (fun K0 hK=>?_) (AllReadyH.nil))
     ·go_simp
      refine hK.out _ _ trivial (fun _=>?_)
      clear hK K0
      try simp only[Act.put,List.setIfInBounds_toArray,List.set_cons_zero,List.set_cons_succ]
      refine wpAnyH_ready (rs:=[9]) (by kernel_rfl) (by simp) ?_
      refine cons_l rfl (fun K0 hK=>?_) (AllReadyH.nil)
      go_simp
      refine hK.out _ _ trivial (fun _=>?_)
      clear hK K0
      try simp only[Act.put,List.setIfInBounds_toArray,List.set_cons_zero,List.set_cons_succ]
      refine wpAnyH_ready (rs:=[10]) (by kernel_rfl) (by simp) ?_
      refine cons_l rfl (fun K0 hK=>?_) (AllReadyH.nil)
      refine step_append_at (w1.alloc (.cells #[.int .i64 (p:Int),(.slice (some ⟨xq,0,none⟩) 64 xc)] 79)) rfl _ _ 74 rfl lo 79 i0 _ 2 32 Try.underlying74 hi hz0 hz1 hz2 rfl (by decide) (.slice vA hs.length vc) hs.length (hcells hs) rfl OA.out (some ⟨w1.heap.size,0,none⟩) 1 1 [.int .i64 (p:Int),(.slice (some ⟨xq,0,none⟩) 64 xc)] rfl (fun e=>by cases e) SX.out (by intro u hu;simp at hu;rcases hu with rfl|rfl <;> rfl) (by unfold maxLen;omega) (by omega) (by have:=HB.out.size;have:=LT.out;simp;omega) ?_
      intro v4 w4 hown4 hgrow4 hat4
      obtain⟨E4,cap4,rfl⟩:=own_len hown4
      have HQ:=Lib.hid (h0.out.hold HB.out hp HX.out hown4 hgrow4 hl9)
      have B4:=h0.out.still HB.out hgrow4
      have c14:w4.cell? ⟨r,1,none⟩=some (.slice vA hs.length vc):=B4.cell_ rfl
      have f14:=B4.frozen 1
      clear hown4 hgrow4 hat4 B4
      refine hK.out _ _ trivial (fun _=>?_)
      clear hK K0
      try simp only[Act.put,List.setIfInBounds_toArray,List.set_cons_zero,List.set_cons_succ]
      refine take_l 11 (v:=?_) rfl (by kernel_rfl) (by kernel_rfl) (by kernel_rfl) (fun _ _ _ h=>h) (Or.inl ⟨by rfl,?_⟩) trivial ?_;rotate_left
      ·intro w' hSw
       go_simp
       all_goals with_reducible rfl
      try simp only[Act.put,List.setIfInBounds_toArray,List.set_cons_zero,List.set_cons_succ]
      refine take_l 12 (v:=?_) rfl (by kernel_rfl) (by kernel_rfl) (by kernel_rfl) (fun _ _ _ h=>h) (Or.inl ⟨by rfl,?_⟩) trivial ?_;rotate_left
      ·intro w' hSw
       go_simp
       all_goals with_reducible rfl
      try simp only[Act.put,List.setIfInBounds_toArray,List.set_cons_zero,List.set_cons_succ]
      refine wpAnyH_ready (rs:=[13]) (by kernel_rfl) (by simp) ?_
      refine cons_l rfl (fun K0 hK=>?_) (AllReadyH.nil)
      go_simp
      refine hK.out _ _ trivial (fun _=>?_)
      clear hK K0
      try simp only[Act.put,List.setIfInBounds_toArray,List.set_cons_zero,List.set_cons_succ]
      refine wpAnyH_done (by kernel_rfl) ?_ _
      go_wp2_with (go_at_call 52;(with_reducible refine(CS.out _ _ _ HQ.out.1).mono ?_);rintro e w5 ⟨lf',rfl,hq,hg⟩;have HQ5:=Lib.hid hq;have HG5:=Lib.hid (HQ.out.1.grow (st':=0) (lf':=0) hg);have c5:=hq.c5;clear hq hg)
      go_ret
      exact⟨_,rfl,HQ5.out.rd (HM.out _) HM2.out,HQ.out.2.trans HG5.out⟩
     ·go_simp
      refine hK.out _ _ trivial (fun _=>?_)
      clear hK K0
      try simp only[Act.put,List.setIfInBounds_toArray,List.set_cons_zero,List.set_cons_succ]
      refine wpAnyH_ready (rs:=[4]) (by kernel_rfl) (by simp) ?_
      refine cons_l rfl (fun K0 hK=>?_) (AllReadyH.nil)
      go_simp
      refine hK.out _ _ trivial (fun _=>?_)
      clear hK K0
      try simp only[Act.put,List.setIfInBounds_toArray,List.set_cons_zero,List.set_cons_succ]
      refine wpAnyH_ready (rs:=[10]) (by kernel_rfl) (by simp) ?_
      refine cons_l rfl (fun K0 hK=>?_) (AllReadyH.nil)
      refine step_append_at (w1.alloc (.cells #[.int .i64 (p:Int),(.slice (some ⟨xq,0,none⟩) 64 xc)] 79)) rfl _ _ 74 rfl lo 79 i0 _ 2 32 Try.underlying74 hi hz0 hz1 hz2 rfl (by decide) (.slice vA hs.length vc) hs.length (hcells hs) rfl OA.out (some ⟨w1.heap.size,0,none⟩) 1 1 [.int .i64 (p:Int),(.slice (some ⟨xq,0,none⟩) 64 xc)] rfl (fun e=>by cases e) SX.out (by intro u hu;simp at hu;rcases hu with rfl|rfl <;> rfl) (by unfold maxLen;omega) (by omega) (by have:=HB.out.size;have:=LT.out;simp;omega) ?_
      intro v4 w4 hown4 hgrow4 hat4
      obtain⟨E4,cap4,rfl⟩:=own_len hown4
      have HQ:=Lib.hid (h0.out.hold HB.out hp HX.out hown4 hgrow4 hl9)
      have B4:=h0.out.still HB.out hgrow4
      have c14:w4.cell? ⟨r,1,none⟩=some (.slice vA hs.length vc):=B4.cell_ rfl
      have f14:=B4.frozen 1
      clear hown4 hgrow4 hat4 B4
      refine hK.out _ _ trivial (fun _=>?_)
      clear hK K0
      try simp only[Act.put,List.setIfInBounds_toArray,List.set_cons_zero,List.set_cons_succ]
      refine take_l 11 (v:=?_) rfl (by kernel_rfl) (by kernel_rfl) (by kernel_rfl) (fun _ _ _ h=>h) (Or.inl ⟨by rfl,?_⟩) trivial ?_;rotate_left
      ·intro w' hSw
       go_simp
       all_goals with_reducible rfl
      try simp only[Act.put,List.setIfInBounds_toArray,List.set_cons_zero,List.set_cons_succ]
      refine take_l 12 (v:=?_) rfl (by kernel_rfl) (by kernel_rfl) (by kernel_rfl) (fun _ _ _ h=>h) (Or.inl ⟨by rfl,?_⟩) trivial ?_;rotate_left
      ·intro w' hSw
       go_simp
       all_goals with_reducible rfl
      try simp only[Act.put,List.setIfInBounds_toArray,List.set_cons_zero,List.set_cons_succ]
      refine wpAnyH_ready (rs:=[13]) (by kernel_rfl) (by simp) ?_
      refine cons_l rfl (fun K0 hK=>?_) (AllReadyH.nil)
      go_simp
      refine hK.out _ _ trivial (fun _=>?_)
      clear hK K0
      try simp only[Act.put,List.setIfInBounds_toArray,List.set_cons_zero,List.set_cons_succ]
      refine wpAnyH_done (by kernel_rfl) ?_ _
      go_wp2_with (go_at_call 52;(with_reducible refine(CS.out _ _ _ HQ.out.1).mono ?_);rintro e w5 ⟨lf',rfl,hq,hg⟩;have HQ5:=Lib.hid hq;have HG5:=Lib.hid (HQ.out.1.grow (st':=0) (lf':=0) hg);have c5:=hq.c5;clear hq hg)
      go_ret
      exact⟨_,rfl,HQ5.out.rd (HM.out _) HM2.out,HQ.out.2.trans HG5.out⟩
  ·have HH:=Lib.hid ((h.rd h1 h2).more (Nat.le_succ _))
   have t6:((m:Int) != 64)=true:=by rw[bne_iff_ne];omega
   clear h hB h1 h2 hE h6
   go_enter Try.func43,Try.ntmps43
   go_wp2_with (go_at_call 51;(with_reducible refine C.out.mono ?_);rintro e w9 ⟨rfl,rfl⟩)
   go_ret
   exact⟨_,rfl,HH.out,Fx.refl _ _ _⟩
 ·have HH:=Lib.hid ((h.rd h1 h2).more (Nat.le_succ _))
  obtain⟨E,hEE⟩:∃E,thereE dn n a=E:=⟨_,rfl⟩
  have q1:(E != 0)=true:=by rw[bne_iff_ne,←hEE];exact hE
  have C:=Lib.hid C
  rw[hEE] at C
  clear h hB h1 h2 hE hEE
  go_enter Try.func43,Try.ntmps43
  go_wp2_with (go_at_call 51;(with_reducible refine C.out.mono ?_);rintro e w9 ⟨rfl,rfl⟩)
  go_ret
  exact⟨_,rfl,HH.out,Fx.refl _ _ _⟩
end
end Go.Proofs.Ytbgkdbjineennaa.Dk
