/- Joined texts. -/
import Derived.Test.YtbgkdbjineennaaQcDkRi
set_option linter.unusedVariables false
namespace Go.Proofs.Ytbgkdbjineennaa.Dk
open Go.IntWalk Go.RowKit Go.Proofs.Ytbgkdbjineennaa.Gn Go.Proofs.Ytbgkdbjineennaa.Fd Go.Deep
theorem infoS:(Try.prog.info? 22).map (fun i=>(i.zero,i.size,i.bytes))=some (some (.slice none 0 0),1,24):=by kernel_rfl
section
variable {w:World} {a0 lo r n:Nat} {S V:Value} {dn:Bool} {st lf:Int} {A:Option Addr} {k c:Nat} {xs:List Value} {hs:List (Nat × Value)} {cb:List Bool}
theorem Rq.still0(h:Rq w a0 lo r n S V dn st lf A k c xs hs cb){w1 w4:World}{o:Obj}(hb:Below w.heap.size w w1)(hg:(w1.alloc o).grownBy w4 S.ownBlock):Bl w4 r 76 #[S,V,.bool dn,.int .i64 st,.int .i64 lf,.slice A k c]:=by
 have G1:Gx S.ownBlock.toList w w4:=((Gx.of_below hb).alloc o).trans (Gx.of_grown hg (fun b e=>by simpa using e))
 exact G1.bl (fun e=>Kd.unlike ⟨_,h.blk⟩ (own_kd h.row (by simpa using e)).2 (by decide) rfl) h.blk
theorem Rq.plus(h:Rq w a0 lo r n S V dn st lf A k c xs hs cb){w1 w4:World}{o:Obj}{X S4:Value}(hb:Below w.heap.size w w1)(hX:Sec w1 w.heap.size X)(ho:w4.ownsRow lo 22 1 S4 (n+1) (xs ++ [X]))(hg:(w1.alloc o).grownBy w4 S.ownBlock)(hn:n < 100) :
  Rq (w4.setCell ⟨r,0,none⟩ S4) a0 lo r (n+1) S4 V dn st lf A k c (xs ++ [X]) hs cb∧Fx [] lo w (w4.setCell ⟨r,0,none⟩ S4):=by
 have hr:Kd w r 76:=⟨_,h.blk⟩
 have hr0:=h.lt
 have ha:=h.rlo
 have hal:=h.al
 have G1:Gx S.ownBlock.toList w w4:=((Gx.of_below hb).alloc o).trans (Gx.of_grown hg (fun b e=>by simpa using e))
 have k1:∀b∈S.ownBlock.toList,lo≤b∧Kd w b 22:=fun b hb=>own_kd h.row (by simpa using hb)
 have hr4:Bl w4 r 76 _:=h.still0 hb hg
 have G2:Gx [r] w4 (w4.setCell ⟨r,0,none⟩ S4):=(Gx.refl _ _).set (by simp) _
 have G:Gx (r :: S.ownBlock.toList) w (w4.setCell ⟨r,0,none⟩ S4):=(G1.mono fun b hb=>List.mem_cons_of_mem _ hb).trans (G2.mono fun b hb=>by rw[List.mem_singleton.1 hb];exact List.mem_cons_self)
 have hT:∀b∈r :: S.ownBlock.toList,¬(lo≤b∧Kd w b 5):=fun b hb e=>by
  rcases List.mem_cons.1 hb with rfl|hb
  ·exact hr.unlike e.2 (by decide) rfl
  ·exact(k1 b hb).2.unlike e.2 (by decide) rfl
 have hX4:Sec (w4.setCell ⟨r,0,none⟩ S4) lo X:=by
  have hs1:w.heap.size≤w1.heap.size:=hb.size
  have g4:Gx (r :: S.ownBlock.toList) w1 (w4.setCell ⟨r,0,none⟩ S4):=((((Gx.refl _ _).alloc o).trans (Gx.of_grown hg (fun b e=>by rw[List.mem_cons];exact .inr (by simpa using e)))).trans (G2.mono fun b hb=>by rw[List.mem_singleton.1 hb];exact List.mem_cons_self))
  have hX':=hX.kept g4 (fun b hb e=>by
   have hbw:b < w.heap.size:=by
    rcases List.mem_cons.1 hb with rfl|hb
    ·exact hr0
    ·exact(k1 b hb).2.lt
   omega)
  obtain⟨q,cap,l,rfl,h1,h2,h3,h4⟩:=hX'
  exact⟨q,cap,l,rfl,h1,by omega,h3,h4⟩
 refine⟨⟨hr4.set_ 0 S4,own_gx G2 (fun b hb e=>?_) ho,fun x hx=>?_,own_gx G (fun b hb e=>?_) h.wait,fun x hx=>⟨by have:=(h.hsec x hx).1;omega,(h.hsec x hx).2.kept G hT⟩,h.st0,h.st9,h.hl9,h.lf0,h.lf9,sl_gx0 G (fun ad e hk0 hm=>?_) h.cho,h.k9,h.cA,h.rlo,h.al,by omega⟩,.of_kind G fun b hb=>.inr ?_⟩
 ·rw[List.mem_singleton.1 e] at hb
  exact Kd.unlike ⟨_,hr4⟩ (own_kd ho hb).2 (by decide) rfl
 ·rcases List.mem_append.1 hx with hx|hx
  ·exact(h.secs x hx).kept G hT
  ·rw[List.mem_singleton.1 hx];exact hX4
 ·have hk:=(own_kd h.wait hb).2
  rcases List.mem_cons.1 e with rfl|e
  ·exact hr.unlike hk (by decide) rfl
  ·exact(k1 b e).2.unlike hk (by decide) rfl
 ·have:=h.cA ad e hk0
  rcases List.mem_cons.1 hm with e2|e2
  ·omega
  ·have:=(k1 _ e2).1;omega
 ·rcases List.mem_cons.1 hb with rfl|hb
  ·exact⟨ha,fun _=>.inl hr⟩
  ·exact⟨(k1 b hb).1,fun _=>.inr (.inl (k1 b hb).2)⟩
def NewRQ(w:World)(a0:Nat)(s:Int)(m:Nat)(e:Ending)(w':World):Prop:=(∃r,e=.returned (.tuple #[.pointer (some ⟨r,0,none⟩),.int .i64 0])∧Rd w' a0 w.heap.size r s.toNat 0∧Below w.heap.size w w')
set_option maxRecDepth 100000 in
theorem New_bad(B:Option Addr)(m cap:Nat)(s:Int)(hs9:s≤100)(hm:m≤1500)(hb:s < 1∨64*s < m):Calls Try.prog 25 #[.slice B m cap,.int .i64 s] w fun e w'=>e=.returned (.tuple #[.pointer none,.int .i64 1])∧w=w':=by
 by_cases h1:s < 1
 ·clear hb
  go_enter Try.func25,Try.ntmps25
  go_wp2_with fail
  go_ret2
  exact⟨rfl,rfl⟩
 ·have h2:¬(16384:Int) < s:=by omega
  have h3:64*s < (m:Int):=by omega
  clear hb
  go_enter Try.func25,Try.ntmps25
  go_wp2_with fail
  go_ret2
  exact⟨rfl,rfl⟩
set_option maxRecDepth 100000 in
set_option maxHeartbeats 8000000 in
theorem New_r(hal:a0≤w.heap.size)(B:Option Addr)(m cap:Nat)(l:List Nat)(hB:Sl w B m (bl l))(hB0:B=none→cap=0)(hcap:m≤cap)(s:Nat)(hs1:1≤s)(hs9:s≤100)(hm:m≤64*s):Calls Try.prog 25 #[.slice B m cap,.int .i64 (s:Int)] w (NewRQ w a0 s m):=by
 have H0:Rq (w.alloc (.cells #[.slice none 0 0,.slice none 0 0,.bool false,.int .i64 0,.int .i64 (-1),.slice none 0 0] 76)) a0 w.heap.size w.heap.size 0 (.slice none 0 0) (.slice none 0 0) false 0 (-1) none 0 0 [] [] [] :=
  ⟨Bl.new_ w _ _,own_nil _ _ _,(fun x hx=>by cases hx),⟨rfl,.inl ⟨rfl,rfl⟩⟩,(fun x hx=>by cases hx),by decide,by decide,by decide,by decide,by decide,Sl.nil_ _ _,by decide,(fun ad e=>by cases e),Nat.le_refl _,hal,by decide⟩
 have H0:=Lib.hid H0
 have HB:=Lib.hid hB
 have LL:=Lib.hid (show ∃l,Sl w B m (bl l) from⟨l,hB⟩)
 have HN0:=Lib.hid hB0
 obtain⟨i0,hi,hz0,hz1,hz2⟩:=info_parts infoS
 have q1:¬((s:Int) < 1):=by omega
 have q2:¬(16384:Int) < (s:Int):=by omega
 have q3:¬64*(s:Int) < (m:Int):=by omega
 clear hB hB0
 go_enter Try.func25,Try.ntmps25
 go_wp2_with fail
 clear q1 q2 q3
 go_loopw [0,7] (fun v q wr=>∃(i m' c':Nat) (B':Option Addr) (l':List Nat) (S:Value) (xs:List Value),q=.int .i64 (i:Int)∧v=.slice B' m' c'∧i≤s∧m'≤c'∧m'≤6400∧Sl w B' m' (bl l')∧(B'=none→c'=0)∧Rq wr a0 w.heap.size w.heap.size i S (.slice none 0 0) false 0 (-1) none 0 0 xs [] []∧Fx [] w.heap.size w wr) (fun _ q _=>s - (intOf q).toNat)
 case atStart =>
  obtain⟨l,hl⟩:=LL.out
  exact⟨0,m,cap,B,l,_,[],rfl,rfl,Nat.zero_le _,hcap,by omega,hl,HN0.out,H0.out,.of_below ((Below.refl _ _).alloc (Nat.le_refl _) _)⟩
 case round =>
  obtain⟨i,m',c',B',l',S,xs,rfl,rfl,hi',hc',hm6,hl',hn',hr,hf⟩:=hrel
  have HR:=Lib.hid hr
  have HF:=Lib.hid hf
  have HL:=Lib.hid hl'
  have HN:=Lib.hid hn'
  clear hr hf hl' hn'
  by_cases hlt:i < s
  ·have q1:(i:Int) < (s:Int):=by omega
   obtain⟨sA,sc,rfl⟩:=own_len HR.out.row
   have c0:=HR.out.c0
   have BF:=Lib.hid (HF.out.below (Nat.le_refl _) (by intro k hk;cases hk) (Nat.le_refl _))
   have BD:=Lib.hid (show Below w.heap.size w wr.drew from BF.out.trans ((below_drewN (Below.refl _ _) 1).mono BF.out.size))
   by_cases h6:64 < m'
   ·have q2:(64:Int) < (m':Int):=by omega
    have q5:(64:Int)≤(c':Int):=by omega
    have FC:=Lib.hid (fun(u:World) (hu:Below w.heap.size w u)=>full_any B' 64 c' (l'.take 64) u (by rw[←bl_take];exact(HL.out.take_ 64 (by omega)).below hu) HN.out (Nat.le_refl _))
    go_upto_region 8 with fail
    refine wp_region_held_drew (S:=fun _=>True) (by kernel_rfl) trivial (fun _=>?_)
    refine take_l 0 (v:=?_) rfl (by kernel_rfl) (by kernel_rfl) (by kernel_rfl) (fun _ _ _ h=>h) (Or.inl ⟨by rfl,?_⟩) trivial ?_;rotate_left
    ·intro w' hSw
     go_simp
     all_goals with_reducible rfl
    try simp only[Act.put,List.setIfInBounds_toArray,List.set_cons_zero,List.set_cons_succ]
    refine take_l 1 (v:=?_) rfl (by kernel_rfl) (by kernel_rfl) (by kernel_rfl) (fun _ _ _ h=>h) (Or.inl ⟨by rfl,?_⟩) trivial ?_;rotate_left
    ·intro w' hSw
     go_simp
     all_goals with_reducible rfl
    try simp only[Act.put,List.setIfInBounds_toArray,List.set_cons_zero,List.set_cons_succ]
    refine take_l 2 (v:=?_) rfl (by kernel_rfl) (by kernel_rfl) (by kernel_rfl) (fun _ _ _ h=>h) (Or.inl ⟨by rfl,?_⟩) trivial ?_;rotate_left
    ·intro w' hSw
     go_simp
     all_goals with_reducible rfl
    try simp only[Act.put,List.setIfInBounds_toArray,List.set_cons_zero,List.set_cons_succ]
    refine take_l 3 (v:=?_) rfl (by kernel_rfl) (by kernel_rfl) (by kernel_rfl) (fun _ _ _ h=>h) (Or.inl ⟨by rfl,?_⟩) trivial ?_;rotate_left
    ·intro w' hSw
     go_simp
     all_goals with_reducible rfl
    try simp only[Act.put,List.setIfInBounds_toArray,List.set_cons_zero,List.set_cons_succ]
    refine take_l 5 (v:=?_) rfl (by kernel_rfl) (by kernel_rfl) (by kernel_rfl) (fun _ _ _ h=>h) (Or.inl ⟨by rfl,?_⟩) trivial ?_;rotate_left
    ·intro w' hSw
     go_simp
     all_goals with_reducible rfl
    try simp only[Act.put,List.setIfInBounds_toArray,List.set_cons_zero,List.set_cons_succ]
    refine take_l 6 (v:=?_) rfl (by kernel_rfl) (by kernel_rfl) (by kernel_rfl) (fun _ _ _ h=>h) (Or.inl ⟨by rfl,?_⟩) trivial ?_;rotate_left
    ·intro w' hSw
     go_simp
     all_goals with_reducible rfl
    try simp only[Act.put,List.setIfInBounds_toArray,List.set_cons_zero,List.set_cons_succ]
    refine wpAnyH_ready (rs:=[4,7]) (by kernel_rfl) (by simp) ?_
    refine cons_l rfl (fun K0 hK=>?_) (cons_l rfl (fun K0 hK=>?_) (AllReadyH.nil))
    ·go_simp
     refine hK.out _ _ trivial (fun _=>?_)
     clear hK K0
     try simp only[Act.put,List.setIfInBounds_toArray,List.set_cons_zero,List.set_cons_succ]
     refine wpAnyH_ready (rs:=[7]) (by kernel_rfl) (by simp) ?_
     refine cons_l rfl (fun K0 hK=>?_) (AllReadyH.nil)
     go_simp
     (go_at_call 42;(with_reducible refine(FC.out _ BD.out).mono ?_);rintro e w1 ⟨X,rfl,k1,k2⟩)
     obtain⟨xq,xc,xl,rfl,xx⟩:=id k1
     have HX:=Lib.hid (show Sec w1 wr.heap.size (.slice (some ⟨xq,0,none⟩) 64 xc) from k1)
     have HB:=Lib.hid (show Below wr.heap.size wr w1 from(below_drewN (Below.refl _ _) 1).trans k2)
     have c1b:=(HR.out.below HB.out).c0
     have c1c:(w1.alloc (.cells #[(.slice (some ⟨xq,0,none⟩) 64 xc)] 22)).cell? ⟨w.heap.size,0,none⟩=some (.slice sA i sc):=((HR.out.below HB.out).blk.alloc _).cell_ rfl
     have OA:=Lib.hid (own_gx (Gx.of_below (S:=[]) ((Below.refl w1.heap.size w1).alloc (Nat.le_refl _) (.cells #[(.slice (some ⟨xq,0,none⟩) 64 xc)] 22))) (fun b hb e=>by cases e) (HR.out.below HB.out).row)
     have SX:=Lib.hid (show Sl (w1.alloc (.cells #[(.slice (some ⟨xq,0,none⟩) 64 xc)] 22)) (some ⟨w1.heap.size,0,none⟩) 1 [(.slice (some ⟨xq,0,none⟩) 64 xc)] from Sl.of_bl (Bl.new_ w1 _ _) 0 _ _ rfl fun k v hk=>by rw[Nat.zero_add];simpa using hk)
     clear k1 k2 xx
     refine hK.out _ _ trivial (fun _=>?_)
     clear hK K0
     try simp only[Act.put,List.setIfInBounds_toArray,List.set_cons_zero,List.set_cons_succ]
     refine wpAnyH_ready (rs:=[8]) (by kernel_rfl) (by simp) ?_
     refine cons_l rfl (fun K0 hK=>?_) (AllReadyH.nil)
     go_simp
     refine hK.out _ _ trivial (fun _=>?_)
     clear hK K0
     try simp only[Act.put,List.setIfInBounds_toArray,List.set_cons_zero,List.set_cons_succ]
     refine wpAnyH_ready (rs:=[9]) (by kernel_rfl) (by simp) ?_
     refine cons_l rfl (fun K0 hK=>?_) (AllReadyH.nil)
     refine step_append_sl rfl (.tmp 35) (.tmp 39) 73 rfl w.heap.size 22 i0 _ 24 Try.underlying73 hi hz0 hz1 hz2 rfl (.slice sA i sc) i xs rfl OA.out (some ⟨w1.heap.size,0,none⟩) 1 1 [(.slice (some ⟨xq,0,none⟩) 64 xc)] rfl (fun e=>by cases e) SX.out (by intro u hu;simp at hu;subst hu;rfl) (by unfold maxLen;omega) (by omega) (by have:=HB.out.size;have:=HF.out.size;simp;omega) ?_
     intro v4 w4 hown4 hgrow4
     obtain⟨E4,cap4,rfl⟩:=own_len hown4
     have HQ:=Lib.hid (HR.out.plus HB.out HX.out hown4 hgrow4 (by omega))
     have B4:=HR.out.still0 HB.out hgrow4
     have c14:w4.cell? ⟨w.heap.size,0,none⟩=some (.slice sA i sc):=B4.cell_ rfl
     have f14:=B4.frozen 0
     clear hown4 hgrow4 B4
     refine hK.out _ _ trivial (fun _=>?_)
     clear hK K0
     try simp only[Act.put,List.setIfInBounds_toArray,List.set_cons_zero,List.set_cons_succ]
     refine take_l 10 (v:=?_) rfl (by kernel_rfl) (by kernel_rfl) (by kernel_rfl) (fun _ _ _ h=>h) (Or.inl ⟨by rfl,?_⟩) trivial ?_;rotate_left
     ·intro w' hSw
      go_simp
      all_goals with_reducible rfl
     try simp only[Act.put,List.setIfInBounds_toArray,List.set_cons_zero,List.set_cons_succ]
     refine take_l 11 (v:=?_) rfl (by kernel_rfl) (by kernel_rfl) (by kernel_rfl) (fun _ _ _ h=>h) (Or.inl ⟨by rfl,?_⟩) trivial ?_;rotate_left
     ·intro w' hSw
      go_simp
      all_goals with_reducible rfl
     try simp only[Act.put,List.setIfInBounds_toArray,List.set_cons_zero,List.set_cons_succ]
     refine wpAnyH_ready (rs:=[12]) (by kernel_rfl) (by simp) ?_
     refine cons_l rfl (fun K0 hK=>?_) (AllReadyH.nil)
     go_simp
     refine hK.out _ _ trivial (fun _=>?_)
     clear hK K0
     try simp only[Act.put,List.setIfInBounds_toArray,List.set_cons_zero,List.set_cons_succ]
     refine wpAnyH_done (by kernel_rfl) ?_ _
     go_wp2_with fail
     refine⟨⟨i+1,m' - 64,c' - 64,_,l'.drop 64,_,_,by go_num,by first|rfl|(rw[if_neg (by omega:¬c'=64)];rfl)|(simp;rfl),by omega,by omega,by omega,?_,nil_drop HN.out,HQ.out.1,HF.out.trans HQ.out.2⟩,by simp[intOf];omega⟩
     rw[←bl_drop]
     exact HL.out.drop_ 64 (by omega) hc'
    ·go_simp
     (go_at_call 42;(with_reducible refine(FC.out _ BD.out).mono ?_);rintro e w1 ⟨X,rfl,k1,k2⟩)
     obtain⟨xq,xc,xl,rfl,xx⟩:=id k1
     have HX:=Lib.hid (show Sec w1 wr.heap.size (.slice (some ⟨xq,0,none⟩) 64 xc) from k1)
     have HB:=Lib.hid (show Below wr.heap.size wr w1 from(below_drewN (Below.refl _ _) 1).trans k2)
     have c1b:=(HR.out.below HB.out).c0
     have c1c:(w1.alloc (.cells #[(.slice (some ⟨xq,0,none⟩) 64 xc)] 22)).cell? ⟨w.heap.size,0,none⟩=some (.slice sA i sc):=((HR.out.below HB.out).blk.alloc _).cell_ rfl
     have OA:=Lib.hid (own_gx (Gx.of_below (S:=[]) ((Below.refl w1.heap.size w1).alloc (Nat.le_refl _) (.cells #[(.slice (some ⟨xq,0,none⟩) 64 xc)] 22))) (fun b hb e=>by cases e) (HR.out.below HB.out).row)
     have SX:=Lib.hid (show Sl (w1.alloc (.cells #[(.slice (some ⟨xq,0,none⟩) 64 xc)] 22)) (some ⟨w1.heap.size,0,none⟩) 1 [(.slice (some ⟨xq,0,none⟩) 64 xc)] from Sl.of_bl (Bl.new_ w1 _ _) 0 _ _ rfl fun k v hk=>by rw[Nat.zero_add];simpa using hk)
     clear k1 k2 xx
     refine hK.out _ _ trivial (fun _=>?_)
     clear hK K0
     try simp only[Act.put,List.setIfInBounds_toArray,List.set_cons_zero,List.set_cons_succ]
     refine wpAnyH_ready (rs:=[4,8]) (by kernel_rfl) (by simp) ?_
     refine cons_l rfl (fun K0 hK=>?_) (cons_l rfl (fun K0 hK=>?_) (AllReadyH.nil))
     ·go_simp
      refine hK.out _ _ trivial (fun _=>?_)
      clear hK K0
      try simp only[Act.put,List.setIfInBounds_toArray,List.set_cons_zero,List.set_cons_succ]
      refine wpAnyH_ready (rs:=[8]) (by kernel_rfl) (by simp) ?_
      refine cons_l rfl (fun K0 hK=>?_) (AllReadyH.nil)
      go_simp
      refine hK.out _ _ trivial (fun _=>?_)
      clear hK K0
      try simp only[Act.put,List.setIfInBounds_toArray,List.set_cons_zero,List.set_cons_succ]
      refine wpAnyH_ready (rs:=[9]) (by kernel_rfl) (by simp) ?_
      refine cons_l rfl (fun K0 hK=>?_) (AllReadyH.nil)
      refine step_append_sl rfl (.tmp 35) (.tmp 39) 73 rfl w.heap.size 22 i0 _ 24 Try.underlying73 hi hz0 hz1 hz2 rfl (.slice sA i sc) i xs rfl OA.out (some ⟨w1.heap.size,0,none⟩) 1 1 [(.slice (some ⟨xq,0,none⟩) 64 xc)] rfl (fun e=>by cases e) SX.out (by intro u hu;simp at hu;subst hu;rfl) (by unfold maxLen;omega) (by omega) (by have:=HB.out.size;have:=HF.out.size;simp;omega) ?_
      intro v4 w4 hown4 hgrow4
      obtain⟨E4,cap4,rfl⟩:=own_len hown4
      have HQ:=Lib.hid (HR.out.plus HB.out HX.out hown4 hgrow4 (by omega))
      have B4:=HR.out.still0 HB.out hgrow4
      have c14:w4.cell? ⟨w.heap.size,0,none⟩=some (.slice sA i sc):=B4.cell_ rfl
      have f14:=B4.frozen 0
      clear hown4 hgrow4 B4
      refine hK.out _ _ trivial (fun _=>?_)
      clear hK K0
      try simp only[Act.put,List.setIfInBounds_toArray,List.set_cons_zero,List.set_cons_succ]
      refine take_l 10 (v:=?_) rfl (by kernel_rfl) (by kernel_rfl) (by kernel_rfl) (fun _ _ _ h=>h) (Or.inl ⟨by rfl,?_⟩) trivial ?_;rotate_left
      ·intro w' hSw
       go_simp
       all_goals with_reducible rfl
      try simp only[Act.put,List.setIfInBounds_toArray,List.set_cons_zero,List.set_cons_succ]
      refine take_l 11 (v:=?_) rfl (by kernel_rfl) (by kernel_rfl) (by kernel_rfl) (fun _ _ _ h=>h) (Or.inl ⟨by rfl,?_⟩) trivial ?_;rotate_left
      ·intro w' hSw
       go_simp
       all_goals with_reducible rfl
      try simp only[Act.put,List.setIfInBounds_toArray,List.set_cons_zero,List.set_cons_succ]
      refine wpAnyH_ready (rs:=[12]) (by kernel_rfl) (by simp) ?_
      refine cons_l rfl (fun K0 hK=>?_) (AllReadyH.nil)
      go_simp
      refine hK.out _ _ trivial (fun _=>?_)
      clear hK K0
      try simp only[Act.put,List.setIfInBounds_toArray,List.set_cons_zero,List.set_cons_succ]
      refine wpAnyH_done (by kernel_rfl) ?_ _
      go_wp2_with fail
      refine⟨⟨i+1,m' - 64,c' - 64,_,l'.drop 64,_,_,by go_num,by first|rfl|(rw[if_neg (by omega:¬c'=64)];rfl)|(simp;rfl),by omega,by omega,by omega,?_,nil_drop HN.out,HQ.out.1,HF.out.trans HQ.out.2⟩,by simp[intOf];omega⟩
      rw[←bl_drop]
      exact HL.out.drop_ 64 (by omega) hc'
     ·go_simp
      refine hK.out _ _ trivial (fun _=>?_)
      clear hK K0
      try simp only[Act.put,List.setIfInBounds_toArray,List.set_cons_zero,List.set_cons_succ]
      refine wpAnyH_ready (rs:=[4]) (by kernel_rfl) (by simp) ?_
      refine cons_l rfl (fun K0 hK=>?_) (AllReadyH.nil)
      go_simp
      refine hK.out _ _ trivial (fun _=>?_)
      clear hK K0
      try simp only[Act.put,List.setIfInBounds_toArray,List.set_cons_zero,List.set_cons_succ]
      refine wpAnyH_ready (rs:=[9]) (by kernel_rfl) (by simp) ?_
      refine cons_l rfl (fun K0 hK=>?_) (AllReadyH.nil)
      refine step_append_sl rfl (.tmp 35) (.tmp 39) 73 rfl w.heap.size 22 i0 _ 24 Try.underlying73 hi hz0 hz1 hz2 rfl (.slice sA i sc) i xs rfl OA.out (some ⟨w1.heap.size,0,none⟩) 1 1 [(.slice (some ⟨xq,0,none⟩) 64 xc)] rfl (fun e=>by cases e) SX.out (by intro u hu;simp at hu;subst hu;rfl) (by unfold maxLen;omega) (by omega) (by have:=HB.out.size;have:=HF.out.size;simp;omega) ?_
      intro v4 w4 hown4 hgrow4
      obtain⟨E4,cap4,rfl⟩:=own_len hown4
      have HQ:=Lib.hid (HR.out.plus HB.out HX.out hown4 hgrow4 (by omega))
      have B4:=HR.out.still0 HB.out hgrow4
      have c14:w4.cell? ⟨w.heap.size,0,none⟩=some (.slice sA i sc):=B4.cell_ rfl
      have f14:=B4.frozen 0
      clear hown4 hgrow4 B4
      refine hK.out _ _ trivial (fun _=>?_)
      clear hK K0
      try simp only[Act.put,List.setIfInBounds_toArray,List.set_cons_zero,List.set_cons_succ]
      refine take_l 10 (v:=?_) rfl (by kernel_rfl) (by kernel_rfl) (by kernel_rfl) (fun _ _ _ h=>h) (Or.inl ⟨by rfl,?_⟩) trivial ?_;rotate_left
      ·intro w' hSw
       go_simp
       all_goals with_reducible rfl
      try simp only[Act.put,List.setIfInBounds_toArray,List.set_cons_zero,List.set_cons_succ]
      refine take_l 11 (v:=?_) rfl (by kernel_rfl) (by kernel_rfl) (by kernel_rfl) (fun _ _ _ h=>h) (Or.inl ⟨by rfl,?_⟩) trivial ?_;rotate_left
      ·intro w' hSw
       go_simp
       all_goals with_reducible rfl
      try simp only[Act.put,List.setIfInBounds_toArray,List.set_cons_zero,List.set_cons_succ]
      refine wpAnyH_ready (rs:=[12]) (by kernel_rfl) (by simp) ?_
      refine cons_l rfl (fun K0 hK=>?_) (AllReadyH.nil)
      go_simp
      refine hK.out _ _ trivial (fun _=>?_)
      clear hK K0
      try simp only[Act.put,List.setIfInBounds_toArray,List.set_cons_zero,List.set_cons_succ]
      refine wpAnyH_done (by kernel_rfl) ?_ _
      go_wp2_with fail
      refine⟨⟨i+1,m' - 64,c' - 64,_,l'.drop 64,_,_,by go_num,by first|rfl|(rw[if_neg (by omega:¬c'=64)];rfl)|(simp;rfl),by omega,by omega,by omega,?_,nil_drop HN.out,HQ.out.1,HF.out.trans HQ.out.2⟩,by simp[intOf];omega⟩
      rw[←bl_drop]
      exact HL.out.drop_ 64 (by omega) hc'
   ·have q2:¬(64:Int) < (m':Int):=by omega
    have FC:=Lib.hid (fun(u:World) (hu:Below w.heap.size w u)=>full_any B' m' c' l' u (HL.out.below hu) HN.out (by omega))
    go_upto_region 10 with fail
    refine wp_region_held_drew (S:=fun _=>True) (by kernel_rfl) trivial (fun _=>?_)
    refine take_l 0 (v:=?_) rfl (by kernel_rfl) (by kernel_rfl) (by kernel_rfl) (fun _ _ _ h=>h) (Or.inl ⟨by rfl,?_⟩) trivial ?_;rotate_left
    ·intro w' hSw
     go_simp
     all_goals with_reducible rfl
    try simp only[Act.put,List.setIfInBounds_toArray,List.set_cons_zero,List.set_cons_succ]
    refine take_l 1 (v:=?_) rfl (by kernel_rfl) (by kernel_rfl) (by kernel_rfl) (fun _ _ _ h=>h) (Or.inl ⟨by rfl,?_⟩) trivial ?_;rotate_left
    ·intro w' hSw
     go_simp
     all_goals with_reducible rfl
    try simp only[Act.put,List.setIfInBounds_toArray,List.set_cons_zero,List.set_cons_succ]
    refine take_l 2 (v:=?_) rfl (by kernel_rfl) (by kernel_rfl) (by kernel_rfl) (fun _ _ _ h=>h) (Or.inl ⟨by rfl,?_⟩) trivial ?_;rotate_left
    ·intro w' hSw
     go_simp
     all_goals with_reducible rfl
    try simp only[Act.put,List.setIfInBounds_toArray,List.set_cons_zero,List.set_cons_succ]
    refine take_l 3 (v:=?_) rfl (by kernel_rfl) (by kernel_rfl) (by kernel_rfl) (fun _ _ _ h=>h) (Or.inl ⟨by rfl,?_⟩) trivial ?_;rotate_left
    ·intro w' hSw
     go_simp
     all_goals with_reducible rfl
    try simp only[Act.put,List.setIfInBounds_toArray,List.set_cons_zero,List.set_cons_succ]
    refine take_l 5 (v:=?_) rfl (by kernel_rfl) (by kernel_rfl) (by kernel_rfl) (fun _ _ _ h=>h) (Or.inl ⟨by rfl,?_⟩) trivial ?_;rotate_left
    ·intro w' hSw
     go_simp
     all_goals with_reducible rfl
    try simp only[Act.put,List.setIfInBounds_toArray,List.set_cons_zero,List.set_cons_succ]
    refine wpAnyH_ready (rs:=[4,6]) (by kernel_rfl) (by simp) ?_
    refine cons_l rfl (fun K0 hK=>?_) (cons_l rfl (fun K0 hK=>?_) (AllReadyH.nil))
    ·go_simp
     refine hK.out _ _ trivial (fun _=>?_)
     clear hK K0
     try simp only[Act.put,List.setIfInBounds_toArray,List.set_cons_zero,List.set_cons_succ]
     refine wpAnyH_ready (rs:=[6]) (by kernel_rfl) (by simp) ?_
     refine cons_l rfl (fun K0 hK=>?_) (AllReadyH.nil)
     go_simp
     (go_at_call 42;(with_reducible refine(FC.out _ BD.out).mono ?_);rintro e w1 ⟨X,rfl,k1,k2⟩)
     obtain⟨xq,xc,xl,rfl,xx⟩:=id k1
     have HX:=Lib.hid (show Sec w1 wr.heap.size (.slice (some ⟨xq,0,none⟩) 64 xc) from k1)
     have HB:=Lib.hid (show Below wr.heap.size wr w1 from(below_drewN (Below.refl _ _) 1).trans k2)
     have c1b:=(HR.out.below HB.out).c0
     have c1c:(w1.alloc (.cells #[(.slice (some ⟨xq,0,none⟩) 64 xc)] 22)).cell? ⟨w.heap.size,0,none⟩=some (.slice sA i sc):=((HR.out.below HB.out).blk.alloc _).cell_ rfl
     have OA:=Lib.hid (own_gx (Gx.of_below (S:=[]) ((Below.refl w1.heap.size w1).alloc (Nat.le_refl _) (.cells #[(.slice (some ⟨xq,0,none⟩) 64 xc)] 22))) (fun b hb e=>by cases e) (HR.out.below HB.out).row)
     have SX:=Lib.hid (show Sl (w1.alloc (.cells #[(.slice (some ⟨xq,0,none⟩) 64 xc)] 22)) (some ⟨w1.heap.size,0,none⟩) 1 [(.slice (some ⟨xq,0,none⟩) 64 xc)] from Sl.of_bl (Bl.new_ w1 _ _) 0 _ _ rfl fun k v hk=>by rw[Nat.zero_add];simpa using hk)
     clear k1 k2 xx
     refine hK.out _ _ trivial (fun _=>?_)
     clear hK K0
     try simp only[Act.put,List.setIfInBounds_toArray,List.set_cons_zero,List.set_cons_succ]
     refine wpAnyH_ready (rs:=[7]) (by kernel_rfl) (by simp) ?_
     refine cons_l rfl (fun K0 hK=>?_) (AllReadyH.nil)
     go_simp
     refine hK.out _ _ trivial (fun _=>?_)
     clear hK K0
     try simp only[Act.put,List.setIfInBounds_toArray,List.set_cons_zero,List.set_cons_succ]
     refine wpAnyH_ready (rs:=[8]) (by kernel_rfl) (by simp) ?_
     refine cons_l rfl (fun K0 hK=>?_) (AllReadyH.nil)
     refine step_append_sl rfl (.tmp 49) (.tmp 52) 73 rfl w.heap.size 22 i0 _ 24 Try.underlying73 hi hz0 hz1 hz2 rfl (.slice sA i sc) i xs rfl OA.out (some ⟨w1.heap.size,0,none⟩) 1 1 [(.slice (some ⟨xq,0,none⟩) 64 xc)] rfl (fun e=>by cases e) SX.out (by intro u hu;simp at hu;subst hu;rfl) (by unfold maxLen;omega) (by omega) (by have:=HB.out.size;have:=HF.out.size;simp;omega) ?_
     intro v4 w4 hown4 hgrow4
     obtain⟨E4,cap4,rfl⟩:=own_len hown4
     have HQ:=Lib.hid (HR.out.plus HB.out HX.out hown4 hgrow4 (by omega))
     have B4:=HR.out.still0 HB.out hgrow4
     have c14:w4.cell? ⟨w.heap.size,0,none⟩=some (.slice sA i sc):=B4.cell_ rfl
     have f14:=B4.frozen 0
     clear hown4 hgrow4 B4
     refine hK.out _ _ trivial (fun _=>?_)
     clear hK K0
     try simp only[Act.put,List.setIfInBounds_toArray,List.set_cons_zero,List.set_cons_succ]
     refine take_l 9 (v:=?_) rfl (by kernel_rfl) (by kernel_rfl) (by kernel_rfl) (fun _ _ _ h=>h) (Or.inl ⟨by rfl,?_⟩) trivial ?_;rotate_left
     ·intro w' hSw
      go_simp
      all_goals with_reducible rfl
     try simp only[Act.put,List.setIfInBounds_toArray,List.set_cons_zero,List.set_cons_succ]
     refine take_l 10 (v:=?_) rfl (by kernel_rfl) (by kernel_rfl) (by kernel_rfl) (fun _ _ _ h=>h) (Or.inl ⟨by rfl,?_⟩) trivial ?_;rotate_left
     ·intro w' hSw
      go_simp
      all_goals with_reducible rfl
     try simp only[Act.put,List.setIfInBounds_toArray,List.set_cons_zero,List.set_cons_succ]
     refine wpAnyH_ready (rs:=[11]) (by kernel_rfl) (by simp) ?_
     refine cons_l rfl (fun K0 hK=>?_) (AllReadyH.nil)
     go_simp
     refine hK.out _ _ trivial (fun _=>?_)
     clear hK K0
     try simp only[Act.put,List.setIfInBounds_toArray,List.set_cons_zero,List.set_cons_succ]
     refine wpAnyH_done (by kernel_rfl) ?_ _
     go_wp2_with fail
     exact⟨⟨i+1,0,0,none,[],_,_,by go_num,rfl,by omega,by omega,by omega,Sl.nil_ _ _,fun _=>rfl,HQ.out.1,HF.out.trans HQ.out.2⟩,by simp[intOf];omega⟩
    ·go_simp
     (go_at_call 42;(with_reducible refine(FC.out _ BD.out).mono ?_);rintro e w1 ⟨X,rfl,k1,k2⟩)
     obtain⟨xq,xc,xl,rfl,xx⟩:=id k1
     have HX:=Lib.hid (show Sec w1 wr.heap.size (.slice (some ⟨xq,0,none⟩) 64 xc) from k1)
     have HB:=Lib.hid (show Below wr.heap.size wr w1 from(below_drewN (Below.refl _ _) 1).trans k2)
     have c1b:=(HR.out.below HB.out).c0
     have c1c:(w1.alloc (.cells #[(.slice (some ⟨xq,0,none⟩) 64 xc)] 22)).cell? ⟨w.heap.size,0,none⟩=some (.slice sA i sc):=((HR.out.below HB.out).blk.alloc _).cell_ rfl
     have OA:=Lib.hid (own_gx (Gx.of_below (S:=[]) ((Below.refl w1.heap.size w1).alloc (Nat.le_refl _) (.cells #[(.slice (some ⟨xq,0,none⟩) 64 xc)] 22))) (fun b hb e=>by cases e) (HR.out.below HB.out).row)
     have SX:=Lib.hid (show Sl (w1.alloc (.cells #[(.slice (some ⟨xq,0,none⟩) 64 xc)] 22)) (some ⟨w1.heap.size,0,none⟩) 1 [(.slice (some ⟨xq,0,none⟩) 64 xc)] from Sl.of_bl (Bl.new_ w1 _ _) 0 _ _ rfl fun k v hk=>by rw[Nat.zero_add];simpa using hk)
     clear k1 k2 xx
     refine hK.out _ _ trivial (fun _=>?_)
     clear hK K0
     try simp only[Act.put,List.setIfInBounds_toArray,List.set_cons_zero,List.set_cons_succ]
     refine wpAnyH_ready (rs:=[4,7]) (by kernel_rfl) (by simp) ?_
     refine cons_l rfl (fun K0 hK=>?_) (cons_l rfl (fun K0 hK=>?_) (AllReadyH.nil))
     ·go_simp
      refine hK.out _ _ trivial (fun _=>?_)
      clear hK K0
      try simp only[Act.put,List.setIfInBounds_toArray,List.set_cons_zero,List.set_cons_succ]
      refine wpAnyH_ready (rs:=[7]) (by kernel_rfl) (by simp) ?_
      refine cons_l rfl (fun K0 hK=>?_) (AllReadyH.nil)
      go_simp
      refine hK.out _ _ trivial (fun _=>?_)
      clear hK K0
      try simp only[Act.put,List.setIfInBounds_toArray,List.set_cons_zero,List.set_cons_succ]
      refine wpAnyH_ready (rs:=[8]) (by kernel_rfl) (by simp) ?_
      refine cons_l rfl (fun K0 hK=>?_) (AllReadyH.nil)
      refine step_append_sl rfl (.tmp 49) (.tmp 52) 73 rfl w.heap.size 22 i0 _ 24 Try.underlying73 hi hz0 hz1 hz2 rfl (.slice sA i sc) i xs rfl OA.out (some ⟨w1.heap.size,0,none⟩) 1 1 [(.slice (some ⟨xq,0,none⟩) 64 xc)] rfl (fun e=>by cases e) SX.out (by intro u hu;simp at hu;subst hu;rfl) (by unfold maxLen;omega) (by omega) (by have:=HB.out.size;have:=HF.out.size;simp;omega) ?_
      intro v4 w4 hown4 hgrow4
      obtain⟨E4,cap4,rfl⟩:=own_len hown4
      have HQ:=Lib.hid (HR.out.plus HB.out HX.out hown4 hgrow4 (by omega))
      have B4:=HR.out.still0 HB.out hgrow4
      have c14:w4.cell? ⟨w.heap.size,0,none⟩=some (.slice sA i sc):=B4.cell_ rfl
      have f14:=B4.frozen 0
      clear hown4 hgrow4 B4
      refine hK.out _ _ trivial (fun _=>?_)
      clear hK K0
      try simp only[Act.put,List.setIfInBounds_toArray,List.set_cons_zero,List.set_cons_succ]
      refine take_l 9 (v:=?_) rfl (by kernel_rfl) (by kernel_rfl) (by kernel_rfl) (fun _ _ _ h=>h) (Or.inl ⟨by rfl,?_⟩) trivial ?_;rotate_left
      ·intro w' hSw
       go_simp
       all_goals with_reducible rfl
      try simp only[Act.put,List.setIfInBounds_toArray,List.set_cons_zero,List.set_cons_succ]
      refine take_l 10 (v:=?_) rfl (by kernel_rfl) (by kernel_rfl) (by kernel_rfl) (fun _ _ _ h=>h) (Or.inl ⟨by rfl,?_⟩) trivial ?_;rotate_left
      ·intro w' hSw
       go_simp
       all_goals with_reducible rfl
      try simp only[Act.put,List.setIfInBounds_toArray,List.set_cons_zero,List.set_cons_succ]
      refine wpAnyH_ready (rs:=[11]) (by kernel_rfl) (by simp) ?_
      refine cons_l rfl (fun K0 hK=>?_) (AllReadyH.nil)
      go_simp
      refine hK.out _ _ trivial (fun _=>?_)
      clear hK K0
      try simp only[Act.put,List.setIfInBounds_toArray,List.set_cons_zero,List.set_cons_succ]
      refine wpAnyH_done (by kernel_rfl) ?_ _
      go_wp2_with fail
      exact⟨⟨i+1,0,0,none,[],_,_,by go_num,rfl,by omega,by omega,by omega,Sl.nil_ _ _,fun _=>rfl,HQ.out.1,HF.out.trans HQ.out.2⟩,by simp[intOf];omega⟩
     ·go_simp
      refine hK.out _ _ trivial (fun _=>?_)
      clear hK K0
      try simp only[Act.put,List.setIfInBounds_toArray,List.set_cons_zero,List.set_cons_succ]
      refine wpAnyH_ready (rs:=[4]) (by kernel_rfl) (by simp) ?_
      refine cons_l rfl (fun K0 hK=>?_) (AllReadyH.nil)
      go_simp
      refine hK.out _ _ trivial (fun _=>?_)
      clear hK K0
      try simp only[Act.put,List.setIfInBounds_toArray,List.set_cons_zero,List.set_cons_succ]
      refine wpAnyH_ready (rs:=[8]) (by kernel_rfl) (by simp) ?_
      refine cons_l rfl (fun K0 hK=>?_) (AllReadyH.nil)
      refine step_append_sl rfl (.tmp 49) (.tmp 52) 73 rfl w.heap.size 22 i0 _ 24 Try.underlying73 hi hz0 hz1 hz2 rfl (.slice sA i sc) i xs rfl OA.out (some ⟨w1.heap.size,0,none⟩) 1 1 [(.slice (some ⟨xq,0,none⟩) 64 xc)] rfl (fun e=>by cases e) SX.out (by intro u hu;simp at hu;subst hu;rfl) (by unfold maxLen;omega) (by omega) (by have:=HB.out.size;have:=HF.out.size;simp;omega) ?_
      intro v4 w4 hown4 hgrow4
      obtain⟨E4,cap4,rfl⟩:=own_len hown4
      have HQ:=Lib.hid (HR.out.plus HB.out HX.out hown4 hgrow4 (by omega))
      have B4:=HR.out.still0 HB.out hgrow4
      have c14:w4.cell? ⟨w.heap.size,0,none⟩=some (.slice sA i sc):=B4.cell_ rfl
      have f14:=B4.frozen 0
      clear hown4 hgrow4 B4
      refine hK.out _ _ trivial (fun _=>?_)
      clear hK K0
      try simp only[Act.put,List.setIfInBounds_toArray,List.set_cons_zero,List.set_cons_succ]
      refine take_l 9 (v:=?_) rfl (by kernel_rfl) (by kernel_rfl) (by kernel_rfl) (fun _ _ _ h=>h) (Or.inl ⟨by rfl,?_⟩) trivial ?_;rotate_left
      ·intro w' hSw
       go_simp
       all_goals with_reducible rfl
      try simp only[Act.put,List.setIfInBounds_toArray,List.set_cons_zero,List.set_cons_succ]
      refine take_l 10 (v:=?_) rfl (by kernel_rfl) (by kernel_rfl) (by kernel_rfl) (fun _ _ _ h=>h) (Or.inl ⟨by rfl,?_⟩) trivial ?_;rotate_left
      ·intro w' hSw
       go_simp
       all_goals with_reducible rfl
      try simp only[Act.put,List.setIfInBounds_toArray,List.set_cons_zero,List.set_cons_succ]
      refine wpAnyH_ready (rs:=[11]) (by kernel_rfl) (by simp) ?_
      refine cons_l rfl (fun K0 hK=>?_) (AllReadyH.nil)
      go_simp
      refine hK.out _ _ trivial (fun _=>?_)
      clear hK K0
      try simp only[Act.put,List.setIfInBounds_toArray,List.set_cons_zero,List.set_cons_succ]
      refine wpAnyH_done (by kernel_rfl) ?_ _
      go_wp2_with fail
      exact⟨⟨i+1,0,0,none,[],_,_,by go_num,rfl,by omega,by omega,by omega,Sl.nil_ _ _,fun _=>rfl,HQ.out.1,HF.out.trans HQ.out.2⟩,by simp[intOf];omega⟩
  ·obtain rfl:i=s:=by omega
   have q1:¬(i:Int) < (i:Int):=by omega
   go_wp2_with fail
   go_ret2
   exact⟨_,rfl,HR.out.rd (Nat.le_refl _) (by decide),HF.out.below (Nat.le_refl _) (by intro k hk;cases hk) (Nat.le_refl _)⟩
end
end Go.Proofs.Ytbgkdbjineennaa.Dk
