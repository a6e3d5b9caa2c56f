/- Joined texts. -/
import Derived.Test.YtbgkdbjineennaaQcDkRd
set_option linter.unusedVariables false
namespace Go.Proofs.Ytbgkdbjineennaa.Dk
open Go.IntWalk Go.RowKit Go.Proofs.Ytbgkdbjineennaa.Gn Go.Proofs.Ytbgkdbjineennaa.Fd Go.Deep
section
variable {w:World} {a0 lo r n:Nat} {S V:Value} {dn:Bool} {st lf:Int} {A:Option Addr} {k c:Nat} {xs:List Value} {hs:List (Nat × Value)} {cb:List Bool}
theorem Rq.put{sg sc:Nat}(h:Rq w a0 lo r n (.slice (some ⟨sg,0,none⟩) n sc) V dn st lf A k c xs hs cb)(p:Nat)(x:Value)(hp:p < n)(hx:Sec w lo x):Rq (w.setCell ⟨sg,p,none⟩ x).drew a0 lo r n (.slice (some ⟨sg,0,none⟩) n sc) V dn st lf A k c (xs.set p x) hs cb∧Gx [sg] w (w.setCell ⟨sg,p,none⟩ x).drew:=by
 have hk:Kd w sg 22:=(own_kd h.row rfl).2
 have hlo:lo≤sg:=(own_kd h.row rfl).1
 have hG:Gx [sg] w (w.setCell ⟨sg,p,none⟩ x):=(Gx.refl _ _).set (by simp) _
 have hD:Gx [sg] w (w.setCell ⟨sg,p,none⟩ x).drew:=hG.trans (Gx.of_below (below_drewN (Below.refl _ _) 1))
 have hT:∀b∈[sg],¬(lo≤b∧Kd w b 5):=fun b hb e=>by
  rw[List.mem_singleton.1 hb] at e
  exact(hk.unlike e.2 (by decide)) rfl
 have hr:r≠sg:=fun e=>Kd.unlike ⟨_,h.blk⟩ hk (by decide) e
 refine⟨⟨(h.blk.other hr x).drew,?_,fun y hy=>?_,own_gx hD (fun b hb e=>?_) h.wait,fun y hy=>⟨(h.hsec y hy).1,(h.hsec y hy).2.kept hD hT⟩,h.st0,h.st9,h.hl9,h.lf0,h.lf9,sl_gx0 hD (fun ad e hk0 hm=>?_) h.cho,h.k9,h.cA,h.rlo,h.al,h.n9⟩,hD⟩
 ·obtain⟨hl,⟨e1,h0⟩|⟨g,cap,cur,e1,hb',hh,h1,h2,h3,h4⟩⟩:=h.row
  ·cases e1
  ·cases e1
   refine⟨by rw[List.length_set];exact hl,.inr ⟨sg,sc,cur.setIfInBounds p x,rfl,hb',Bl.set_ (t:=22) hh p x,h1,h2,by rw[Array.size_setIfInBounds];exact h3,?_⟩⟩
   rw[Array.toList_setIfInBounds,List.take_set,h4]
 ·rcases List.mem_or_eq_of_mem_set hy with hy|rfl
  ·exact(h.secs y hy).kept hD hT
  ·exact hx.kept hD hT
 ·rw[List.mem_singleton.1 e] at hb;exact hk.unlike (own_kd h.wait hb).2 (by decide) rfl
 ·have:=h.cA ad e hk0;rw[List.mem_singleton.1 hm] at this;have:=h.al;omega
theorem Fx.row{w w':World}{lo sg:Nat}(h:Gx [sg] w w')(hk:Kd w sg 22)(hl:lo≤sg):Fx [] lo w w' :=
 .of_kind h fun b hb=>.inr ⟨by rw[List.mem_singleton.1 hb];exact hl,fun _=>by rw[List.mem_singleton.1 hb];exact .inr (.inl hk)⟩
theorem Fx.sl{w w':World}{a0 lo:Nat}(h:Fx [] lo w w')(ha:a0≤lo){A':Option Addr}{k':Nat}{l:List Value}(hA:∀ad,A'=some ad→0 < k'→ad.block < a0)(hs:Sl w A' k' l):Sl w' A' k' l:=by
 refine⟨hs.1,fun i v hv=>?_⟩
 have hk0:0 < k':=by have:=(List.getElem?_eq_some_iff.1 hv).1;have:=hs.1;omega
 obtain⟨ad,e,hc⟩:=hs.2 i v hv
 refine⟨ad,e,?_⟩
 have hb:(ad.add i).block=ad.block:=by unfold Addr.add;split <;> rfl
 have:=hA ad e hk0
 exact(World.cell?_of_block (w:=w) (h.block (ad.add i).block (World.block_lt_of_cell? w _ hc) (by simp) (fun hx=>by rw[hb] at hx;omega))).trans hc
set_option maxRecDepth 100000 in
set_option maxHeartbeats 8000000 in
theorem Lose_r{K:Nat}(h:Rq w a0 lo r n S V dn st lf A k c xs hs cb)(h1:hs.length≤K)(h2:st≤(K:Int))(A2:Option Addr)(k2 c2:Nat)(cb2:List Bool)(hs2:Sl w A2 k2 (cb2.map Value.bool))(hA2:∀ad,A2=some ad→0 < k2→ad.block < a0):Calls Try.prog 46 #[.pointer (some ⟨r,0,none⟩),.slice A2 k2 c2] w fun e w'=>(∃v,e=.returned v)∧Rd w' a0 lo r n K∧Fx [] lo w w':=by
 cases dn with
 |true =>
  have c2':=h.c2
  have HH:=Lib.hid (h.rd h1 h2)
  clear h hs2
  go_enter Try.func46,Try.ntmps46
  go_wp2_with fail
  refine bodyPost_ret (results_none rfl _ _ _) rfl ?_
  exact⟨⟨_,rfl⟩,HH.out,Fx.refl _ _ _⟩
 |false =>
  obtain⟨K9,hK9⟩:∃K9,K=K9:=⟨_,rfl⟩
  rw[hK9] at h1 h2 ⊢
  clear hK9 K
  have HM:=Lib.hid (And.intro h1 h2)
  have hl9:=h.hl9
  have AL:=Lib.hid h.al
  obtain⟨sA,sc,rfl⟩:=own_len h.row
  obtain⟨vA,vc,rfl⟩:=own_len h.wait
  have c2':=h.c2
  have HS2:=Lib.hid hs2
  have HA2:=Lib.hid hA2
  have H0:=Lib.hid h
  obtain⟨w0,hw0⟩:∃w0,w=w0:=⟨_,rfl⟩
  obtain⟨K,hK⟩:∃K,hs.length=K:=⟨_,rfl⟩
  have HKK:=Lib.hid hK
  have HW:=Lib.hid hw0
  rw[hK] at H0 hl9
  clear h hs2 hA2 h1 h2 hK hw0
  go_enter Try.func46,Try.ntmps46
  go_wp2_with fail
  go_loopw [4] (fun v wr=>∃(i:Nat) (xs':List Value),v=.int .i64 (i:Int)∧i≤K∧Rq wr a0 lo r n (.slice sA n sc) (.slice vA K vc) false st lf A k c xs' hs cb∧Fx [] lo w0 wr) (fun v _=>K - (intOf v).toNat)
  case atStart=>exact⟨0,xs,rfl,Nat.zero_le _,H0.out,by rw[←HW.out];exact Fx.refl _ _ _⟩
  case round =>
   obtain⟨i,xs',rfl,hi,hr,hf⟩:=hrel
   have HR:=Lib.hid hr
   have HF:=Lib.hid hf
   have d1':=hr.c1
   have SL:=Lib.hid (hf.sl AL.out HA2.out (HW.out▸HS2.out))
   clear hr hf
   by_cases hlt:i < K
   ·have q1:(i:Int) < (K:Int):=by omega
    by_cases g1:i < k2
    ·have q2:(i:Int) < (k2:Int):=by omega
     by_cases g2:i < 4096
     ·have q3:(i:Int) < 4096:=by omega
      obtain⟨ad,rfl,hcell⟩:=SL.out.at_ g1
      obtain⟨b,hb⟩:∃b,(cb2.map Value.bool)[i]?=some (.bool b):=by
       have:i < cb2.length:=by have:=SL.out.1;rw[List.length_map] at this;omega
       exact⟨cb2[i],by rw[List.getElem?_map,List.getElem?_eq_getElem this];rfl⟩
      rw[hb] at hcell
      cases b with
      |false =>
       clear hb
       go_wp2_with fail
       exact⟨⟨i+1,xs',by go_num,by omega,HR.out,HF.out⟩,by simp[intOf];omega⟩
      |true =>
       clear hb
       obtain⟨vg,vc',e9,w1,w2,w3,w4⟩:=HR.out.waits (by have:=HKK.out;omega)
       simp only[Value.slice.injEq] at e9
       obtain⟨rfl,-, rfl⟩:=e9
       obtain⟨p,x,x1,x2,x3,x4,x5⟩:=w4 i (by have:=HKK.out;omega)
       obtain⟨sg,sc',e8,s1,s2,s3,s4⟩:=HR.out.rows (by omega)
       cases e8
       have x3':=x3
       obtain⟨xq,xc,xl,rfl,-⟩:=x3'
       obtain⟨y,y1,y2,y3⟩:=s4 p (by omega)
       have fy:wr.frozen? ⟨sg,p,none⟩=false:=by obtain⟨cs,hcs⟩:=s3;exact hcs.frozen p
       have d0:=HR.out.c0
       have d1:=HR.out.c1
       have PUT:=Lib.hid (HR.out.put p _ x2 x3)
       have n1:sg≠r:=fun e=>(Kd.unlike s3 ⟨_,HR.out.blk⟩ (by decide)) e
       have n2:sg≠vg:=fun e=>(Kd.unlike s3 w3 (by decide)) e
       have SS:=Lib.hid (show wr.drew.cell? ⟨r,0,none⟩=some (.slice (some ⟨sg,0,none⟩) n sc)∧wr.drew.cell? ⟨r,1,none⟩=some (.slice (some ⟨vg,0,none⟩) K vc)∧wr.drew.cell? ⟨vg,i*2,none⟩=some (.int .i64 (p:Int))∧wr.drew.cell? ⟨vg,i*2+1,none⟩=some (.slice (some ⟨xq,0,none⟩) 64 xc) from⟨d0,d1,x4,x5⟩)
       have SP:=Lib.hid (show(wr.setCell ⟨sg,p,none⟩ (.slice (some ⟨xq,0,none⟩) 64 xc)).drew.cell? ⟨r,0,none⟩=some (.slice (some ⟨sg,0,none⟩) n sc)∧(wr.setCell ⟨sg,p,none⟩ (.slice (some ⟨xq,0,none⟩) 64 xc)).drew.cell? ⟨r,1,none⟩=some (.slice (some ⟨vg,0,none⟩) K vc)∧(wr.setCell ⟨sg,p,none⟩ (.slice (some ⟨xq,0,none⟩) 64 xc)).drew.cell? ⟨vg,i*2,none⟩=some (.int .i64 (p:Int))∧(wr.setCell ⟨sg,p,none⟩ (.slice (some ⟨xq,0,none⟩) 64 xc)).drew.cell? ⟨vg,i*2+1,none⟩=some (.slice (some ⟨xq,0,none⟩) 64 xc) from⟨(World.cell?_setCell_far wr ⟨sg,p,none⟩ ⟨r,0,none⟩ _ n1).trans d0,(World.cell?_setCell_far wr ⟨sg,p,none⟩ ⟨r,1,none⟩ _ n1).trans d1,(World.cell?_setCell_far wr ⟨sg,p,none⟩ ⟨vg,i*2,none⟩ _ n2).trans x4,(World.cell?_setCell_far wr ⟨sg,p,none⟩ ⟨vg,i*2+1,none⟩ _ n2).trans x5⟩)
       have q4:(p:Int) < (n:Int):=by omega
       clear x1 x3 w1 w2 w3 w4 s1 s2 s3 s4 y1 y2 n1 n2 d0 d1
       have FP:=Lib.hid (Fx.row PUT.out.2 (own_kd HR.out.row rfl).2 (own_kd HR.out.row rfl).1)
       go_upto_region 5 with fail
       refine wp_region_held_drew (S:=fun u=>u.cell? ⟨r,0,none⟩=some (.slice (some ⟨sg,0,none⟩) n sc)∧u.cell? ⟨r,1,none⟩=some (.slice (some ⟨vg,0,none⟩) K vc)∧u.cell? ⟨vg,i*2,none⟩=some (.int .i64 (p:Int))∧u.cell? ⟨vg,i*2+1,none⟩=some (.slice (some ⟨xq,0,none⟩) 64 xc)) (by kernel_rfl) SS.out (fun _=>?_)
       refine take_l 0 (v:=?_) rfl (by kernel_rfl) (by kernel_rfl) (by kernel_rfl) (fun _ _ _ h=>h) (Or.inl ⟨by rfl,?_⟩) (SS.out) ?_;rotate_left
       ·intro w' hSw
        have hS1:w'.cell? ⟨r,0,none⟩=some (.slice (some ⟨sg,0,none⟩) n sc):=hSw.1;have hS2:w'.cell? ⟨r,1,none⟩=some (.slice (some ⟨vg,0,none⟩) K vc):=hSw.2.1;have hS3:w'.cell? ⟨vg,i*2,none⟩=some (.int .i64 (p:Int)):=hSw.2.2.1;have hS4:w'.cell? ⟨vg,i*2+1,none⟩=some (.slice (some ⟨xq,0,none⟩) 64 xc):=hSw.2.2.2
        clear hSw
        go_simp
        all_goals with_reducible rfl
       try simp only[Act.put,List.setIfInBounds_toArray,List.set_cons_zero,List.set_cons_succ]
       refine take_l 1 (v:=?_) rfl (by kernel_rfl) (by kernel_rfl) (by kernel_rfl) (fun _ _ _ h=>h) (Or.inl ⟨by rfl,?_⟩) (SS.out) ?_;rotate_left
       ·intro w' hSw
        have hS1:w'.cell? ⟨r,0,none⟩=some (.slice (some ⟨sg,0,none⟩) n sc):=hSw.1;have hS2:w'.cell? ⟨r,1,none⟩=some (.slice (some ⟨vg,0,none⟩) K vc):=hSw.2.1;have hS3:w'.cell? ⟨vg,i*2,none⟩=some (.int .i64 (p:Int)):=hSw.2.2.1;have hS4:w'.cell? ⟨vg,i*2+1,none⟩=some (.slice (some ⟨xq,0,none⟩) 64 xc):=hSw.2.2.2
        clear hSw
        go_simp
        all_goals with_reducible rfl
       try simp only[Act.put,List.setIfInBounds_toArray,List.set_cons_zero,List.set_cons_succ]
       refine take_l 2 (v:=?_) rfl (by kernel_rfl) (by kernel_rfl) (by kernel_rfl) (fun _ _ _ h=>h) (Or.inl ⟨by rfl,?_⟩) (SS.out) ?_;rotate_left
       ·intro w' hSw
        have hS1:w'.cell? ⟨r,0,none⟩=some (.slice (some ⟨sg,0,none⟩) n sc):=hSw.1;have hS2:w'.cell? ⟨r,1,none⟩=some (.slice (some ⟨vg,0,none⟩) K vc):=hSw.2.1;have hS3:w'.cell? ⟨vg,i*2,none⟩=some (.int .i64 (p:Int)):=hSw.2.2.1;have hS4:w'.cell? ⟨vg,i*2+1,none⟩=some (.slice (some ⟨xq,0,none⟩) 64 xc):=hSw.2.2.2
        clear hSw
        go_simp
        all_goals with_reducible rfl
       try simp only[Act.put,List.setIfInBounds_toArray,List.set_cons_zero,List.set_cons_succ]
       refine take_l 3 (v:=?_) rfl (by kernel_rfl) (by kernel_rfl) (by kernel_rfl) (fun _ _ _ h=>h) (Or.inl ⟨by rfl,?_⟩) (SS.out) ?_;rotate_left
       ·intro w' hSw
        have hS1:w'.cell? ⟨r,0,none⟩=some (.slice (some ⟨sg,0,none⟩) n sc):=hSw.1;have hS2:w'.cell? ⟨r,1,none⟩=some (.slice (some ⟨vg,0,none⟩) K vc):=hSw.2.1;have hS3:w'.cell? ⟨vg,i*2,none⟩=some (.int .i64 (p:Int)):=hSw.2.2.1;have hS4:w'.cell? ⟨vg,i*2+1,none⟩=some (.slice (some ⟨xq,0,none⟩) 64 xc):=hSw.2.2.2
        clear hSw
        go_simp
        all_goals with_reducible rfl
       try simp only[Act.put,List.setIfInBounds_toArray,List.set_cons_zero,List.set_cons_succ]
       refine take_l 4 (v:=?_) rfl (by kernel_rfl) (by kernel_rfl) (by kernel_rfl) (fun _ _ _ h=>h) (Or.inl ⟨by rfl,?_⟩) (SS.out) ?_;rotate_left
       ·intro w' hSw
        have hS1:w'.cell? ⟨r,0,none⟩=some (.slice (some ⟨sg,0,none⟩) n sc):=hSw.1;have hS2:w'.cell? ⟨r,1,none⟩=some (.slice (some ⟨vg,0,none⟩) K vc):=hSw.2.1;have hS3:w'.cell? ⟨vg,i*2,none⟩=some (.int .i64 (p:Int)):=hSw.2.2.1;have hS4:w'.cell? ⟨vg,i*2+1,none⟩=some (.slice (some ⟨xq,0,none⟩) 64 xc):=hSw.2.2.2
        clear hSw
        go_simp
        all_goals with_reducible rfl
       try simp only[Act.put,List.setIfInBounds_toArray,List.set_cons_zero,List.set_cons_succ]
       refine take_l 5 (v:=?_) rfl (by kernel_rfl) (by kernel_rfl) (by kernel_rfl) (fun _ _ _ h=>h) (Or.inl ⟨by rfl,?_⟩) (SS.out) ?_;rotate_left
       ·intro w' hSw
        have hS1:w'.cell? ⟨r,0,none⟩=some (.slice (some ⟨sg,0,none⟩) n sc):=hSw.1;have hS2:w'.cell? ⟨r,1,none⟩=some (.slice (some ⟨vg,0,none⟩) K vc):=hSw.2.1;have hS3:w'.cell? ⟨vg,i*2,none⟩=some (.int .i64 (p:Int)):=hSw.2.2.1;have hS4:w'.cell? ⟨vg,i*2+1,none⟩=some (.slice (some ⟨xq,0,none⟩) 64 xc):=hSw.2.2.2
        clear hSw
        go_simp
        all_goals with_reducible rfl
       try simp only[Act.put,List.setIfInBounds_toArray,List.set_cons_zero,List.set_cons_succ]
       refine take_l 6 (v:=?_) rfl (by kernel_rfl) (by kernel_rfl) (by kernel_rfl) (fun _ _ _ h=>h) (Or.inl ⟨by rfl,?_⟩) (SS.out) ?_;rotate_left
       ·intro w' hSw
        have hS1:w'.cell? ⟨r,0,none⟩=some (.slice (some ⟨sg,0,none⟩) n sc):=hSw.1;have hS2:w'.cell? ⟨r,1,none⟩=some (.slice (some ⟨vg,0,none⟩) K vc):=hSw.2.1;have hS3:w'.cell? ⟨vg,i*2,none⟩=some (.int .i64 (p:Int)):=hSw.2.2.1;have hS4:w'.cell? ⟨vg,i*2+1,none⟩=some (.slice (some ⟨xq,0,none⟩) 64 xc):=hSw.2.2.2
        clear hSw
        go_simp
        all_goals with_reducible rfl
       try simp only[Act.put,List.setIfInBounds_toArray,List.set_cons_zero,List.set_cons_succ]
       refine take_l 7 (v:=?_) rfl (by kernel_rfl) (by kernel_rfl) (by kernel_rfl) (fun _ _ _ h=>h) (Or.inl ⟨by rfl,?_⟩) (SS.out) ?_;rotate_left
       ·intro w' hSw
        have hS1:w'.cell? ⟨r,0,none⟩=some (.slice (some ⟨sg,0,none⟩) n sc):=hSw.1;have hS2:w'.cell? ⟨r,1,none⟩=some (.slice (some ⟨vg,0,none⟩) K vc):=hSw.2.1;have hS3:w'.cell? ⟨vg,i*2,none⟩=some (.int .i64 (p:Int)):=hSw.2.2.1;have hS4:w'.cell? ⟨vg,i*2+1,none⟩=some (.slice (some ⟨xq,0,none⟩) 64 xc):=hSw.2.2.2
        clear hSw
        go_simp
        all_goals with_reducible rfl
       try simp only[Act.put,List.setIfInBounds_toArray,List.set_cons_zero,List.set_cons_succ]
       refine take_l 8 (v:=?_) rfl (by kernel_rfl) (by kernel_rfl) (by kernel_rfl) (fun _ _ _ h=>h) (Or.inl ⟨by rfl,?_⟩) (SS.out) ?_;rotate_left
       ·intro w' hSw
        have hS1:w'.cell? ⟨r,0,none⟩=some (.slice (some ⟨sg,0,none⟩) n sc):=hSw.1;have hS2:w'.cell? ⟨r,1,none⟩=some (.slice (some ⟨vg,0,none⟩) K vc):=hSw.2.1;have hS3:w'.cell? ⟨vg,i*2,none⟩=some (.int .i64 (p:Int)):=hSw.2.2.1;have hS4:w'.cell? ⟨vg,i*2+1,none⟩=some (.slice (some ⟨xq,0,none⟩) 64 xc):=hSw.2.2.2
        clear hSw
        go_simp
        all_goals with_reducible rfl
       try simp only[Act.put,List.setIfInBounds_toArray,List.set_cons_zero,List.set_cons_succ]
       refine take_l 9 (v:=?_) rfl (by kernel_rfl) (by kernel_rfl) (by kernel_rfl) (fun _ _ _ h=>h) (Or.inl ⟨by rfl,?_⟩) (SS.out) ?_;rotate_left
       ·intro w' hSw
        have hS1:w'.cell? ⟨r,0,none⟩=some (.slice (some ⟨sg,0,none⟩) n sc):=hSw.1;have hS2:w'.cell? ⟨r,1,none⟩=some (.slice (some ⟨vg,0,none⟩) K vc):=hSw.2.1;have hS3:w'.cell? ⟨vg,i*2,none⟩=some (.int .i64 (p:Int)):=hSw.2.2.1;have hS4:w'.cell? ⟨vg,i*2+1,none⟩=some (.slice (some ⟨xq,0,none⟩) 64 xc):=hSw.2.2.2
        clear hSw
        go_simp
        all_goals with_reducible rfl
       try simp only[Act.put,List.setIfInBounds_toArray,List.set_cons_zero,List.set_cons_succ]
       refine take_l 10 (v:=?_) rfl (by kernel_rfl) (by kernel_rfl) (by kernel_rfl) (fun _ _ _ h=>h) (Or.inl ⟨by rfl,?_⟩) (SS.out) ?_;rotate_left
       ·intro w' hSw
        have hS1:w'.cell? ⟨r,0,none⟩=some (.slice (some ⟨sg,0,none⟩) n sc):=hSw.1;have hS2:w'.cell? ⟨r,1,none⟩=some (.slice (some ⟨vg,0,none⟩) K vc):=hSw.2.1;have hS3:w'.cell? ⟨vg,i*2,none⟩=some (.int .i64 (p:Int)):=hSw.2.2.1;have hS4:w'.cell? ⟨vg,i*2+1,none⟩=some (.slice (some ⟨xq,0,none⟩) 64 xc):=hSw.2.2.2
        clear hSw
        go_simp
        all_goals with_reducible rfl
       try simp only[Act.put,List.setIfInBounds_toArray,List.set_cons_zero,List.set_cons_succ]
       refine take_l 11 (v:=?_) rfl (by kernel_rfl) (by kernel_rfl) (by kernel_rfl) (fun _ _ _ h=>h) (Or.inl ⟨by rfl,?_⟩) (SS.out) ?_;rotate_left
       ·intro w' hSw
        have hS1:w'.cell? ⟨r,0,none⟩=some (.slice (some ⟨sg,0,none⟩) n sc):=hSw.1;have hS2:w'.cell? ⟨r,1,none⟩=some (.slice (some ⟨vg,0,none⟩) K vc):=hSw.2.1;have hS3:w'.cell? ⟨vg,i*2,none⟩=some (.int .i64 (p:Int)):=hSw.2.2.1;have hS4:w'.cell? ⟨vg,i*2+1,none⟩=some (.slice (some ⟨xq,0,none⟩) 64 xc):=hSw.2.2.2
        clear hSw
        go_simp
        all_goals with_reducible rfl
       try simp only[Act.put,List.setIfInBounds_toArray,List.set_cons_zero,List.set_cons_succ]
       refine take_l 12 (v:=?_) rfl (by kernel_rfl) (by kernel_rfl) (by kernel_rfl) (fun _ _ _ h=>h) (Or.inl ⟨by rfl,?_⟩) (SS.out) ?_;rotate_left
       ·intro w' hSw
        have hS1:w'.cell? ⟨r,0,none⟩=some (.slice (some ⟨sg,0,none⟩) n sc):=hSw.1;have hS2:w'.cell? ⟨r,1,none⟩=some (.slice (some ⟨vg,0,none⟩) K vc):=hSw.2.1;have hS3:w'.cell? ⟨vg,i*2,none⟩=some (.int .i64 (p:Int)):=hSw.2.2.1;have hS4:w'.cell? ⟨vg,i*2+1,none⟩=some (.slice (some ⟨xq,0,none⟩) 64 xc):=hSw.2.2.2
        clear hSw
        go_simp
        all_goals with_reducible rfl
       try simp only[Act.put,List.setIfInBounds_toArray,List.set_cons_zero,List.set_cons_succ]
       refine take_l 13 (v:=?_) rfl (by kernel_rfl) (by kernel_rfl) (by kernel_rfl) (fun _ _ _ h=>h) (Or.inl ⟨by rfl,?_⟩) (SS.out) ?_;rotate_left
       ·intro w' hSw
        have hS1:w'.cell? ⟨r,0,none⟩=some (.slice (some ⟨sg,0,none⟩) n sc):=hSw.1;have hS2:w'.cell? ⟨r,1,none⟩=some (.slice (some ⟨vg,0,none⟩) K vc):=hSw.2.1;have hS3:w'.cell? ⟨vg,i*2,none⟩=some (.int .i64 (p:Int)):=hSw.2.2.1;have hS4:w'.cell? ⟨vg,i*2+1,none⟩=some (.slice (some ⟨xq,0,none⟩) 64 xc):=hSw.2.2.2
        clear hSw
        go_simp
        all_goals with_reducible rfl
       try simp only[Act.put,List.setIfInBounds_toArray,List.set_cons_zero,List.set_cons_succ]
       refine take_l 14 (v:=?_) rfl (by kernel_rfl) (by kernel_rfl) (by kernel_rfl) (fun _ _ _ h=>h) (Or.inl ⟨by rfl,?_⟩) (SS.out) ?_;rotate_left
       ·intro w' hSw
        have hS1:w'.cell? ⟨r,0,none⟩=some (.slice (some ⟨sg,0,none⟩) n sc):=hSw.1;have hS2:w'.cell? ⟨r,1,none⟩=some (.slice (some ⟨vg,0,none⟩) K vc):=hSw.2.1;have hS3:w'.cell? ⟨vg,i*2,none⟩=some (.int .i64 (p:Int)):=hSw.2.2.1;have hS4:w'.cell? ⟨vg,i*2+1,none⟩=some (.slice (some ⟨xq,0,none⟩) 64 xc):=hSw.2.2.2
        clear hSw
        go_simp
        all_goals with_reducible rfl
       try simp only[Act.put,List.setIfInBounds_toArray,List.set_cons_zero,List.set_cons_succ]
       refine take_l 15 (v:=?_) rfl (by kernel_rfl) (by kernel_rfl) (by kernel_rfl) (fun _ _ _ h=>h) (Or.inl ⟨by rfl,?_⟩) (SS.out) ?_;rotate_left
       ·intro w' hSw
        have hS1:w'.cell? ⟨r,0,none⟩=some (.slice (some ⟨sg,0,none⟩) n sc):=hSw.1;have hS2:w'.cell? ⟨r,1,none⟩=some (.slice (some ⟨vg,0,none⟩) K vc):=hSw.2.1;have hS3:w'.cell? ⟨vg,i*2,none⟩=some (.int .i64 (p:Int)):=hSw.2.2.1;have hS4:w'.cell? ⟨vg,i*2+1,none⟩=some (.slice (some ⟨xq,0,none⟩) 64 xc):=hSw.2.2.2
        clear hSw
        go_simp
        all_goals with_reducible rfl
       try simp only[Act.put,List.setIfInBounds_toArray,List.set_cons_zero,List.set_cons_succ]
       refine take_l 16 (v:=?_) rfl (by kernel_rfl) (by kernel_rfl) (by kernel_rfl) (fun _ _ _ h=>h) (Or.inl ⟨by rfl,?_⟩) (SS.out) ?_;rotate_left
       ·intro w' hSw
        have hS1:w'.cell? ⟨r,0,none⟩=some (.slice (some ⟨sg,0,none⟩) n sc):=hSw.1;have hS2:w'.cell? ⟨r,1,none⟩=some (.slice (some ⟨vg,0,none⟩) K vc):=hSw.2.1;have hS3:w'.cell? ⟨vg,i*2,none⟩=some (.int .i64 (p:Int)):=hSw.2.2.1;have hS4:w'.cell? ⟨vg,i*2+1,none⟩=some (.slice (some ⟨xq,0,none⟩) 64 xc):=hSw.2.2.2
        clear hSw
        go_simp
        all_goals with_reducible rfl
       try simp only[Act.put,List.setIfInBounds_toArray,List.set_cons_zero,List.set_cons_succ]
       refine take_l 17 (v:=?_) rfl (by kernel_rfl) (by kernel_rfl) (by kernel_rfl) (fun _ _ _ h=>h) (Or.inl ⟨by rfl,?_⟩) (SS.out) ?_;rotate_left
       ·intro w' hSw
        have hS1:w'.cell? ⟨r,0,none⟩=some (.slice (some ⟨sg,0,none⟩) n sc):=hSw.1;have hS2:w'.cell? ⟨r,1,none⟩=some (.slice (some ⟨vg,0,none⟩) K vc):=hSw.2.1;have hS3:w'.cell? ⟨vg,i*2,none⟩=some (.int .i64 (p:Int)):=hSw.2.2.1;have hS4:w'.cell? ⟨vg,i*2+1,none⟩=some (.slice (some ⟨xq,0,none⟩) 64 xc):=hSw.2.2.2
        clear hSw
        go_simp
        all_goals with_reducible rfl
       try simp only[Act.put,List.setIfInBounds_toArray,List.set_cons_zero,List.set_cons_succ]
       refine take_l 18 (v:=?_) rfl (by kernel_rfl) (by kernel_rfl) (by kernel_rfl) (fun _ _ _ h=>h) (Or.inl ⟨by rfl,?_⟩) (SS.out) ?_;rotate_left
       ·intro w' hSw
        have hS1:w'.cell? ⟨r,0,none⟩=some (.slice (some ⟨sg,0,none⟩) n sc):=hSw.1;have hS2:w'.cell? ⟨r,1,none⟩=some (.slice (some ⟨vg,0,none⟩) K vc):=hSw.2.1;have hS3:w'.cell? ⟨vg,i*2,none⟩=some (.int .i64 (p:Int)):=hSw.2.2.1;have hS4:w'.cell? ⟨vg,i*2+1,none⟩=some (.slice (some ⟨xq,0,none⟩) 64 xc):=hSw.2.2.2
        clear hSw
        go_simp
        all_goals with_reducible rfl
       try simp only[Act.put,List.setIfInBounds_toArray,List.set_cons_zero,List.set_cons_succ]
       refine take_l 19 (v:=?_) rfl (by kernel_rfl) (by kernel_rfl) (by kernel_rfl) (fun _ _ _ h=>h) (Or.inl ⟨by rfl,?_⟩) (SS.out) ?_;rotate_left
       ·intro w' hSw
        have hS1:w'.cell? ⟨r,0,none⟩=some (.slice (some ⟨sg,0,none⟩) n sc):=hSw.1;have hS2:w'.cell? ⟨r,1,none⟩=some (.slice (some ⟨vg,0,none⟩) K vc):=hSw.2.1;have hS3:w'.cell? ⟨vg,i*2,none⟩=some (.int .i64 (p:Int)):=hSw.2.2.1;have hS4:w'.cell? ⟨vg,i*2+1,none⟩=some (.slice (some ⟨xq,0,none⟩) 64 xc):=hSw.2.2.2
        clear hSw
        go_simp
        all_goals with_reducible rfl
       try simp only[Act.put,List.setIfInBounds_toArray,List.set_cons_zero,List.set_cons_succ]
       refine take_l 20 (v:=?_) rfl (by kernel_rfl) (by kernel_rfl) (by kernel_rfl) (fun _ _ _ h=>h) (Or.inl ⟨by rfl,?_⟩) (SS.out) ?_;rotate_left
       ·intro w' hSw
        have hS1:w'.cell? ⟨r,0,none⟩=some (.slice (some ⟨sg,0,none⟩) n sc):=hSw.1;have hS2:w'.cell? ⟨r,1,none⟩=some (.slice (some ⟨vg,0,none⟩) K vc):=hSw.2.1;have hS3:w'.cell? ⟨vg,i*2,none⟩=some (.int .i64 (p:Int)):=hSw.2.2.1;have hS4:w'.cell? ⟨vg,i*2+1,none⟩=some (.slice (some ⟨xq,0,none⟩) 64 xc):=hSw.2.2.2
        clear hSw
        go_simp
        all_goals with_reducible rfl
       try simp only[Act.put,List.setIfInBounds_toArray,List.set_cons_zero,List.set_cons_succ]
       refine wpAnyH_ready (rs:=[21]) (by kernel_rfl) (by simp) ?_
       refine cons_l rfl (fun K0 hK=>?_) AllReadyH.nil
       go_simp
       refine hK.out _ _ SP.out (fun _=>?_)
       clear hK K0
       try simp only[Act.put,List.setIfInBounds_toArray,List.set_cons_zero,List.set_cons_succ]
       refine wpAnyH_done (by kernel_rfl) ?_ _
       go_wp2_with fail
       exact⟨⟨i+1,_,by go_num,by omega,PUT.out.1,HF.out.trans FP.out⟩,by simp[intOf];omega⟩
     ·have q3:¬(i:Int) < 4096:=by omega
      go_wp2_with fail
      exact⟨⟨i+1,xs',by go_num,by omega,HR.out,HF.out⟩,by simp[intOf];omega⟩
    ·have q2:¬(i:Int) < (k2:Int):=by omega
     go_wp2_with fail
     exact⟨⟨i+1,xs',by go_num,by omega,HR.out,HF.out⟩,by simp[intOf];omega⟩
   ·have q1:¬(i:Int) < (K:Int):=by omega
    have c2w:=HR.out.c2
    have f1:=HR.out.fz 1
    have f2:=HR.out.fz 2
    have KK:Rq ((wr.setCell ⟨r,1,none⟩ (.slice none 0 0)).setCell ⟨r,2,none⟩ (.bool true)) a0 lo r n (.slice sA n sc) (.slice none 0 0) true st lf A k c xs' [] cb∧Gx [r] wr ((wr.setCell ⟨r,1,none⟩ (.slice none 0 0)).setCell ⟨r,2,none⟩ (.bool true)):=by
     have hG:Gx [r] wr ((wr.setCell ⟨r,1,none⟩ (.slice none 0 0)).setCell ⟨r,2,none⟩ (.bool true)):=((Gx.refl _ _).set (by simp) _).set (by simp) _
     exact⟨HR.out.empty hG ((HR.out.blk.set_ 1 _).set_ 2 _),hG⟩
    have FE:=Lib.hid (Fx.turn KK.2 HR.out.blk HR.out.rlo)
    have KK:=Lib.hid (KK.1.rd (Nat.zero_le _) HM.out.2)
    go_wp2_with fail
    refine bodyPost_end (results_none rfl _ _ _) rfl ?_
    exact⟨⟨_,rfl⟩,KK.out,by rw[HW.out];exact HF.out.trans FE.out⟩
end
end Go.Proofs.Ytbgkdbjineennaa.Dk
