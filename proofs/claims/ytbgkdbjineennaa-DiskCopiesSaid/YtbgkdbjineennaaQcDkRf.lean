/- Joined texts. -/
import Derived.Test.YtbgkdbjineennaaQcDkRe
set_option linter.unusedVariables false
namespace Go.Proofs.Ytbgkdbjineennaa.Dk
open Go.IntWalk Go.RowKit Go.Proofs.Ytbgkdbjineennaa.Gn Go.Proofs.Ytbgkdbjineennaa.Fd Go.Deep
section
variable {w:World} {a0 lo r n:Nat} {S V:Value} {dn:Bool} {st lf:Int} {A:Option Addr} {k c:Nat} {xs:List Value} {hs:List (Nat × Value)} {cb:List Bool}
def RloseQ(w:World)(a0 lo r n K:Nat)(e:Ending)(w':World):Prop:=(∃v,e=.returned v)∧Rd w' a0 lo r n K∧Fx [] lo w w'
theorem Lose_own{K:Nat}(h:Rq w a0 lo r n S V dn st lf A k c xs hs cb)(h1:hs.length≤K)(h2:st≤(K:Int)):Calls Try.prog 46 #[.pointer (some ⟨r,0,none⟩),.slice A k c] w (RloseQ w a0 lo r n K):=Lose_r h h1 h2 A k c cb h.cho h.cA
theorem Rq.grow{st' lf':Int}(h:Rq w a0 lo r n S V dn st lf A k c xs hs cb){w':World}(hG:Gx [r] w w'):Fx [] lo w w':=Fx.turn hG h.blk h.rlo
set_option maxRecDepth 100000 in
set_option maxHeartbeats 8000000 in
theorem Flush_r{KK:Nat}(h:Rd w a0 lo r n KK)(hK:KK < 900000):Calls Try.prog 44 #[.pointer (some ⟨r,0,none⟩)] w (RopQ w a0 lo r n (KK+1)):=by
 obtain⟨S,V,dn,st,lf,A,k,c,xs,hs,cb,h,h1,h2⟩:=h
 have h0:=Lib.hid h
 have c2:=h.c2
 cases dn with
 |true =>
  have HH:=Lib.hid ((h.rd h1 h2).more (Nat.le_succ _))
  clear h
  go_enter Try.func44,Try.ntmps44
  go_wp2_with fail
  go_ret
  exact⟨_,rfl,HH.out,Fx.refl _ _ _⟩
 |false =>
  have HM:=Lib.hid (show hs.length≤KK+1∧st+1≤((KK+1:Nat):Int) from⟨by omega,by omega⟩)
  by_cases hf:lf=0
  ·have C:=Lib.hid (rstroke_any h (by omega) true (by rw[decide_eq_true hf]))
   clear h h1 h2 hf hK
   go_enter Try.func44,Try.ntmps44
   go_wp2_with (first|(go_at_call 52;(with_reducible refine C.out.mono ?_);rintro e w1 ⟨lf',rfl,hq,hg⟩;have HQ:=Lib.hid hq;have HG:=Lib.hid (h0.out.grow (st':=0) (lf':=0) hg);have c5:=hq.c5;clear hq hg)|(go_at_call 46;(with_reducible refine(Lose_own HQ.out HM.out.1 HM.out.2).mono ?_);rintro e w2 ⟨⟨v,rfl⟩,k1,k2⟩;have K1:=Lib.hid k1;have K2:=Lib.hid k2;clear k1 k2))
   go_ret
   exact⟨_,rfl,K1.out,HG.out.trans K2.out⟩
  ·have C:=Lib.hid (rstroke_any h (by omega) false (by rw[decide_eq_false hf]))
   have hl9:=h.hl9
   obtain⟨sA,sc,rfl⟩:=own_len h.row
   obtain⟨vA,vc,rfl⟩:=own_len h.wait
   obtain⟨K,hK1⟩:∃K,hs.length=K:=⟨_,rfl⟩
   have HKK:=Lib.hid hK1
   rw[hK1] at C hl9
   clear h h1 h2 hf hK hK1
   go_enter Try.func44,Try.ntmps44
   go_wp2_with (first|(go_at_call 52;(with_reducible refine C.out.mono ?_);rintro e w1 ⟨lf',rfl,hq,hg⟩;have HQ:=Lib.hid hq;have HG:=Lib.hid (h0.out.grow (st':=0) (lf':=0) hg);have c5:=hq.c5;clear hq hg)|(go_at_call 46;(with_reducible refine(Lose_own HQ.out HM.out.1 HM.out.2).mono ?_);rintro e w2 ⟨⟨v,rfl⟩,k1,k2⟩;have K1:=Lib.hid k1;have K2:=Lib.hid k2;clear k1 k2))
   obtain⟨w0,hw0⟩:∃w0,w1=w0:=⟨_,rfl⟩
   have HW:=Lib.hid hw0
   clear hw0
   go_loopw [3] (fun v wr=>∃(i:Nat) (xs':List Value),v=.int .i64 (i:Int)∧i≤K∧Rq wr a0 lo r n (.slice sA n sc) (.slice vA K vc) false (st+1) lf' A k c xs' hs cb∧Fx [] lo w0 wr) (fun v _=>K - (intOf v).toNat)
   case atStart=>exact⟨0,xs,rfl,Nat.zero_le _,HQ.out,by rw[←HW.out];exact Fx.refl _ _ _⟩
   case round =>
    obtain⟨i,xs',rfl,hi,hr,hf⟩:=hrel
    have HR:=Lib.hid hr
    have HF:=Lib.hid hf
    have d1':=hr.c1
    clear hr hf
    by_cases hlt:i < K
    ·have q1:(i:Int) < (K:Int):=by omega
     obtain⟨vg,vc',e9,w1,w2,w3,w4⟩:=HR.out.waits (by have:=HKK.out;omega)
     simp only[Value.slice.injEq] at e9
     obtain⟨rfl,-, rfl⟩:=e9
     obtain⟨p,x,x1,x2,x3,x4,x5⟩:=w4 i (by have:=HKK.out;omega)
     obtain⟨sg,sc',e8,s1,s2,s3,s4⟩:=HR.out.rows (by omega)
     cases e8
     have x3':=x3
     obtain⟨xq,xc,xl,rfl,-⟩:=x3'
     obtain⟨y,y1,y2,y3⟩:=s4 p (by omega)
     have fy:wr.frozen? ⟨sg,p,none⟩=false:=by obtain⟨cs,hcs⟩:=s3;exact hcs.frozen p
     have d0:=HR.out.c0
     have d1:=HR.out.c1
     have PUT:=Lib.hid (HR.out.put p _ x2 x3)
     have n1:sg≠r:=fun e=>(Kd.unlike s3 ⟨_,HR.out.blk⟩ (by decide)) e
     have n2:sg≠vg:=fun e=>(Kd.unlike s3 w3 (by decide)) e
     have SS:=Lib.hid (show wr.drew.cell? ⟨r,0,none⟩=some (.slice (some ⟨sg,0,none⟩) n sc)∧wr.drew.cell? ⟨r,1,none⟩=some (.slice (some ⟨vg,0,none⟩) K vc)∧wr.drew.cell? ⟨vg,i*2,none⟩=some (.int .i64 (p:Int))∧wr.drew.cell? ⟨vg,i*2+1,none⟩=some (.slice (some ⟨xq,0,none⟩) 64 xc) from⟨d0,d1,x4,x5⟩)
     have SP:=Lib.hid (show(wr.setCell ⟨sg,p,none⟩ (.slice (some ⟨xq,0,none⟩) 64 xc)).drew.cell? ⟨r,0,none⟩=some (.slice (some ⟨sg,0,none⟩) n sc)∧(wr.setCell ⟨sg,p,none⟩ (.slice (some ⟨xq,0,none⟩) 64 xc)).drew.cell? ⟨r,1,none⟩=some (.slice (some ⟨vg,0,none⟩) K vc)∧(wr.setCell ⟨sg,p,none⟩ (.slice (some ⟨xq,0,none⟩) 64 xc)).drew.cell? ⟨vg,i*2,none⟩=some (.int .i64 (p:Int))∧(wr.setCell ⟨sg,p,none⟩ (.slice (some ⟨xq,0,none⟩) 64 xc)).drew.cell? ⟨vg,i*2+1,none⟩=some (.slice (some ⟨xq,0,none⟩) 64 xc) from⟨(World.cell?_setCell_far wr ⟨sg,p,none⟩ ⟨r,0,none⟩ _ n1).trans d0,(World.cell?_setCell_far wr ⟨sg,p,none⟩ ⟨r,1,none⟩ _ n1).trans d1,(World.cell?_setCell_far wr ⟨sg,p,none⟩ ⟨vg,i*2,none⟩ _ n2).trans x4,(World.cell?_setCell_far wr ⟨sg,p,none⟩ ⟨vg,i*2+1,none⟩ _ n2).trans x5⟩)
     have q4:(p:Int) < (n:Int):=by omega
     clear x1 x3 w1 w2 w3 w4 s1 s2 s3 s4 y1 y2 n1 n2 d0 d1
     have FP:=Lib.hid (Fx.row PUT.out.2 (own_kd HR.out.row rfl).2 (own_kd HR.out.row rfl).1)
     go_upto_region 9 with fail
     refine wp_region_held_drew (S:=fun u=>u.cell? ⟨r,0,none⟩=some (.slice (some ⟨sg,0,none⟩) n sc)∧u.cell? ⟨r,1,none⟩=some (.slice (some ⟨vg,0,none⟩) K vc)∧u.cell? ⟨vg,i*2,none⟩=some (.int .i64 (p:Int))∧u.cell? ⟨vg,i*2+1,none⟩=some (.slice (some ⟨xq,0,none⟩) 64 xc)) (by kernel_rfl) SS.out (fun _=>?_)
     refine take_l 0 (v:=?_) rfl (by kernel_rfl) (by kernel_rfl) (by kernel_rfl) (fun _ _ _ h=>h) (Or.inl ⟨by rfl,?_⟩) (SS.out) ?_;rotate_left
     ·intro w' hSw
      have hS1:w'.cell? ⟨r,0,none⟩=some (.slice (some ⟨sg,0,none⟩) n sc):=hSw.1;have hS2:w'.cell? ⟨r,1,none⟩=some (.slice (some ⟨vg,0,none⟩) K vc):=hSw.2.1;have hS3:w'.cell? ⟨vg,i*2,none⟩=some (.int .i64 (p:Int)):=hSw.2.2.1;have hS4:w'.cell? ⟨vg,i*2+1,none⟩=some (.slice (some ⟨xq,0,none⟩) 64 xc):=hSw.2.2.2
      clear hSw
      go_simp
      all_goals with_reducible rfl
     try simp only[Act.put,List.setIfInBounds_toArray,List.set_cons_zero,List.set_cons_succ]
     refine take_l 1 (v:=?_) rfl (by kernel_rfl) (by kernel_rfl) (by kernel_rfl) (fun _ _ _ h=>h) (Or.inl ⟨by rfl,?_⟩) (SS.out) ?_;rotate_left
     ·intro w' hSw
      have hS1:w'.cell? ⟨r,0,none⟩=some (.slice (some ⟨sg,0,none⟩) n sc):=hSw.1;have hS2:w'.cell? ⟨r,1,none⟩=some (.slice (some ⟨vg,0,none⟩) K vc):=hSw.2.1;have hS3:w'.cell? ⟨vg,i*2,none⟩=some (.int .i64 (p:Int)):=hSw.2.2.1;have hS4:w'.cell? ⟨vg,i*2+1,none⟩=some (.slice (some ⟨xq,0,none⟩) 64 xc):=hSw.2.2.2
      clear hSw
      go_simp
      all_goals with_reducible rfl
     try simp only[Act.put,List.setIfInBounds_toArray,List.set_cons_zero,List.set_cons_succ]
     refine take_l 2 (v:=?_) rfl (by kernel_rfl) (by kernel_rfl) (by kernel_rfl) (fun _ _ _ h=>h) (Or.inl ⟨by rfl,?_⟩) (SS.out) ?_;rotate_left
     ·intro w' hSw
      have hS1:w'.cell? ⟨r,0,none⟩=some (.slice (some ⟨sg,0,none⟩) n sc):=hSw.1;have hS2:w'.cell? ⟨r,1,none⟩=some (.slice (some ⟨vg,0,none⟩) K vc):=hSw.2.1;have hS3:w'.cell? ⟨vg,i*2,none⟩=some (.int .i64 (p:Int)):=hSw.2.2.1;have hS4:w'.cell? ⟨vg,i*2+1,none⟩=some (.slice (some ⟨xq,0,none⟩) 64 xc):=hSw.2.2.2
      clear hSw
      go_simp
      all_goals with_reducible rfl
     try simp only[Act.put,List.setIfInBounds_toArray,List.set_cons_zero,List.set_cons_succ]
     refine take_l 3 (v:=?_) rfl (by kernel_rfl) (by kernel_rfl) (by kernel_rfl) (fun _ _ _ h=>h) (Or.inl ⟨by rfl,?_⟩) (SS.out) ?_;rotate_left
     ·intro w' hSw
      have hS1:w'.cell? ⟨r,0,none⟩=some (.slice (some ⟨sg,0,none⟩) n sc):=hSw.1;have hS2:w'.cell? ⟨r,1,none⟩=some (.slice (some ⟨vg,0,none⟩) K vc):=hSw.2.1;have hS3:w'.cell? ⟨vg,i*2,none⟩=some (.int .i64 (p:Int)):=hSw.2.2.1;have hS4:w'.cell? ⟨vg,i*2+1,none⟩=some (.slice (some ⟨xq,0,none⟩) 64 xc):=hSw.2.2.2
      clear hSw
      go_simp
      all_goals with_reducible rfl
     try simp only[Act.put,List.setIfInBounds_toArray,List.set_cons_zero,List.set_cons_succ]
     refine take_l 4 (v:=?_) rfl (by kernel_rfl) (by kernel_rfl) (by kernel_rfl) (fun _ _ _ h=>h) (Or.inl ⟨by rfl,?_⟩) (SS.out) ?_;rotate_left
     ·intro w' hSw
      have hS1:w'.cell? ⟨r,0,none⟩=some (.slice (some ⟨sg,0,none⟩) n sc):=hSw.1;have hS2:w'.cell? ⟨r,1,none⟩=some (.slice (some ⟨vg,0,none⟩) K vc):=hSw.2.1;have hS3:w'.cell? ⟨vg,i*2,none⟩=some (.int .i64 (p:Int)):=hSw.2.2.1;have hS4:w'.cell? ⟨vg,i*2+1,none⟩=some (.slice (some ⟨xq,0,none⟩) 64 xc):=hSw.2.2.2
      clear hSw
      go_simp
      all_goals with_reducible rfl
     try simp only[Act.put,List.setIfInBounds_toArray,List.set_cons_zero,List.set_cons_succ]
     refine take_l 5 (v:=?_) rfl (by kernel_rfl) (by kernel_rfl) (by kernel_rfl) (fun _ _ _ h=>h) (Or.inl ⟨by rfl,?_⟩) (SS.out) ?_;rotate_left
     ·intro w' hSw
      have hS1:w'.cell? ⟨r,0,none⟩=some (.slice (some ⟨sg,0,none⟩) n sc):=hSw.1;have hS2:w'.cell? ⟨r,1,none⟩=some (.slice (some ⟨vg,0,none⟩) K vc):=hSw.2.1;have hS3:w'.cell? ⟨vg,i*2,none⟩=some (.int .i64 (p:Int)):=hSw.2.2.1;have hS4:w'.cell? ⟨vg,i*2+1,none⟩=some (.slice (some ⟨xq,0,none⟩) 64 xc):=hSw.2.2.2
      clear hSw
      go_simp
      all_goals with_reducible rfl
     try simp only[Act.put,List.setIfInBounds_toArray,List.set_cons_zero,List.set_cons_succ]
     refine take_l 6 (v:=?_) rfl (by kernel_rfl) (by kernel_rfl) (by kernel_rfl) (fun _ _ _ h=>h) (Or.inl ⟨by rfl,?_⟩) (SS.out) ?_;rotate_left
     ·intro w' hSw
      have hS1:w'.cell? ⟨r,0,none⟩=some (.slice (some ⟨sg,0,none⟩) n sc):=hSw.1;have hS2:w'.cell? ⟨r,1,none⟩=some (.slice (some ⟨vg,0,none⟩) K vc):=hSw.2.1;have hS3:w'.cell? ⟨vg,i*2,none⟩=some (.int .i64 (p:Int)):=hSw.2.2.1;have hS4:w'.cell? ⟨vg,i*2+1,none⟩=some (.slice (some ⟨xq,0,none⟩) 64 xc):=hSw.2.2.2
      clear hSw
      go_simp
      all_goals with_reducible rfl
     try simp only[Act.put,List.setIfInBounds_toArray,List.set_cons_zero,List.set_cons_succ]
     refine take_l 7 (v:=?_) rfl (by kernel_rfl) (by kernel_rfl) (by kernel_rfl) (fun _ _ _ h=>h) (Or.inl ⟨by rfl,?_⟩) (SS.out) ?_;rotate_left
     ·intro w' hSw
      have hS1:w'.cell? ⟨r,0,none⟩=some (.slice (some ⟨sg,0,none⟩) n sc):=hSw.1;have hS2:w'.cell? ⟨r,1,none⟩=some (.slice (some ⟨vg,0,none⟩) K vc):=hSw.2.1;have hS3:w'.cell? ⟨vg,i*2,none⟩=some (.int .i64 (p:Int)):=hSw.2.2.1;have hS4:w'.cell? ⟨vg,i*2+1,none⟩=some (.slice (some ⟨xq,0,none⟩) 64 xc):=hSw.2.2.2
      clear hSw
      go_simp
      all_goals with_reducible rfl
     try simp only[Act.put,List.setIfInBounds_toArray,List.set_cons_zero,List.set_cons_succ]
     refine take_l 8 (v:=?_) rfl (by kernel_rfl) (by kernel_rfl) (by kernel_rfl) (fun _ _ _ h=>h) (Or.inl ⟨by rfl,?_⟩) (SS.out) ?_;rotate_left
     ·intro w' hSw
      have hS1:w'.cell? ⟨r,0,none⟩=some (.slice (some ⟨sg,0,none⟩) n sc):=hSw.1;have hS2:w'.cell? ⟨r,1,none⟩=some (.slice (some ⟨vg,0,none⟩) K vc):=hSw.2.1;have hS3:w'.cell? ⟨vg,i*2,none⟩=some (.int .i64 (p:Int)):=hSw.2.2.1;have hS4:w'.cell? ⟨vg,i*2+1,none⟩=some (.slice (some ⟨xq,0,none⟩) 64 xc):=hSw.2.2.2
      clear hSw
      go_simp
      all_goals with_reducible rfl
     try simp only[Act.put,List.setIfInBounds_toArray,List.set_cons_zero,List.set_cons_succ]
     refine take_l 9 (v:=?_) rfl (by kernel_rfl) (by kernel_rfl) (by kernel_rfl) (fun _ _ _ h=>h) (Or.inl ⟨by rfl,?_⟩) (SS.out) ?_;rotate_left
     ·intro w' hSw
      have hS1:w'.cell? ⟨r,0,none⟩=some (.slice (some ⟨sg,0,none⟩) n sc):=hSw.1;have hS2:w'.cell? ⟨r,1,none⟩=some (.slice (some ⟨vg,0,none⟩) K vc):=hSw.2.1;have hS3:w'.cell? ⟨vg,i*2,none⟩=some (.int .i64 (p:Int)):=hSw.2.2.1;have hS4:w'.cell? ⟨vg,i*2+1,none⟩=some (.slice (some ⟨xq,0,none⟩) 64 xc):=hSw.2.2.2
      clear hSw
      go_simp
      all_goals with_reducible rfl
     try simp only[Act.put,List.setIfInBounds_toArray,List.set_cons_zero,List.set_cons_succ]
     refine take_l 10 (v:=?_) rfl (by kernel_rfl) (by kernel_rfl) (by kernel_rfl) (fun _ _ _ h=>h) (Or.inl ⟨by rfl,?_⟩) (SS.out) ?_;rotate_left
     ·intro w' hSw
      have hS1:w'.cell? ⟨r,0,none⟩=some (.slice (some ⟨sg,0,none⟩) n sc):=hSw.1;have hS2:w'.cell? ⟨r,1,none⟩=some (.slice (some ⟨vg,0,none⟩) K vc):=hSw.2.1;have hS3:w'.cell? ⟨vg,i*2,none⟩=some (.int .i64 (p:Int)):=hSw.2.2.1;have hS4:w'.cell? ⟨vg,i*2+1,none⟩=some (.slice (some ⟨xq,0,none⟩) 64 xc):=hSw.2.2.2
      clear hSw
      go_simp
      all_goals with_reducible rfl
     try simp only[Act.put,List.setIfInBounds_toArray,List.set_cons_zero,List.set_cons_succ]
     refine take_l 11 (v:=?_) rfl (by kernel_rfl) (by kernel_rfl) (by kernel_rfl) (fun _ _ _ h=>h) (Or.inl ⟨by rfl,?_⟩) (SS.out) ?_;rotate_left
     ·intro w' hSw
      have hS1:w'.cell? ⟨r,0,none⟩=some (.slice (some ⟨sg,0,none⟩) n sc):=hSw.1;have hS2:w'.cell? ⟨r,1,none⟩=some (.slice (some ⟨vg,0,none⟩) K vc):=hSw.2.1;have hS3:w'.cell? ⟨vg,i*2,none⟩=some (.int .i64 (p:Int)):=hSw.2.2.1;have hS4:w'.cell? ⟨vg,i*2+1,none⟩=some (.slice (some ⟨xq,0,none⟩) 64 xc):=hSw.2.2.2
      clear hSw
      go_simp
      all_goals with_reducible rfl
     try simp only[Act.put,List.setIfInBounds_toArray,List.set_cons_zero,List.set_cons_succ]
     refine take_l 12 (v:=?_) rfl (by kernel_rfl) (by kernel_rfl) (by kernel_rfl) (fun _ _ _ h=>h) (Or.inl ⟨by rfl,?_⟩) (SS.out) ?_;rotate_left
     ·intro w' hSw
      have hS1:w'.cell? ⟨r,0,none⟩=some (.slice (some ⟨sg,0,none⟩) n sc):=hSw.1;have hS2:w'.cell? ⟨r,1,none⟩=some (.slice (some ⟨vg,0,none⟩) K vc):=hSw.2.1;have hS3:w'.cell? ⟨vg,i*2,none⟩=some (.int .i64 (p:Int)):=hSw.2.2.1;have hS4:w'.cell? ⟨vg,i*2+1,none⟩=some (.slice (some ⟨xq,0,none⟩) 64 xc):=hSw.2.2.2
      clear hSw
      go_simp
      all_goals with_reducible rfl
     try simp only[Act.put,List.setIfInBounds_toArray,List.set_cons_zero,List.set_cons_succ]
     refine take_l 13 (v:=?_) rfl (by kernel_rfl) (by kernel_rfl) (by kernel_rfl) (fun _ _ _ h=>h) (Or.inl ⟨by rfl,?_⟩) (SS.out) ?_;rotate_left
     ·intro w' hSw
      have hS1:w'.cell? ⟨r,0,none⟩=some (.slice (some ⟨sg,0,none⟩) n sc):=hSw.1;have hS2:w'.cell? ⟨r,1,none⟩=some (.slice (some ⟨vg,0,none⟩) K vc):=hSw.2.1;have hS3:w'.cell? ⟨vg,i*2,none⟩=some (.int .i64 (p:Int)):=hSw.2.2.1;have hS4:w'.cell? ⟨vg,i*2+1,none⟩=some (.slice (some ⟨xq,0,none⟩) 64 xc):=hSw.2.2.2
      clear hSw
      go_simp
      all_goals with_reducible rfl
     try simp only[Act.put,List.setIfInBounds_toArray,List.set_cons_zero,List.set_cons_succ]
     refine take_l 14 (v:=?_) rfl (by kernel_rfl) (by kernel_rfl) (by kernel_rfl) (fun _ _ _ h=>h) (Or.inl ⟨by rfl,?_⟩) (SS.out) ?_;rotate_left
     ·intro w' hSw
      have hS1:w'.cell? ⟨r,0,none⟩=some (.slice (some ⟨sg,0,none⟩) n sc):=hSw.1;have hS2:w'.cell? ⟨r,1,none⟩=some (.slice (some ⟨vg,0,none⟩) K vc):=hSw.2.1;have hS3:w'.cell? ⟨vg,i*2,none⟩=some (.int .i64 (p:Int)):=hSw.2.2.1;have hS4:w'.cell? ⟨vg,i*2+1,none⟩=some (.slice (some ⟨xq,0,none⟩) 64 xc):=hSw.2.2.2
      clear hSw
      go_simp
      all_goals with_reducible rfl
     try simp only[Act.put,List.setIfInBounds_toArray,List.set_cons_zero,List.set_cons_succ]
     refine take_l 15 (v:=?_) rfl (by kernel_rfl) (by kernel_rfl) (by kernel_rfl) (fun _ _ _ h=>h) (Or.inl ⟨by rfl,?_⟩) (SS.out) ?_;rotate_left
     ·intro w' hSw
      have hS1:w'.cell? ⟨r,0,none⟩=some (.slice (some ⟨sg,0,none⟩) n sc):=hSw.1;have hS2:w'.cell? ⟨r,1,none⟩=some (.slice (some ⟨vg,0,none⟩) K vc):=hSw.2.1;have hS3:w'.cell? ⟨vg,i*2,none⟩=some (.int .i64 (p:Int)):=hSw.2.2.1;have hS4:w'.cell? ⟨vg,i*2+1,none⟩=some (.slice (some ⟨xq,0,none⟩) 64 xc):=hSw.2.2.2
      clear hSw
      go_simp
      all_goals with_reducible rfl
     try simp only[Act.put,List.setIfInBounds_toArray,List.set_cons_zero,List.set_cons_succ]
     refine take_l 16 (v:=?_) rfl (by kernel_rfl) (by kernel_rfl) (by kernel_rfl) (fun _ _ _ h=>h) (Or.inl ⟨by rfl,?_⟩) (SS.out) ?_;rotate_left
     ·intro w' hSw
      have hS1:w'.cell? ⟨r,0,none⟩=some (.slice (some ⟨sg,0,none⟩) n sc):=hSw.1;have hS2:w'.cell? ⟨r,1,none⟩=some (.slice (some ⟨vg,0,none⟩) K vc):=hSw.2.1;have hS3:w'.cell? ⟨vg,i*2,none⟩=some (.int .i64 (p:Int)):=hSw.2.2.1;have hS4:w'.cell? ⟨vg,i*2+1,none⟩=some (.slice (some ⟨xq,0,none⟩) 64 xc):=hSw.2.2.2
      clear hSw
      go_simp
      all_goals with_reducible rfl
     try simp only[Act.put,List.setIfInBounds_toArray,List.set_cons_zero,List.set_cons_succ]
     refine take_l 17 (v:=?_) rfl (by kernel_rfl) (by kernel_rfl) (by kernel_rfl) (fun _ _ _ h=>h) (Or.inl ⟨by rfl,?_⟩) (SS.out) ?_;rotate_left
     ·intro w' hSw
      have hS1:w'.cell? ⟨r,0,none⟩=some (.slice (some ⟨sg,0,none⟩) n sc):=hSw.1;have hS2:w'.cell? ⟨r,1,none⟩=some (.slice (some ⟨vg,0,none⟩) K vc):=hSw.2.1;have hS3:w'.cell? ⟨vg,i*2,none⟩=some (.int .i64 (p:Int)):=hSw.2.2.1;have hS4:w'.cell? ⟨vg,i*2+1,none⟩=some (.slice (some ⟨xq,0,none⟩) 64 xc):=hSw.2.2.2
      clear hSw
      go_simp
      all_goals with_reducible rfl
     try simp only[Act.put,List.setIfInBounds_toArray,List.set_cons_zero,List.set_cons_succ]
     refine take_l 18 (v:=?_) rfl (by kernel_rfl) (by kernel_rfl) (by kernel_rfl) (fun _ _ _ h=>h) (Or.inl ⟨by rfl,?_⟩) (SS.out) ?_;rotate_left
     ·intro w' hSw
      have hS1:w'.cell? ⟨r,0,none⟩=some (.slice (some ⟨sg,0,none⟩) n sc):=hSw.1;have hS2:w'.cell? ⟨r,1,none⟩=some (.slice (some ⟨vg,0,none⟩) K vc):=hSw.2.1;have hS3:w'.cell? ⟨vg,i*2,none⟩=some (.int .i64 (p:Int)):=hSw.2.2.1;have hS4:w'.cell? ⟨vg,i*2+1,none⟩=some (.slice (some ⟨xq,0,none⟩) 64 xc):=hSw.2.2.2
      clear hSw
      go_simp
      all_goals with_reducible rfl
     try simp only[Act.put,List.setIfInBounds_toArray,List.set_cons_zero,List.set_cons_succ]
     refine take_l 19 (v:=?_) rfl (by kernel_rfl) (by kernel_rfl) (by kernel_rfl) (fun _ _ _ h=>h) (Or.inl ⟨by rfl,?_⟩) (SS.out) ?_;rotate_left
     ·intro w' hSw
      have hS1:w'.cell? ⟨r,0,none⟩=some (.slice (some ⟨sg,0,none⟩) n sc):=hSw.1;have hS2:w'.cell? ⟨r,1,none⟩=some (.slice (some ⟨vg,0,none⟩) K vc):=hSw.2.1;have hS3:w'.cell? ⟨vg,i*2,none⟩=some (.int .i64 (p:Int)):=hSw.2.2.1;have hS4:w'.cell? ⟨vg,i*2+1,none⟩=some (.slice (some ⟨xq,0,none⟩) 64 xc):=hSw.2.2.2
      clear hSw
      go_simp
      all_goals with_reducible rfl
     try simp only[Act.put,List.setIfInBounds_toArray,List.set_cons_zero,List.set_cons_succ]
     refine take_l 20 (v:=?_) rfl (by kernel_rfl) (by kernel_rfl) (by kernel_rfl) (fun _ _ _ h=>h) (Or.inl ⟨by rfl,?_⟩) (SS.out) ?_;rotate_left
     ·intro w' hSw
      have hS1:w'.cell? ⟨r,0,none⟩=some (.slice (some ⟨sg,0,none⟩) n sc):=hSw.1;have hS2:w'.cell? ⟨r,1,none⟩=some (.slice (some ⟨vg,0,none⟩) K vc):=hSw.2.1;have hS3:w'.cell? ⟨vg,i*2,none⟩=some (.int .i64 (p:Int)):=hSw.2.2.1;have hS4:w'.cell? ⟨vg,i*2+1,none⟩=some (.slice (some ⟨xq,0,none⟩) 64 xc):=hSw.2.2.2
      clear hSw
      go_simp
      all_goals with_reducible rfl
     try simp only[Act.put,List.setIfInBounds_toArray,List.set_cons_zero,List.set_cons_succ]
     refine wpAnyH_ready (rs:=[21]) (by kernel_rfl) (by simp) ?_
     refine cons_l rfl (fun K0 hK=>?_) AllReadyH.nil
     go_simp
     refine hK.out _ _ SP.out (fun _=>?_)
     clear hK K0
     try simp only[Act.put,List.setIfInBounds_toArray,List.set_cons_zero,List.set_cons_succ]
     refine wpAnyH_done (by kernel_rfl) ?_ _
     go_wp2_with fail
     exact⟨⟨i+1,_,by go_num,by omega,PUT.out.1,HF.out.trans FP.out⟩,by simp[intOf];omega⟩
    ·have q1:¬(i:Int) < (K:Int):=by omega
     have f1:=HR.out.fz 1
     have KQ:Rq (wr.setCell ⟨r,1,none⟩ (.slice none 0 0)) a0 lo r n (.slice sA n sc) (.slice none 0 0) false (st+1) lf' A k c xs' [] cb∧Gx [r] wr (wr.setCell ⟨r,1,none⟩ (.slice none 0 0)):=by
      have hG:Gx [r] wr (wr.setCell ⟨r,1,none⟩ (.slice none 0 0)):=(Gx.refl _ _).set (by simp) _
      exact⟨HR.out.empty hG (HR.out.blk.set_ 1 _),hG⟩
     have FE:=Lib.hid (Fx.turn KQ.2 HR.out.blk HR.out.rlo)
     have KQ:=Lib.hid (KQ.1.rd (Nat.zero_le _) HM.out.2)
     go_wp2_with fail
     go_ret
     exact⟨_,rfl,KQ.out,HG.out.trans (HW.out▸HF.out.trans FE.out)⟩
theorem Rq.hold(h:Rq w a0 lo r n S V dn st lf A k c xs hs cb){w1 w4:World}{o:Obj}{p:Nat}{X V4:Value}(hb:Below w.heap.size w w1)(hp:p < n)(hX:Sec w1 w.heap.size X)(ho:w4.ownsRow lo 79 2 V4 (hs.length+1) (hcells hs ++ [.int .i64 (p:Int),X]))(hg:(w1.alloc o).grownBy w4 V.ownBlock)(hl:hs.length < 999999) :
  Rq (w4.setCell ⟨r,1,none⟩ V4) a0 lo r n S V4 dn st lf A k c xs (hs ++ [(p,X)]) cb∧Fx [] lo w (w4.setCell ⟨r,1,none⟩ V4):=by
 have hr:Kd w r 76:=⟨_,h.blk⟩
 have hr0:=h.lt
 have ha:=h.rlo
 have hal:=h.al
 have G1:Gx V.ownBlock.toList w w4:=((Gx.of_below hb).alloc o).trans (Gx.of_grown hg (fun b e=>by simpa using e))
 have k1:∀b∈V.ownBlock.toList,lo≤b∧Kd w b 79:=fun b hb=>own_kd h.wait (by simpa using hb)
 have hrV:r∉V.ownBlock.toList:=fun e=>hr.unlike (k1 r e).2 (by decide) rfl
 have hr4:Bl w4 r 76 _:=G1.bl hrV h.blk
 have G2:Gx [r] w4 (w4.setCell ⟨r,1,none⟩ V4):=(Gx.refl _ _).set (by simp) _
 have G:Gx (r :: V.ownBlock.toList) w (w4.setCell ⟨r,1,none⟩ V4):=(G1.mono fun b hb=>List.mem_cons_of_mem _ hb).trans (G2.mono fun b hb=>by rw[List.mem_singleton.1 hb];exact List.mem_cons_self)
 have hT:∀b∈r :: V.ownBlock.toList,¬(lo≤b∧Kd w b 5):=fun b hb e=>by
  rcases List.mem_cons.1 hb with rfl|hb
  ·exact hr.unlike e.2 (by decide) rfl
  ·exact(k1 b hb).2.unlike e.2 (by decide) rfl
 have hX4:Sec (w4.setCell ⟨r,1,none⟩ V4) lo X:=by
  have hs1:w.heap.size≤w1.heap.size:=hb.size
  have g4:Gx (r :: V.ownBlock.toList) w1 (w4.setCell ⟨r,1,none⟩ V4):=((((Gx.refl _ _).alloc o).trans (Gx.of_grown hg (fun b e=>by rw[List.mem_cons];exact .inr (by simpa using e)))).trans (G2.mono fun b hb=>by rw[List.mem_singleton.1 hb];exact List.mem_cons_self))
  have hX':=hX.kept g4 (fun b hb e=>by
   have hbw:b < w.heap.size:=by
    rcases List.mem_cons.1 hb with rfl|hb
    ·exact hr0
    ·exact(k1 b hb).2.lt
   omega)
  obtain⟨q,cap,l,rfl,h1,h2,h3,h4⟩:=hX'
  exact⟨q,cap,l,rfl,h1,by omega,h3,h4⟩
 refine⟨⟨hr4.set_ 1 V4,own_gx G (fun b hb e=>?_) h.row,fun x hx=>(h.secs x hx).kept G hT,?_,?_,h.st0,h.st9,by rw[List.length_append,List.length_singleton];omega,h.lf0,h.lf9,sl_gx0 G (fun ad e hk0 hm=>?_) h.cho,h.k9,h.cA,h.rlo,h.al,h.n9⟩,.of_kind G fun b hb=>.inr ?_⟩
 ·have hk:=(own_kd h.row hb).2
  rcases List.mem_cons.1 e with rfl|e
  ·exact hr.unlike hk (by decide) rfl
  ·exact(k1 b e).2.unlike hk (by decide) rfl
 ·rw[List.length_append,List.length_singleton,hcells_app]
  refine own_gx G2 (fun b hb e=>?_) ho
  rw[List.mem_singleton.1 e] at hb
  exact Kd.unlike ⟨_,hr4⟩ (own_kd ho hb).2 (by decide) rfl
 ·intro x hx
  rcases List.mem_append.1 hx with hx|hx
  ·exact⟨(h.hsec x hx).1,(h.hsec x hx).2.kept G hT⟩
  ·rw[List.mem_singleton.1 hx];exact⟨hp,hX4⟩
 ·have:=h.cA ad e hk0
  rcases List.mem_cons.1 hm with e2|e2
  ·omega
  ·have:=(k1 _ e2).1;omega
 ·rcases List.mem_cons.1 hb with rfl|hb
  ·exact⟨ha,fun _=>.inl hr⟩
  ·exact⟨(k1 b hb).1,fun _=>.inr (.inr (k1 b hb).2)⟩
end
end Go.Proofs.Ytbgkdbjineennaa.Dk
