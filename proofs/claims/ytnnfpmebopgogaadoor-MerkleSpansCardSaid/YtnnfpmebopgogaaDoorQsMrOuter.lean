/- Joined texts. -/
import Derived.Test.YtnnfpmebopgogaaDoorQsMpPath
import Derived.Test.YtnnfpmebopgogaaDoorQsMpRCheck
import Derived.Test.YtnnfpmebopgogaaDoorQsMpRTop
set_option linter.unusedVariables false
namespace Go.Proofs.YtnnfpmebopgogaaDoor.Mk
open Go.RowKit Go.Proofs.YtnnfpmebopgogaaDoor.Gn Go.Proofs.YtnnfpmebopgogaaDoor.Fd Go.Deep
def OutQ(P:List Rw)(l:List (List Nat))(w:World)(e:Ending)(w':World):Prop :=
 ∃A m cap us,e=.returned (.slice A m cap)∧w'.ownsRow w.heap.size 22 1 (.slice A m cap) m (us.map rwv)∧(∀r∈us,Po w' r∨r∈P)∧con us=l∧Below w.heap.size w w'
theorem sub_take{ps:List (List Nat)}{a n k:Nat}(h:k≤n):(sub ps a (a+n)).take k=sub ps a (a+k):=by
 unfold sub
 rw[List.take_take]
 congr 1
 omega
theorem sub_drop{ps:List (List Nat)}{a n k:Nat}(h:k≤n):(sub ps a (a+n)).drop k=sub ps (a+k) (a+k+(n - k)):=by
 unfold sub
 rw[List.drop_take,List.drop_drop]
 congr 1
 omega
set_option maxHeartbeats 8000000 in
set_option maxRecDepth 100000 in
theorem router_any(ps:List (List Nat))(f t:Nat)(hf:f≤5000)(ht:t≤5000):∀(N n:Nat),n≤N→1≤n→n≤4096→∀(a:Nat),a+n≤5000→∀(w:World) (P:List Rw) (B:Option Addr) (c:Nat),P32 w B n c P→con P=sub ps a (a+n) →
  Calls Tryd.prog 52 #[.slice B n c,.int .i64 (a:Int),.int .i64 (f:Int),.int .i64 (t:Int)] w (OutQ P (outs ps f t a n) w):=by
 obtain⟨i0,hi,hz0,hz1,hz2⟩:=info_parts infobb
 intro N
 induction N with
 |zero=>intro n h1 h2;omega
 |succ N ih =>
  intro n hN h1 hn a ha w P B c hP hps
  by_cases hap:a+n≤f∨t≤a
  ·have TP:=Lib.hid (rtop_any n n (Nat.le_refl _) h1 hn w P B c hP)
   have E:=Lib.hid (outs_apart (ps:=ps) hap)
   rw[E.out,←hps]
   generalize topL (con P)=tp at TP ⊢
   generalize txtL (con P)=xs at TP
   have key:∀(w1:World) (A:Option Addr) (ca:Nat),Pc w1 (A,32,ca,tp)∧(Po w1 (A,32,ca,tp)∨(A,32,ca,tp)∈P)→Below w.heap.size w w1→OutQ P [tp] w (.returned (.slice (some ⟨w1.heap.size,0,none⟩) 1 1)) (w1.alloc (.cells #[.slice A 32 ca] 22)):=fun w1 A ca hp hb =>
    ⟨_,1,1,[(A,32,ca,tp)],rfl,own_base (own_new w1 22 [.slice A 32 ca] (by unfold maxLen;simp)) hb.size,fun r hr=>by
     have:r=(A,32,ca,tp):=by simpa using hr
     subst this
     exact hp.2.imp (fun h=>h.alloc _) id,rfl,hb.alloc hb.size _⟩
   have KEY:=Lib.hid key
   clear ih hP hps E key
   by_cases c1:a+n≤f
   ·have q1:(a:Int)+(n:Int)≤(f:Int):=by omega
    clear hap
    go_enter Tryd.func52,Tryd.ntmps52
    go_wp2_with fail
    refine TP.out.mono ?_
    rintro e w1 ⟨A,ca,T,us,rfl,hp,-, -, hb⟩
    have K1:=Lib.hid (KEY.out w1 A ca hp hb)
    clear hp hb
    go_wp2_with fail
    go_ret
    exact K1.out
   ·have q1:¬(a:Int)+(n:Int)≤(f:Int):=by omega
    have q2:(t:Int)≤(a:Int):=by omega
    clear hap
    go_enter Tryd.func52,Tryd.ntmps52
    go_wp2_with fail
    refine TP.out.mono ?_
    rintro e w1 ⟨A,ca,T,us,rfl,hp,-, -, hb⟩
    have K1:=Lib.hid (KEY.out w1 A ca hp hb)
    clear hp hb
    go_wp2_with fail
    go_ret
    exact K1.out
  have q1:¬(a:Int)+(n:Int)≤(f:Int):=by omega
  have q2:¬(t:Int)≤(a:Int):=by omega
  by_cases hin:f≤a∧a+n≤t
  ·have E:=Lib.hid (outs_in (ps:=ps) hap hin)
   rw[E.out]
   have q3:(f:Int)≤(a:Int):=by omega
   have q4:(a:Int)+(n:Int)≤(t:Int):=by omega
   clear ih hP hps E hap hin
   go_enter Tryd.func52,Tryd.ntmps52
   go_wp2_with fail
   go_ret
   exact⟨none,0,0,[],rfl,own_nil _ _ _,(fun r hr=>by cases hr),rfl,Below.refl _ _⟩
  ·have h2:2≤n:=by omega
   have hs:=half_spec h2
   have HF:=Lib.hid (fun w=>rhalf_any h2 (by omega) w)
   have E:=Lib.hid (outs_step (ps:=ps) hap h2)
   rw[E.out]
   have L1:=outs_len ps (n:=half n) (by omega) f t a
   have L2:=outs_len ps (n:=n - half n) (by omega) f t (a+half n)
   obtain⟨H,hH⟩:∃H,H=half n:=⟨_,rfl⟩
   rw[←hH] at hs HF L1 L2 ⊢
   obtain⟨s1,s2,s3⟩:=hs
   have hcap:=hP.cap
   obtain⟨ad,hB,-⟩:=hP.row.at_ (show 0 < n by omega)
   subst hB
   obtain⟨d,hd⟩:∃d,d=a+H:=⟨_,rfl⟩
   rw[←hd] at L2 ⊢
   have e1:(a:Int)+(H:Int)=(d:Int):=by omega
   have hd9:d≤10000:=by omega
   have e2:IntKind.i64.wrap (d:Int)=(d:Int):=Go.IntWalk.i64_in _ (by omega)
   have k1:(H:Int)≤(c:Int):=by omega
   have k2:H≤c:=by omega
   have k3:(H:Int)≤(n:Int):=by omega
   have k4:¬c=H:=by omega
   have k5:¬H=c:=by omega
   have CP:con (P.take H)=sub ps a (a+H)∧con (P.drop H)=sub ps d (d+(n - H)):=by
    rw[con,con,List.map_take,List.map_drop,show P.map (·.2.2.2)=con P from rfl,hps,sub_take (by omega),sub_drop (by omega),hd]
    exact⟨rfl,rfl⟩
   have q5:¬((f:Int)≤(a:Int)∧(a:Int)+(n:Int)≤(t:Int)):=by omega
   have I1:=Lib.hid (fun(wq:World) (hq:Below w.heap.size w wq)=>ih H (by omega) s1 (by omega) a (by omega) wq (P.take H) (some ad) c ((hP.below hq).take (by omega)) CP.1)
   have I2:=Lib.hid (fun(wq:World) (hq:Below w.heap.size w wq)=>ih (n - H) (by omega) (by omega) (by omega) d (by omega) wq (P.drop H) (some (ad.add H)) (c - H) ((hP.below hq).drop (by omega)) CP.2)
   have LP:=Lib.hid (show(outs ps f t a H).length≤H∧(outs ps f t d (n - H)).length≤n - H from⟨L1,L2⟩)
   have SB:=Lib.hid (show(∀r∈P.take H,r∈P)∧(∀r∈P.drop H,r∈P) from⟨fun r h=>List.mem_of_mem_take h,fun r h=>List.mem_of_mem_drop h⟩)
   generalize outs ps f t a H=x1 at I1 LP ⊢
   generalize outs ps f t d (n - H)=x2 at I2 LP ⊢
   generalize P.take H=Pt at I1 SB
   generalize P.drop H=Pd at I2 SB
   clear ih hP hps hH E L1 L2 CP hd hap hin
   by_cases c3:f≤a
   ·have q3:(f:Int)≤(a:Int):=by omega
    have q4:¬(a:Int)+(n:Int)≤(t:Int):=by omega
    clear q5
    go_enter Tryd.func52,Tryd.ntmps52
    go_wp2_with (go_at_call 55;(with_reducible refine(HF.out _).mono ?_);rintro e w' ⟨rfl,rfl⟩)
    refine wp_region_held_drew (S:=fun _=>True) (by kernel_rfl) trivial (fun _=>?_)
    refine take_l 0 (v:=?_) rfl (by kernel_rfl) (by kernel_rfl) (by kernel_rfl) (fun _ _ _ h=>h) (Or.inl ⟨by rfl,?_⟩) trivial ?_;rotate_left
    ·intro w' hSw
     go_simp
     all_goals with_reducible rfl
    try simp only[Act.put,List.setIfInBounds_toArray,List.set_cons_zero,List.set_cons_succ]
    refine take_l 1 (v:=?_) rfl (by kernel_rfl) (by kernel_rfl) (by kernel_rfl) (fun _ _ _ h=>h) (Or.inl ⟨by rfl,?_⟩) trivial ?_;rotate_left
    ·intro w' hSw
     go_simp
     all_goals with_reducible rfl
    try simp only[Act.put,List.setIfInBounds_toArray,List.set_cons_zero,List.set_cons_succ]
    refine take_l 2 (v:=?_) rfl (by kernel_rfl) (by kernel_rfl) (by kernel_rfl) (fun _ _ _ h=>h) (Or.inl ⟨by rfl,?_⟩) trivial ?_;rotate_left
    ·intro w' hSw
     go_simp
     all_goals with_reducible rfl
    try simp only[Act.put,List.setIfInBounds_toArray,List.set_cons_zero,List.set_cons_succ]
    refine take_l 3 (v:=?_) rfl (by kernel_rfl) (by kernel_rfl) (by kernel_rfl) (fun _ _ _ h=>h) (Or.inl ⟨by rfl,?_⟩) trivial ?_;rotate_left
    ·intro w' hSw
     go_simp
     all_goals with_reducible rfl
    try simp only[Act.put,List.setIfInBounds_toArray,List.set_cons_zero,List.set_cons_succ]
    refine take_l 4 (v:=?_) rfl (by kernel_rfl) (by kernel_rfl) (by kernel_rfl) (fun _ _ _ h=>h) (Or.inl ⟨by rfl,?_⟩) trivial ?_;rotate_left
    ·intro w' hSw
     go_simp
     all_goals with_reducible rfl
    try simp only[Act.put,List.setIfInBounds_toArray,List.set_cons_zero,List.set_cons_succ]
    refine take_l 5 (v:=?_) rfl (by kernel_rfl) (by kernel_rfl) (by kernel_rfl) (fun _ _ _ h=>h) (Or.inl ⟨by rfl,?_⟩) trivial ?_;rotate_left
    ·intro w' hSw
     go_simp
     all_goals with_reducible rfl
    try simp only[Act.put,List.setIfInBounds_toArray,List.set_cons_zero,List.set_cons_succ]
    refine take_l 7 (v:=?_) rfl (by kernel_rfl) (by kernel_rfl) (by kernel_rfl) (fun _ _ _ h=>h) (Or.inl ⟨by rfl,?_⟩) trivial ?_;rotate_left
    ·intro w' hSw
     go_simp
     all_goals with_reducible rfl
    try simp only[Act.put,List.setIfInBounds_toArray,List.set_cons_zero,List.set_cons_succ]
    refine take_l 8 (v:=?_) rfl (by kernel_rfl) (by kernel_rfl) (by kernel_rfl) (fun _ _ _ h=>h) (Or.inl ⟨by rfl,?_⟩) trivial ?_;rotate_left
    ·intro w' hSw
     go_simp
     all_goals with_reducible rfl
    try simp only[Act.put,List.setIfInBounds_toArray,List.set_cons_zero,List.set_cons_succ]
    refine take_l 9 (v:=?_) rfl (by kernel_rfl) (by kernel_rfl) (by kernel_rfl) (fun _ _ _ h=>h) (Or.inl ⟨by rfl,?_⟩) trivial ?_;rotate_left
    ·intro w' hSw
     go_simp
     all_goals with_reducible rfl
    try simp only[Act.put,List.setIfInBounds_toArray,List.set_cons_zero,List.set_cons_succ]
    refine take_l 10 (v:=?_) rfl (by kernel_rfl) (by kernel_rfl) (by kernel_rfl) (fun _ _ _ h=>h) (Or.inl ⟨by rfl,?_⟩) trivial ?_;rotate_left
    ·intro w' hSw
     go_simp
     all_goals with_reducible rfl
    try simp only[Act.put,List.setIfInBounds_toArray,List.set_cons_zero,List.set_cons_succ]
    refine take_l 11 (v:=?_) rfl (by kernel_rfl) (by kernel_rfl) (by kernel_rfl) (fun _ _ _ h=>h) (Or.inl ⟨by rfl,?_⟩) trivial ?_;rotate_left
    ·intro w' hSw
     go_simp
     all_goals with_reducible rfl
    try simp only[Act.put,List.setIfInBounds_toArray,List.set_cons_zero,List.set_cons_succ]
    refine take_l 12 (v:=?_) rfl (by kernel_rfl) (by kernel_rfl) (by kernel_rfl) (fun _ _ _ h=>h) (Or.inl ⟨by rfl,?_⟩) trivial ?_;rotate_left
    ·intro w' hSw
     go_simp
     all_goals with_reducible rfl
    try simp only[Act.put,List.setIfInBounds_toArray,List.set_cons_zero,List.set_cons_succ]
    refine take_l 13 (v:=?_) rfl (by kernel_rfl) (by kernel_rfl) (by kernel_rfl) (fun _ _ _ h=>h) (Or.inl ⟨by rfl,?_⟩) trivial ?_;rotate_left
    ·intro w' hSw
     go_simp
     all_goals with_reducible rfl
    try simp only[Act.put,List.setIfInBounds_toArray,List.set_cons_zero,List.set_cons_succ]
    refine take_l 14 (v:=?_) rfl (by kernel_rfl) (by kernel_rfl) (by kernel_rfl) (fun _ _ _ h=>h) (Or.inl ⟨by rfl,?_⟩) trivial ?_;rotate_left
    ·intro w' hSw
     go_simp
     all_goals with_reducible rfl
    try simp only[Act.put,List.setIfInBounds_toArray,List.set_cons_zero,List.set_cons_succ]
    refine wpAnyH_ready (rs:=[6]) (by kernel_rfl) (by simp) ?_
    refine cons_l rfl (fun K0 hK=>?_) ?_
    ·go_simp
     (go_at_call 52;(with_reducible refine(I1.out _ ((Below.refl _ _).drew)).mono ?_);rintro e w1 ⟨A1,m1,c1,us1,rfl,o1,p1,x1,b1⟩)
     have B1:=Lib.hid ((Below.refl w.heap.size w).drew.trans (b1.mono (Below.refl w.heap.size w).drew.size))
     have O1:=Lib.hid (show w1.ownsRow w.heap.size 22 1 (.slice A1 m1 c1) m1 (us1.map rwv) from own_base o1 (Below.refl w.heap.size w).drew.size)
     have P1:=Lib.hid (fun z hz=>(p1 z hz).imp id (SB.out.1 z))
     have X1:=Lib.hid x1
     have M1:=Lib.hid (show m1≤H from by have h:=congrArg List.length x1;rw[con_len] at h;have h2:=o1.1;rw[List.length_map] at h2;have:=LP.out.1;omega)
     clear o1 p1 x1 b1
     have I3:=Lib.hid (I2.out w1 B1.out)
     refine hK.out _ _ trivial (fun _=>?_)
     clear hK K0 I1 I2
     try simp only[Act.put,List.setIfInBounds_toArray,List.set_cons_zero,List.set_cons_succ]
     refine wpAnyH_ready (rs:=[15]) (by kernel_rfl) (by simp) ?_
     refine cons_l rfl (fun K0 hK=>?_) ?_
     ·go_simp
      (go_at_call 52;(with_reducible refine I3.out.mono ?_);rintro e w2 ⟨A2,m2,c2,us2,rfl,o2,p2,x2,b2⟩)
      have B2:=Lib.hid (B1.out.trans (b2.mono B1.out.size))
      have O2:=Lib.hid o2
      have OB:=Lib.hid (own_below O1.out b2)
      have PS2:=Lib.hid (show ∀z∈us1 ++ us2,Po w2 z∨z∈P from fun z hz=>(List.mem_append.1 hz).elim (fun h=>(P1.out z h).imp (fun h=>h.below b2) id) (fun h=>(p2 z h).imp id (SB.out.2 z)))
      have X2:=Lib.hid x2
      have M2:=Lib.hid (show m2≤n - H from by have h:=congrArg List.length x2;rw[con_len] at h;have h2:=o2.1;rw[List.length_map] at h2;have:=LP.out.2;omega)
      clear o2 p2 x2 b2 P1 O1 I3
      refine hK.out _ _ trivial (fun _=>?_)
      clear hK K0
      try simp only[Act.put,List.setIfInBounds_toArray,List.set_cons_zero,List.set_cons_succ]
      refine wpAnyH_ready (rs:=[16]) (by kernel_rfl) (by simp) ?_
      refine cons_l rfl (fun K0 hK=>?_) ?_
      ·refine step_append_sl rfl _ _ 23 rfl w.heap.size 22 i0 _ 24 Tryd.underlying23 hi hz0 hz1 hz2 rfl (.slice A1 m1 c1) m1 (us1.map rwv) rfl OB.out A2 m2 c2 (us2.map rwv) rfl (own_sl O2.out).2 (own_sl O2.out).1 (rwv_one _) (by have:=M1.out;have:=M2.out;unfold maxLen;omega) (by have:=M1.out;have:=M2.out;omega) B2.out.size ?_
       intro v4 w4 hown4 hgrow4
       have B4:=Lib.hid (B2.out.grown hgrow4 B2.out.size (own_rows OB.out))
       have PS4:=Lib.hid (fun z hz=>(show Po w4 z∨z∈P from(PS2.out z hz).imp (fun h=>h.grown OB.out hgrow4) id))
       obtain⟨A4,c4,rfl,-, -, -, -, -⟩:=Sl.own hown4
       have O4:=Lib.hid hown4
       clear hown4 hgrow4
       refine hK.out _ _ trivial (fun _=>?_)
       clear hK K0
       try simp only[Act.put,List.setIfInBounds_toArray,List.set_cons_zero,List.set_cons_succ]
       refine wpAnyH_ready (rs:=[17]) (by kernel_rfl) (by simp) ?_
       refine cons_l rfl (fun K0 hK=>?_) ?_
       ·go_simp
        refine hK.out _ _ trivial (fun _=>?_)
        clear hK K0
        try simp only[Act.put,List.setIfInBounds_toArray,List.set_cons_zero,List.set_cons_succ]
        refine wpAnyH_done (by kernel_rfl) ?_ _
        go_wp2_with fail
        go_ret
        refine⟨A4,m1+m2,c4,us1 ++ us2,rfl,?_,PS4.out,?_,B4.out⟩
        ·rw[List.map_append];exact O4.out
        ·show(us1 ++ us2).map _=_
         rw[List.map_append,show us1.map _=con us1 from rfl,show us2.map _=con us2 from rfl,X1.out,X2.out]
       exact AllReadyH.nil
      exact AllReadyH.nil
     exact AllReadyH.nil
    exact AllReadyH.nil
   ·have q3:¬(f:Int)≤(a:Int):=by omega
    clear q5
    go_enter Tryd.func52,Tryd.ntmps52
    go_wp2_with (go_at_call 55;(with_reducible refine(HF.out _).mono ?_);rintro e w' ⟨rfl,rfl⟩)
    refine wp_region_held_drew (S:=fun _=>True) (by kernel_rfl) trivial (fun _=>?_)
    refine take_l 0 (v:=?_) rfl (by kernel_rfl) (by kernel_rfl) (by kernel_rfl) (fun _ _ _ h=>h) (Or.inl ⟨by rfl,?_⟩) trivial ?_;rotate_left
    ·intro w' hSw
     go_simp
     all_goals with_reducible rfl
    try simp only[Act.put,List.setIfInBounds_toArray,List.set_cons_zero,List.set_cons_succ]
    refine take_l 1 (v:=?_) rfl (by kernel_rfl) (by kernel_rfl) (by kernel_rfl) (fun _ _ _ h=>h) (Or.inl ⟨by rfl,?_⟩) trivial ?_;rotate_left
    ·intro w' hSw
     go_simp
     all_goals with_reducible rfl
    try simp only[Act.put,List.setIfInBounds_toArray,List.set_cons_zero,List.set_cons_succ]
    refine take_l 2 (v:=?_) rfl (by kernel_rfl) (by kernel_rfl) (by kernel_rfl) (fun _ _ _ h=>h) (Or.inl ⟨by rfl,?_⟩) trivial ?_;rotate_left
    ·intro w' hSw
     go_simp
     all_goals with_reducible rfl
    try simp only[Act.put,List.setIfInBounds_toArray,List.set_cons_zero,List.set_cons_succ]
    refine take_l 3 (v:=?_) rfl (by kernel_rfl) (by kernel_rfl) (by kernel_rfl) (fun _ _ _ h=>h) (Or.inl ⟨by rfl,?_⟩) trivial ?_;rotate_left
    ·intro w' hSw
     go_simp
     all_goals with_reducible rfl
    try simp only[Act.put,List.setIfInBounds_toArray,List.set_cons_zero,List.set_cons_succ]
    refine take_l 4 (v:=?_) rfl (by kernel_rfl) (by kernel_rfl) (by kernel_rfl) (fun _ _ _ h=>h) (Or.inl ⟨by rfl,?_⟩) trivial ?_;rotate_left
    ·intro w' hSw
     go_simp
     all_goals with_reducible rfl
    try simp only[Act.put,List.setIfInBounds_toArray,List.set_cons_zero,List.set_cons_succ]
    refine take_l 5 (v:=?_) rfl (by kernel_rfl) (by kernel_rfl) (by kernel_rfl) (fun _ _ _ h=>h) (Or.inl ⟨by rfl,?_⟩) trivial ?_;rotate_left
    ·intro w' hSw
     go_simp
     all_goals with_reducible rfl
    try simp only[Act.put,List.setIfInBounds_toArray,List.set_cons_zero,List.set_cons_succ]
    refine take_l 7 (v:=?_) rfl (by kernel_rfl) (by kernel_rfl) (by kernel_rfl) (fun _ _ _ h=>h) (Or.inl ⟨by rfl,?_⟩) trivial ?_;rotate_left
    ·intro w' hSw
     go_simp
     all_goals with_reducible rfl
    try simp only[Act.put,List.setIfInBounds_toArray,List.set_cons_zero,List.set_cons_succ]
    refine take_l 8 (v:=?_) rfl (by kernel_rfl) (by kernel_rfl) (by kernel_rfl) (fun _ _ _ h=>h) (Or.inl ⟨by rfl,?_⟩) trivial ?_;rotate_left
    ·intro w' hSw
     go_simp
     all_goals with_reducible rfl
    try simp only[Act.put,List.setIfInBounds_toArray,List.set_cons_zero,List.set_cons_succ]
    refine take_l 9 (v:=?_) rfl (by kernel_rfl) (by kernel_rfl) (by kernel_rfl) (fun _ _ _ h=>h) (Or.inl ⟨by rfl,?_⟩) trivial ?_;rotate_left
    ·intro w' hSw
     go_simp
     all_goals with_reducible rfl
    try simp only[Act.put,List.setIfInBounds_toArray,List.set_cons_zero,List.set_cons_succ]
    refine take_l 10 (v:=?_) rfl (by kernel_rfl) (by kernel_rfl) (by kernel_rfl) (fun _ _ _ h=>h) (Or.inl ⟨by rfl,?_⟩) trivial ?_;rotate_left
    ·intro w' hSw
     go_simp
     all_goals with_reducible rfl
    try simp only[Act.put,List.setIfInBounds_toArray,List.set_cons_zero,List.set_cons_succ]
    refine take_l 11 (v:=?_) rfl (by kernel_rfl) (by kernel_rfl) (by kernel_rfl) (fun _ _ _ h=>h) (Or.inl ⟨by rfl,?_⟩) trivial ?_;rotate_left
    ·intro w' hSw
     go_simp
     all_goals with_reducible rfl
    try simp only[Act.put,List.setIfInBounds_toArray,List.set_cons_zero,List.set_cons_succ]
    refine take_l 12 (v:=?_) rfl (by kernel_rfl) (by kernel_rfl) (by kernel_rfl) (fun _ _ _ h=>h) (Or.inl ⟨by rfl,?_⟩) trivial ?_;rotate_left
    ·intro w' hSw
     go_simp
     all_goals with_reducible rfl
    try simp only[Act.put,List.setIfInBounds_toArray,List.set_cons_zero,List.set_cons_succ]
    refine take_l 13 (v:=?_) rfl (by kernel_rfl) (by kernel_rfl) (by kernel_rfl) (fun _ _ _ h=>h) (Or.inl ⟨by rfl,?_⟩) trivial ?_;rotate_left
    ·intro w' hSw
     go_simp
     all_goals with_reducible rfl
    try simp only[Act.put,List.setIfInBounds_toArray,List.set_cons_zero,List.set_cons_succ]
    refine take_l 14 (v:=?_) rfl (by kernel_rfl) (by kernel_rfl) (by kernel_rfl) (fun _ _ _ h=>h) (Or.inl ⟨by rfl,?_⟩) trivial ?_;rotate_left
    ·intro w' hSw
     go_simp
     all_goals with_reducible rfl
    try simp only[Act.put,List.setIfInBounds_toArray,List.set_cons_zero,List.set_cons_succ]
    refine wpAnyH_ready (rs:=[6]) (by kernel_rfl) (by simp) ?_
    refine cons_l rfl (fun K0 hK=>?_) ?_
    ·go_simp
     (go_at_call 52;(with_reducible refine(I1.out _ ((Below.refl _ _).drew)).mono ?_);rintro e w1 ⟨A1,m1,c1,us1,rfl,o1,p1,x1,b1⟩)
     have B1:=Lib.hid ((Below.refl w.heap.size w).drew.trans (b1.mono (Below.refl w.heap.size w).drew.size))
     have O1:=Lib.hid (show w1.ownsRow w.heap.size 22 1 (.slice A1 m1 c1) m1 (us1.map rwv) from own_base o1 (Below.refl w.heap.size w).drew.size)
     have P1:=Lib.hid (fun z hz=>(p1 z hz).imp id (SB.out.1 z))
     have X1:=Lib.hid x1
     have M1:=Lib.hid (show m1≤H from by have h:=congrArg List.length x1;rw[con_len] at h;have h2:=o1.1;rw[List.length_map] at h2;have:=LP.out.1;omega)
     clear o1 p1 x1 b1
     have I3:=Lib.hid (I2.out w1 B1.out)
     refine hK.out _ _ trivial (fun _=>?_)
     clear hK K0 I1 I2
     try simp only[Act.put,List.setIfInBounds_toArray,List.set_cons_zero,List.set_cons_succ]
     refine wpAnyH_ready (rs:=[15]) (by kernel_rfl) (by simp) ?_
     refine cons_l rfl (fun K0 hK=>?_) ?_
     ·go_simp
      (go_at_call 52;(with_reducible refine I3.out.mono ?_);rintro e w2 ⟨A2,m2,c2,us2,rfl,o2,p2,x2,b2⟩)
      have B2:=Lib.hid (B1.out.trans (b2.mono B1.out.size))
      have O2:=Lib.hid o2
      have OB:=Lib.hid (own_below O1.out b2)
      have PS2:=Lib.hid (show ∀z∈us1 ++ us2,Po w2 z∨z∈P from fun z hz=>(List.mem_append.1 hz).elim (fun h=>(P1.out z h).imp (fun h=>h.below b2) id) (fun h=>(p2 z h).imp id (SB.out.2 z)))
      have X2:=Lib.hid x2
      have M2:=Lib.hid (show m2≤n - H from by have h:=congrArg List.length x2;rw[con_len] at h;have h2:=o2.1;rw[List.length_map] at h2;have:=LP.out.2;omega)
      clear o2 p2 x2 b2 P1 O1 I3
      refine hK.out _ _ trivial (fun _=>?_)
      clear hK K0
      try simp only[Act.put,List.setIfInBounds_toArray,List.set_cons_zero,List.set_cons_succ]
      refine wpAnyH_ready (rs:=[16]) (by kernel_rfl) (by simp) ?_
      refine cons_l rfl (fun K0 hK=>?_) ?_
      ·refine step_append_sl rfl _ _ 23 rfl w.heap.size 22 i0 _ 24 Tryd.underlying23 hi hz0 hz1 hz2 rfl (.slice A1 m1 c1) m1 (us1.map rwv) rfl OB.out A2 m2 c2 (us2.map rwv) rfl (own_sl O2.out).2 (own_sl O2.out).1 (rwv_one _) (by have:=M1.out;have:=M2.out;unfold maxLen;omega) (by have:=M1.out;have:=M2.out;omega) B2.out.size ?_
       intro v4 w4 hown4 hgrow4
       have B4:=Lib.hid (B2.out.grown hgrow4 B2.out.size (own_rows OB.out))
       have PS4:=Lib.hid (fun z hz=>(show Po w4 z∨z∈P from(PS2.out z hz).imp (fun h=>h.grown OB.out hgrow4) id))
       obtain⟨A4,c4,rfl,-, -, -, -, -⟩:=Sl.own hown4
       have O4:=Lib.hid hown4
       clear hown4 hgrow4
       refine hK.out _ _ trivial (fun _=>?_)
       clear hK K0
       try simp only[Act.put,List.setIfInBounds_toArray,List.set_cons_zero,List.set_cons_succ]
       refine wpAnyH_ready (rs:=[17]) (by kernel_rfl) (by simp) ?_
       refine cons_l rfl (fun K0 hK=>?_) ?_
       ·go_simp
        refine hK.out _ _ trivial (fun _=>?_)
        clear hK K0
        try simp only[Act.put,List.setIfInBounds_toArray,List.set_cons_zero,List.set_cons_succ]
        refine wpAnyH_done (by kernel_rfl) ?_ _
        go_wp2_with fail
        go_ret
        refine⟨A4,m1+m2,c4,us1 ++ us2,rfl,?_,PS4.out,?_,B4.out⟩
        ·rw[List.map_append];exact O4.out
        ·show(us1 ++ us2).map _=_
         rw[List.map_append,show us1.map _=con us1 from rfl,show us2.map _=con us2 from rfl,X1.out,X2.out]
       exact AllReadyH.nil
      exact AllReadyH.nil
     exact AllReadyH.nil
    exact AllReadyH.nil
end Go.Proofs.YtnnfpmebopgogaaDoor.Mk
