/- Joined texts. -/
import Derived.Test.YtnnfpmebopgogaaDoorQnMpRTop
import Derived.Test.YtnnfpmebopgogaaDoorQnMkL
set_option linter.unusedVariables false
namespace Go.Proofs.YtnnfpmebopgogaaDoor.Mk
open Go.RowKit Go.Proofs.YtnnfpmebopgogaaDoor.Gn Go.Proofs.YtnnfpmebopgogaaDoor.Fd Go.Deep
def RWalkQ(P:List Rw)(l:List (List Nat))(w:World)(e:Ending)(w':World):Prop :=
 ∃(T:Value) (us:List Rw),e=.returned T∧w'.ownsRow w.heap.size 22 1 T us.length (us.map rwv)∧(∀r∈us,Po w' r∨r∈P)∧con us=l∧Below w.heap.size w w'
set_option maxHeartbeats 4000000 in
set_option maxRecDepth 100000 in
theorem rwalk_any:∀(N m:Nat),m≤N→1≤m→m≤4096→∀(k:Nat),k < m→∀(w:World) (P:List Rw) (B:Option Addr) (c:Nat),P32 w B m c P →
  Calls Tryd.prog 49 #[.slice B m c,.int .i64 (k:Int)] w (RWalkQ P (pathL (con P) k) w):=by
 obtain⟨i0,hi,hz0,hz1,hz2⟩:=info_parts infobb
 intro N
 induction N with
 |zero=>intro m h1 h2;omega
 |succ N ih =>
  intro m hN h1 hm k hk w P B c hP
  have hl:=hP.len
  by_cases h2:2≤m
  ·obtain⟨ad,hB,-⟩:=hP.row.at_ (show 0 < m by omega)
   subst hB
   have hs:=half_spec h2
   have HF:=Lib.hid (fun w=>rhalf_any h2 (by omega) w)
   obtain⟨H,hH⟩:∃H,H=half m:=⟨_,rfl⟩
   rw[←hH] at hs HF
   obtain⟨s1,s2,s3⟩:=hs
   have hcap:=hP.cap
   have t1':¬(m:Int) < 2:=by omega
   have k1:(H:Int)≤(c:Int):=by omega
   have k2:H≤c:=by omega
   have k3:(H:Int)≤(m:Int):=by omega
   have k4:¬c=H:=by omega
   have k5:¬H=c:=by omega
   by_cases hc:k < H
   ·have q1:(k:Int) < (H:Int):=by omega
    have E:=Lib.hid (show pathL (con P) k=pathL (con (P.take H)) k ++ [topL (con (P.drop H))] from by
     rw[pathL_first (by rw[con_len,hl];exact h2) (by rw[con_len,hl,←hH];exact hc),con_len,hl,←hH]
     simp only[con,List.map_take,List.map_drop])
    rw[E.out]
    have I2:=Lib.hid (rtop_any (m - H) (m - H) (Nat.le_refl _) (by omega) (by omega) w (P.drop H) (some (ad.add H)) (c - H) (hP.drop (by omega)))
    have I1:=Lib.hid (fun(wq:World) (hq:Below w.heap.size w wq)=>ih H (by omega) s1 (by omega) k hc wq (P.take H) (some ad) c ((hP.below hq).take (by omega)))
    have LP:=Lib.hid (show(pathL (con (P.take H)) k).length+1≤H from by have h:=pathL_len (con (P.take H)).length (con (P.take H)) k (Nat.le_refl _) (by rw[con_len,List.length_take];omega);rw[con_len,List.length_take] at h;omega)
    have SB:=Lib.hid (show(∀r∈P.take H,r∈P)∧(∀r∈P.drop H,r∈P) from⟨fun r h=>List.mem_of_mem_take h,fun r h=>List.mem_of_mem_drop h⟩)
    generalize pathL (con (P.take H)) k=pa at I1 LP ⊢
    generalize topL (con (P.drop H))=t2 at I2 ⊢
    generalize txtL (con (P.drop H))=x2 at I2
    generalize P.take H=Pt at I1 SB
    generalize P.drop H=Pd at I2 SB
    clear ih hP hH E hl
    go_enter Tryd.func49,Tryd.ntmps49
    go_wp2_with (go_at_call 55;(with_reducible refine(HF.out _).mono ?_);rintro e w' ⟨rfl,rfl⟩)
    refine I2.out.mono ?_
    rintro e w1 ⟨A2,c2,T2,us2,rfl,⟨hp2,hpo⟩,-, -, hb1⟩
    have B1:=Lib.hid hb1
    have I3:=Lib.hid (I1.out w1 hb1)
    have PO:=Lib.hid (hpo.imp id (SB.out.2 _))
    clear hb1 hp2 hpo I1 I2
    go_wp2_with fail
    refine I3.out.mono ?_
    rintro e w2 ⟨T,us,rfl,ho,hps,hx,hb2⟩
    have U1:=Lib.hid (show us.length+1≤5000 from by have h:=congrArg List.length hx;rw[con_len] at h;have:=LP.out;omega)
    have B2:=Lib.hid (B1.out.trans (hb2.mono B1.out.size))
    have O2:=Lib.hid (own_base ho B1.out.size)
    have PS2:=Lib.hid (show ∀z∈us ++ [(A2,32,c2,t2)],Po w2 z∨z∈P from fun z hz=>by
     rcases List.mem_append.1 hz with h|h
     ·exact(hps z h).imp id (SB.out.1 z)
     ·have:z=(A2,32,c2,t2):=by simpa using h
      subst this
      exact PO.out.imp (fun h=>h.below hb2) id)
    have X2:=Lib.hid hx
    have B3:=Lib.hid (B2.out.alloc B2.out.size (.cells #[.slice A2 32 c2] 22))
    have O3:=Lib.hid (own_alloc O2.out (.cells #[.slice A2 32 c2] 22))
    clear ho hps hx hb2 PO SB I3 LP B1
    have OT:=Lib.hid (Sl.own O2.out)
    go_wp2_with (at_builtin;refine wpList_append_sl rfl _ _ 23 rfl w.heap.size 22 i0 _ 24 Tryd.underlying23 hi hz0 hz1 hz2 rfl T us.length (us.map rwv) rfl O3.out (some ⟨w2.heap.size,0,none⟩) 1 1 [.slice A2 32 c2] rfl (fun h=>by cases h) (Sl.new_ w2 22 [.slice A2 32 c2]) (fun u hu=>by simp at hu;subst hu;rfl) (by have:=U1.out;unfold maxLen;omega) (by have:=U1.out;omega) B3.out.size ?_;intro v4 w4 hown4 hgrow4;have B4:=Lib.hid (B3.out.grown hgrow4 B3.out.size (own_rows O3.out));have PS4:=Lib.hid (fun z hz=>(show Po w4 z∨z∈P from(PS2.out z hz).imp (fun h=>(h.alloc (.cells #[.slice A2 32 c2] 22)).grown O3.out hgrow4) id));have O4:=Lib.hid hown4;clear hown4 hgrow4)
    go_ret
    refine⟨v4,us ++ [(A2,32,c2,t2)],rfl,?_,PS4.out,?_,B4.out⟩
    ·rw[List.length_append,List.map_append]
     exact O4.out
    ·show(us ++ [_]).map _=_
     rw[List.map_append,show us.map _=con us from rfl,X2.out]
     rfl
   ·have q1:¬(k:Int) < (H:Int):=by omega
    obtain⟨K,hK⟩:∃K,K=k - H:=⟨_,rfl⟩
    have e1:(k:Int) - (H:Int)=(K:Int):=by omega
    have e2:(K:Int)≤4096:=by omega
    have e3:IntKind.i64.wrap (K:Int)=(K:Int):=by simp only[IntKind.wrap_i64];omega
    have E:=Lib.hid (show pathL (con P) k=pathL (con (P.drop H)) K ++ [topL (con (P.take H))] from by
     rw[pathL_second (by rw[con_len,hl];exact h2) (by rw[con_len,hl,←hH];exact hc),con_len,hl,←hH,hK]
     simp only[con,List.map_take,List.map_drop])
    rw[E.out]
    have I2:=Lib.hid (rtop_any H H (Nat.le_refl _) s1 (by omega) w (P.take H) (some ad) c (hP.take (by omega)))
    have I1:=Lib.hid (fun(wq:World) (hq:Below w.heap.size w wq)=>ih (m - H) (by omega) (by omega) (by omega) K (by omega) wq (P.drop H) (some (ad.add H)) (c - H) ((hP.below hq).drop (by omega)))
    have LP:=Lib.hid (show(pathL (con (P.drop H)) K).length+1≤m - H from by have h:=pathL_len (con (P.drop H)).length (con (P.drop H)) K (Nat.le_refl _) (by rw[con_len,List.length_drop];omega);rw[con_len,List.length_drop] at h;omega)
    have SB:=Lib.hid (show(∀r∈P.drop H,r∈P)∧(∀r∈P.take H,r∈P) from⟨fun r h=>List.mem_of_mem_drop h,fun r h=>List.mem_of_mem_take h⟩)
    generalize pathL (con (P.drop H)) K=pa at I1 LP ⊢
    generalize topL (con (P.take H))=t2 at I2 ⊢
    generalize txtL (con (P.take H))=x2 at I2
    generalize P.take H=Pt at I2 SB
    generalize P.drop H=Pd at I1 SB
    clear ih hP hH E hl hK
    go_enter Tryd.func49,Tryd.ntmps49
    go_wp2_with (go_at_call 55;(with_reducible refine(HF.out _).mono ?_);rintro e w' ⟨rfl,rfl⟩)
    refine I2.out.mono ?_
    rintro e w1 ⟨A2,c2,T2,us2,rfl,⟨hp2,hpo⟩,-, -, hb1⟩
    have B1:=Lib.hid hb1
    have I3:=Lib.hid (I1.out w1 hb1)
    have PO:=Lib.hid (hpo.imp id (SB.out.2 _))
    clear hb1 hp2 hpo I1 I2
    go_wp2_with fail
    refine I3.out.mono ?_
    rintro e w2 ⟨T,us,rfl,ho,hps,hx,hb2⟩
    have U1:=Lib.hid (show us.length+1≤5000 from by have h:=congrArg List.length hx;rw[con_len] at h;have:=LP.out;omega)
    have B2:=Lib.hid (B1.out.trans (hb2.mono B1.out.size))
    have O2:=Lib.hid (own_base ho B1.out.size)
    have PS2:=Lib.hid (show ∀z∈us ++ [(A2,32,c2,t2)],Po w2 z∨z∈P from fun z hz=>by
     rcases List.mem_append.1 hz with h|h
     ·exact(hps z h).imp id (SB.out.1 z)
     ·have:z=(A2,32,c2,t2):=by simpa using h
      subst this
      exact PO.out.imp (fun h=>h.below hb2) id)
    have X2:=Lib.hid hx
    have B3:=Lib.hid (B2.out.alloc B2.out.size (.cells #[.slice A2 32 c2] 22))
    have O3:=Lib.hid (own_alloc O2.out (.cells #[.slice A2 32 c2] 22))
    clear ho hps hx hb2 PO SB I3 LP B1
    have OT:=Lib.hid (Sl.own O2.out)
    go_wp2_with (at_builtin;refine wpList_append_sl rfl _ _ 23 rfl w.heap.size 22 i0 _ 24 Tryd.underlying23 hi hz0 hz1 hz2 rfl T us.length (us.map rwv) rfl O3.out (some ⟨w2.heap.size,0,none⟩) 1 1 [.slice A2 32 c2] rfl (fun h=>by cases h) (Sl.new_ w2 22 [.slice A2 32 c2]) (fun u hu=>by simp at hu;subst hu;rfl) (by have:=U1.out;unfold maxLen;omega) (by have:=U1.out;omega) B3.out.size ?_;intro v4 w4 hown4 hgrow4;have B4:=Lib.hid (B3.out.grown hgrow4 B3.out.size (own_rows O3.out));have PS4:=Lib.hid (fun z hz=>(show Po w4 z∨z∈P from(PS2.out z hz).imp (fun h=>(h.alloc (.cells #[.slice A2 32 c2] 22)).grown O3.out hgrow4) id));have O4:=Lib.hid hown4;clear hown4 hgrow4)
    go_ret
    refine⟨v4,us ++ [(A2,32,c2,t2)],rfl,?_,PS4.out,?_,B4.out⟩
    ·rw[List.length_append,List.map_append]
     exact O4.out
    ·show(us ++ [_]).map _=_
     rw[List.map_append,show us.map _=con us from rfl,X2.out]
     rfl
  ·obtain rfl:m=1:=by omega
   have E:=Lib.hid (show pathL (con P) k=[] from pathL_one (by rw[con_len,hl];omega) k)
   rw[E.out]
   clear ih hP E hl
   go_enter Tryd.func49,Tryd.ntmps49
   go_wp2_with fail
   go_ret
   exact⟨.slice none 0 0,[],rfl,own_nil _ _ _,fun r hr=>by simp at hr,rfl,Below.refl _ _⟩
end Go.Proofs.YtnnfpmebopgogaaDoor.Mk
