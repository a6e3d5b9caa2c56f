/- Joined texts. -/
import Derived.Test.YtnnfpmebopgogaaDoorQsMpUp0
import Derived.Test.YtnnfpmebopgogaaDoorQsMpTop
set_option linter.unusedVariables false
namespace Go.Proofs.YtnnfpmebopgogaaDoor.Mk
open Go.RowKit Go.Proofs.YtnnfpmebopgogaaDoor.Gn Go.Proofs.YtnnfpmebopgogaaDoor.Fd Go.Deep
def txtL(ps:List (List Nat)):List (List Nat) :=
 if h:2≤ps.length then txtL (ps.take (half ps.length)) ++ txtL (ps.drop (half ps.length)) ++ [1 :: (topL (ps.take (half ps.length)) ++ topL (ps.drop (half ps.length)))] else[]
termination_by ps.length
decreasing_by
 ·have:=half_spec h;rw[List.length_take];omega
 ·have:=half_spec h;rw[List.length_drop];omega
theorem txtL_one{ps:List (List Nat)}(h:ps.length < 2):txtL ps=[]:=by rw[txtL,dif_neg (by omega)]
theorem txtL_step{ps:List (List Nat)}(h:2≤ps.length):txtL ps=txtL (ps.take (half ps.length)) ++ txtL (ps.drop (half ps.length)) ++ [1 :: (topL (ps.take (half ps.length)) ++ topL (ps.drop (half ps.length)))]:=by rw[txtL,dif_pos h]
theorem txtL_len:∀(N:Nat) (ps:List (List Nat)),ps.length≤N→1≤ps.length→(txtL ps).length+1=ps.length:=by
 intro N
 induction N with
 |zero=>intro ps h1 h2;omega
 |succ N ih =>
  intro ps hN h1
  by_cases h2:2≤ps.length
  ·have hs:=half_spec h2
   have e1:=ih (ps.take (half ps.length)) (by rw[List.length_take];omega) (by rw[List.length_take];omega)
   have e2:=ih (ps.drop (half ps.length)) (by rw[List.length_drop];omega) (by rw[List.length_drop];omega)
   rw[List.length_take] at e1
   rw[List.length_drop] at e2
   rw[txtL_step h2,List.length_append,List.length_append,List.length_singleton]
   omega
  ·rw[txtL_one (by omega)]
   simp
   omega
def RTopQ(P:List Rw)(t:List Nat)(xs:List (List Nat))(w:World)(e:Ending)(w':World):Prop :=
 ∃(A:Option Addr) (c:Nat) (T:Value) (us:List Rw),e=.returned (.tuple #[.slice A 32 c,T])∧(Pc w' (A,32,c,t)∧(Po w' (A,32,c,t)∨(A,32,c,t)∈P))∧OwnT w.heap.size w' T us∧con us=xs∧Below w.heap.size w w'
theorem own_sl{w:World}{base:Nat}{e:TypeId}{A:Option Addr}{n c:Nat}{xs:List Value}(h:w.ownsRow base e 1 (.slice A n c) n xs):Sl w A n xs∧(A=none→c=0):=by
 obtain⟨A',c',e1,h1,h2,-, -, -⟩:=Sl.own h
 injection e1 with e1 e2 e3
 subst e1;subst e3
 exact⟨h1,h2⟩
theorem rwv_one(us:List Rw):∀u∈us.map rwv,u.oneCell'=true:=fun u hu=>by
 obtain⟨r,-, rfl⟩:=List.mem_map.1 hu
 rfl
set_option maxHeartbeats 4000000 in
set_option maxRecDepth 100000 in
theorem rtop_any:∀(N m:Nat),m≤N→1≤m→m≤4096→∀(w:World) (P:List Rw) (B:Option Addr) (c:Nat),P32 w B m c P →
  Calls Tryd.prog 42 #[.slice B m c] w (RTopQ P (topL (con P)) (txtL (con P)) w):=by
 obtain⟨i0,hi,hz0,hz1,hz2⟩:=info_parts infobb
 intro N
 induction N with
 |zero=>intro m h1 h2;omega
 |succ N ih =>
  intro m hN h1 hm w P B c hP
  have hl:=hP.len
  by_cases h2:2≤m
  ·obtain⟨ad,hB,-⟩:=hP.row.at_ (show 0 < m by omega)
   subst hB
   have hs:=half_spec h2
   have HF:=Lib.hid (fun w=>rhalf_any h2 (by omega) w)
   obtain⟨H,hH⟩:∃H,H=half m:=⟨_,rfl⟩
   rw[←hH] at hs HF
   obtain⟨s1,s2,s3⟩:=hs
   have hcap:=hP.cap
   have t0':((m:Int) == 0)=false:=beq_eq_false_iff_ne.2 (by omega)
   have t1':((m:Int) == 1)=false:=beq_eq_false_iff_ne.2 (by omega)
   have k1:(H:Int)≤(c:Int):=by omega
   have k2:H≤c:=by omega
   have k3:(H:Int)≤(m:Int):=by omega
   have k4:¬c=H:=by omega
   have k5:¬H=c:=by omega
   have I1:=Lib.hid (ih H (by omega) s1 (by omega) w (P.take H) (some ad) c (hP.take (by omega)))
   have I2:=Lib.hid (fun(wq:World) (hq:Below w.heap.size w wq)=>ih (m - H) (by omega) (by omega) (by omega) wq (P.drop H) (some (ad.add H)) (c - H) ((hP.below hq).drop (by omega)))
   have L1:=Lib.hid (topL_len (ps:=con (P.take H)) (by rw[con_len,List.length_take];omega) ((hP.take (k:=H) (by omega)).con32))
   have L2:=Lib.hid (topL_len (ps:=con (P.drop H)) (by rw[con_len,List.length_drop];omega) ((hP.drop (k:=H) (by omega)).con32))
   have N1:=Lib.hid (show(txtL (con (P.take H))).length+1=H from by have h:=txtL_len _ (con (P.take H)) (Nat.le_refl _) (by rw[con_len,List.length_take];omega);rw[con_len,List.length_take] at h;omega)
   have N2:=Lib.hid (show(txtL (con (P.drop H))).length+1=m - H from by have h:=txtL_len _ (con (P.drop H)) (Nat.le_refl _) (by rw[con_len,List.length_drop];omega);rw[con_len,List.length_drop] at h;omega)
   have E:=Lib.hid (show topL (con P)=Sh.dg false (1 :: (topL (con (P.take H)) ++ topL (con (P.drop H))))∧txtL (con P)=txtL (con (P.take H)) ++ txtL (con (P.drop H)) ++ [1 :: (topL (con (P.take H)) ++ topL (con (P.drop H)))] from by
    rw[topL_step (by rw[con_len,hl];exact h2),txtL_step (by rw[con_len,hl];exact h2),con_len,hl,←hH]
    simp only[con,List.map_take,List.map_drop]
    exact⟨trivial,trivial⟩)
   rw[E.out.1,E.out.2]
   generalize topL (con (P.take H))=p1 at I1 L1 ⊢
   generalize topL (con (P.drop H))=p2 at I2 L2 ⊢
   generalize txtL (con (P.take H))=x1 at I1 N1 ⊢
   generalize txtL (con (P.drop H))=x2 at I2 N2 ⊢
   clear ih hP hH E hl
   go_enter Tryd.func42,Tryd.ntmps42
   go_wp2_with (go_at_call 55;(with_reducible refine(HF.out _).mono ?_);rintro e w' ⟨rfl,rfl⟩)
   refine I1.out.mono ?_
   rintro e w1 ⟨A1,c1,T1,us1,rfl,⟨hp1,-⟩,ho1,hx1,hb1⟩
   have B1:=Lib.hid hb1
   have Q1:=Lib.hid hp1
   have O1:=Lib.hid ho1
   have X1:=Lib.hid hx1
   obtain⟨TA1,tc1,rfl,-, -, -, -, -⟩:=Sl.own ho1.own
   have I3:=Lib.hid (I2.out w1 hb1)
   clear hb1 hp1 ho1 hx1 I1 I2
   go_wp2_with fail
   refine I3.out.mono ?_
   rintro e w2 ⟨A2,c2,T2,us2,rfl,⟨hp2,-⟩,ho2,hx2,hb2⟩
   have B2:=Lib.hid (B1.out.trans (hb2.mono B1.out.size))
   have O12:=Lib.hid (O1.out.below hb2)
   have O2:=Lib.hid ho2
   have X2:=Lib.hid hx2
   have ND:=Lib.hid (rnode_p (Q1.out.below hb2) hp2 (by decide))
   obtain⟨TA2,tc2,rfl,-, -, -, -, -⟩:=Sl.own ho2.own
   clear hb2 hp2 ho2 hx2 I3
   go_wp2_with fail
   refine ND.out.mono ?_
   rintro e w3 ⟨TB,tl,tb,rfl,hp3,hb3⟩
   have B3:=Lib.hid (B2.out.trans (hb3.mono B2.out.size))
   have O13:=Lib.hid (O12.out.below hb3)
   have O23:=Lib.hid (O2.out.below hb3)
   have U1:=Lib.hid (show us1.length+1=H from by have h:=congrArg List.length X1.out;rw[con_len] at h;have:=N1.out;omega)
   have U2:=Lib.hid (show us2.length+1=m - H from by have h:=congrArg List.length X2.out;rw[con_len] at h;have:=N2.out;omega)
   have PO3:=Lib.hid (show ∀z∈us1 ++ us2 ++ [(TB,tl,tb,1 :: (p1 ++ p2))],Po w3 z∧z.2.2.2.length≤100 from fun z hz=>by
    rcases List.mem_append.1 hz with h|h
    ·rcases List.mem_append.1 h with h|h
     ·exact O13.out.pcs z h
     ·exact O23.out.pcs z h
    ·have:z=(TB,tl,tb,1 :: (p1 ++ p2)):=by simpa using h
     subst this
     exact⟨hp3,by show(1 :: (p1 ++ p2)).length≤100;rw[List.length_cons,List.length_append,L1.out,L2.out];decide⟩)
   have htl:tl≤100:=by
    have h:=(PO3.out _ (List.mem_append_right _ (List.mem_singleton.2 rfl)))
    rw[show tl=_ from h.1.1.len]
    exact h.2
   have hn2:0+us1.length+us2.length+1≤10000:=by have:=U1.out;have:=U2.out;omega
   clear hb3 hp3 ND O12 O2 Q1 O1 N1 N2 U1 U2
   go_wp2_with (first
    |(at_builtin;refine wpList_append_sl rfl (.tmp 40) (.tmp 41) 23 rfl w.heap.size 22 i0 _ 24 Tryd.underlying23 hi hz0 hz1 hz2 rfl (.slice none 0 0) 0 [] rfl (own_nil _ _ _) TA1 us1.length tc1 (us1.map rwv) rfl (own_sl O13.out.own).2 (own_sl O13.out.own).1 (rwv_one us1) (by unfold maxLen;omega) (by omega) B3.out.size ?_;intro v4 w4 hown4 hgrow4;have B4:=Lib.hid (B3.out.grown hgrow4 B3.out.size (fun k hk=>by cases hk));have PO4:=Lib.hid (fun z hz=>(show Po w4 z∧z.2.2.2.length≤100 from⟨(PO3.out z hz).1.grown (own_nil w3 w.heap.size 22) hgrow4,(PO3.out z hz).2⟩));have O24:=Lib.hid (own_below O23.out.own (below_grown hgrow4 (Nat.le_refl _) (fun k hk=>by cases hk)));have W4:=Lib.hid hown4;clear hown4 hgrow4 O13 O23 B3 PO3)
    |(at_builtin;refine wpList_append_sl rfl (.tmp 42) (.tmp 43) 23 rfl w.heap.size 22 i0 _ 24 Tryd.underlying23 hi hz0 hz1 hz2 rfl v4 (0+us1.length) ([] ++ us1.map rwv) rfl W4.out TA2 us2.length tc2 (us2.map rwv) rfl (own_sl O24.out).2 (own_sl O24.out).1 (rwv_one us2) (by unfold maxLen;omega) (by omega) B4.out.size ?_;intro v5 w5 hown5 hgrow5;have B5:=Lib.hid (B4.out.grown hgrow5 B4.out.size (own_rows W4.out));have PO5:=Lib.hid (fun z hz=>(show Po w5 z∧z.2.2.2.length≤100 from⟨(PO4.out z hz).1.grown W4.out hgrow5,(PO4.out z hz).2⟩));have W5:=Lib.hid hown5;clear hown5 hgrow5 O24 B4 PO4 W4)
    |(at_builtin;refine wpList_append_sl rfl (.tmp 44) (.tmp 46) 23 rfl w.heap.size 22 i0 _ 24 Tryd.underlying23 hi hz0 hz1 hz2 rfl v5 (0+us1.length+us2.length) ([] ++ us1.map rwv ++ us2.map rwv) rfl (own_alloc W5.out _) (some ⟨w5.heap.size,0,none⟩) 1 1 [.slice TB tl tb] rfl (fun h=>by cases h) (Sl.new_ w5 22 [.slice TB tl tb]) (fun u hu=>by simp at hu;subst hu;rfl) (by unfold maxLen;omega) (by omega) (by have:=B5.out.size;simp;omega) ?_;intro v6 w6 hown6 hgrow6;have B6:=Lib.hid ((B5.out.alloc B5.out.size (.cells #[.slice TB tl tb] 22)).grown hgrow6 (by have:=B5.out.size;simp;omega) (own_rows W5.out));have PO6:=Lib.hid (fun z hz=>(show Po w6 z∧z.2.2.2.length≤100 from⟨((PO5.out z hz).1.alloc (.cells #[.slice TB tl tb] 22)).grown (own_alloc W5.out _) hgrow6,(PO5.out z hz).2⟩));have W6:=Lib.hid hown6;have HS:=Lib.hid (rhash_p (PO6.out _ (List.mem_append_right _ (List.mem_singleton.2 rfl))).1.1 (by omega));clear hown6 hgrow6 B5 PO5 W5)
    |(go_at_call 36;(with_reducible refine HS.out.mono ?_);rintro e w7 ⟨DB,dl,db,rfl,hp7,hb7⟩;have P7:=Lib.hid hp7;have W7:=Lib.hid (own_below W6.out hb7);have B7:=Lib.hid (B6.out.trans (hb7.mono B6.out.size));have PO7:=Lib.hid (fun z hz=>(show Po w7 z∧z.2.2.2.length≤100 from⟨(PO6.out z hz).1.below hb7,(PO6.out z hz).2⟩));clear hp7 hb7 HS))
   go_ret2
   have hdl:dl=32:=by have h:=P7.out.1.len;change dl=(Sh.dg false _).length at h;rw[dg32_len] at h;exact h
   subst hdl
   refine⟨DB,db,v6,us1 ++ us2 ++ [(TB,tl,tb,1 :: (p1 ++ p2))],rfl,⟨P7.out.1,.inl P7.out⟩,⟨?_,fun z hz=>PO7.out z hz⟩,?_,B7.out⟩
   ·have h:=W7.out
    rw[List.length_append,List.length_append,List.length_singleton,List.map_append,List.map_append]
    rw[Nat.zero_add,List.nil_append] at h
    exact h
   ·show(us1 ++ us2 ++ [_]).map _=_
    rw[List.map_append,List.map_append,show us1.map _=con us1 from rfl,show us2.map _=con us2 from rfl,X1.out,X2.out]
    rfl
  ·obtain rfl:m=1:=by omega
   obtain⟨ad,hB,c1⟩:=hP.row.at_ (show 0 < 1 by omega)
   obtain⟨l,rfl⟩:∃l,P=[l]:=by
    match P,hl with
    | [l],_=>exact⟨l,rfl⟩
   obtain⟨hl1,hl2⟩:=hP.pcs l (by simp)
   obtain⟨L,nl,cl,y⟩:=l
   have hnl:nl=32:=hl1.len.trans hl2
   subst hnl
   have c1':w.cell? ad=some (.slice L 32 cl):=c1
   have HX:=Lib.hid hl1
   subst hB
   have E:=Lib.hid (show topL (con [((L,32,cl,y):Rw)])=y∧txtL (con [((L,32,cl,y):Rw)])=[] from⟨topL_one y,txtL_one (by simp)⟩)
   rw[E.out.1,E.out.2]
   clear ih hP hl hl1 hl2 c1 E
   go_enter Tryd.func42,Tryd.ntmps42
   go_wp2_with fail
   go_ret2
   exact⟨L,cl,.slice none 0 0,[],rfl,⟨HX.out,.inr (by simp)⟩,⟨own_nil _ _ _,fun r hr=>by simp at hr⟩,rfl,Below.refl _ _⟩
end Go.Proofs.YtnnfpmebopgogaaDoor.Mk
