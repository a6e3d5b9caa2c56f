/- Joined texts. -/
import Derived.Deep.LoopGhost
import Derived.Test.YtcnlmekjcffohaaDoorQpMpPath
set_option linter.unusedVariables false
namespace Go.Proofs.YtcnlmekjcffohaaDoor.Mk
open Go.RowKit Go.Proofs.YtcnlmekjcffohaaDoor.Gn Go.Proofs.YtcnlmekjcffohaaDoor.Fd Go.Deep
theorem pathL_len:∀(N:Nat) (ps:List (List Nat)) (k:Nat),ps.length≤N→k < ps.length→(pathL ps k).length+1≤ps.length:=by
 intro N
 induction N with
 |zero=>intro ps k h1 h2;omega
 |succ N ih =>
  intro ps k hN hk
  by_cases h2:2≤ps.length
  ·have hs:=half_spec h2
   by_cases hc:k < half ps.length
   ·have e:=ih (ps.take (half ps.length)) k (by rw[List.length_take];omega) (by rw[List.length_take];omega)
    rw[List.length_take] at e
    rw[pathL_first h2 hc,List.length_append,List.length_singleton]
    omega
   ·have e:=ih (ps.drop (half ps.length)) (k - half ps.length) (by rw[List.length_drop];omega) (by rw[List.length_drop];omega)
    rw[List.length_drop] at e
    rw[pathL_second h2 hc,List.length_append,List.length_singleton]
    omega
  ·rw[pathL_one (by omega)]
   simp
   omega
theorem infobp:(Tryd.prog.info? 22).map (fun i=>(i.zero,i.size,i.bytes))=some (some (.slice none 0 0),1,24):=by kernel_rfl
abbrev Fd(D Q:Nat):Value:=.func (.func 43) #[] #[.pointer (some ⟨D,0,none⟩),.pointer (some ⟨Q,0,none⟩)]
structure PrS (b1:Nat) (w:World) (D Q:Nat) (us:List Rw) (T:Value):Prop where
 dc:w.heap[D]?=some (.cells #[Fd D Q] 60 (0,0))
 qc:w.heap[Q]?=some (.cells #[T] 23 (0,0))
 row:OwnP0 b1 w T us
 d1:D < b1
 q1:Q < b1
 ne:D≠Q
 le:b1≤w.heap.size
theorem PrS.below{b1:Nat}{w w':World}{D Q:Nat}{us:List Rw}{T:Value}(h:PrS b1 w D Q us T)(hb:Below w.heap.size w w'):PrS b1 w' D Q us T :=
 ⟨(hb.block D (Nat.lt_of_lt_of_le h.d1 h.le)).trans h.dc,(hb.block Q (Nat.lt_of_lt_of_le h.q1 h.le)).trans h.qc,h.row.below hb,h.d1,h.q1,h.ne,Nat.le_trans h.le hb.size⟩
def DownQ(w0:World)(b1 D Q:Nat)(us:List Rw)(path:List (List Nat))(e:Ending)(w':World):Prop :=
 e=.returned (.tuple #[])∧∃T' us',PrS b1 w' D Q us' T'∧con us'=con us ++ path∧Below w0.heap.size w0 w'
theorem one_cell{w:World}{b:Nat}{v:Value}{t:TypeId}(h:w.heap[b]?=some (.cells #[v] t (0,0))):w.cell? ⟨b,0,none⟩=some v∧w.frozen? ⟨b,0,none⟩=false:=by
 refine⟨by rw[cell_of_row _ _ _ _ _ _ h];rfl,by simp[World.frozen?,h]⟩
theorem At0.boxed{w:World}{r:Rw}{Q n c:Nat}{A:Option Addr}{t:TypeId}(h:At0 w r)(hq:w.heap[Q]?=some (.cells #[.slice A n c] t (0,0)))(v:Value):At0 (w.setCell ⟨Q,0,none⟩ v) r:=by
 obtain⟨hp,hl,g,hr⟩:=h
 refine⟨⟨hp.len,hp.row.only (only_set (World.grownBy.refl w (some Q)) (Or.inl rfl) v) ?_,hp.lt,hp.cap,hp.nil⟩,hl,g,hr⟩
 intro ad had e
 rw[hr] at had
 injection had with had
 subst had
 injection e with e
 change Q=g at e
 subst e
 obtain⟨ad,e1,hc⟩:=hp.row.at_ (k:=0) (by omega)
 rw[hr] at e1
 injection e1 with e1
 subst e1
 rw[add_at,cell_of_row _ _ _ _ _ _ hq] at hc
 obtain⟨z,hz⟩:∃z:Nat,(bl r.2.2.2)[0]?=some (.int .u8 (z:Int)):=by
  rw[bl_get]
  have:0 < r.2.2.2.length:=by omega
  rw[List.getElem?_eq_getElem this]
  exact⟨_,rfl⟩
 rw[hz] at hc
 simp at hc
theorem own_boxed{w:World}{base Q:Nat}{E:TypeId}{v u:Value}{n:Nat}{xs:List Value}(h:w.ownsRow base E 1 v n xs)(hQ:Q < base):(w.setCell ⟨Q,0,none⟩ u).ownsRow base E 1 v n xs:=by
 obtain⟨h0,h3⟩:=h
 refine⟨h0,?_⟩
 rcases h3 with h3|⟨g2,cap,cur,e1,hb,hh,h4⟩
 ·exact .inl h3
 ·exact .inr ⟨g2,cap,cur,e1,hb,(Below.heap_setCell w ⟨Q,0,none⟩ u g2 (by show g2≠Q;omega)).trans hh,h4⟩
theorem PrS.grown{b1:Nat}{w w4:World}{D Q:Nat}{us:List Rw}{T:Value}(S:PrS b1 w D Q us T)(hg:w.grownBy w4 T.ownBlock):Below b1 w w4 :=
 (Below.refl b1 w).grown hg S.le (own_rows S.row.own)
theorem PrS.q_grown{b1:Nat}{w w4:World}{D Q:Nat}{us:List Rw}{T:Value}(S:PrS b1 w D Q us T)(hg:w.grownBy w4 T.ownBlock):w4.heap[Q]?=some (.cells #[T] 23 (0,0)) :=
 ((S.grown hg).block Q S.q1).trans S.qc
theorem PrS.put{b1:Nat}{w w4:World}{D Q:Nat}{us:List Rw}{T v4:Value}{r:Rw}(S:PrS b1 w D Q us T)(hr:At0 w r)(ho:w4.ownsRow b1 22 1 v4 (us.length+1) (us.map rwv ++ [rwv r]))(hg:w.grownBy w4 T.ownBlock) :
  PrS b1 (w4.setCell ⟨Q,0,none⟩ v4) D Q (us ++ [r]) v4:=by
 have hb:=S.grown hg
 have hq:=S.q_grown hg
 obtain⟨A,c,hT,-, -, -, -, -⟩:=Sl.own S.row.own
 refine⟨(Below.heap_setCell w4 ⟨Q,0,none⟩ v4 D S.ne).trans ((hb.block D S.d1).trans S.dc),?_,⟨?_,.inr (by simp),fun z hz=>?_⟩,S.d1,S.q1,S.ne,?_⟩
 ·exact Bl.set_ (show Bl w4 Q 23 #[T] from hq) 0 v4
 ·rw[List.length_append,List.map_append]
  exact own_boxed ho S.q1
 ·rw[hT] at hq
  refine At0.boxed (w:=w4) ?_ hq v4
  rcases List.mem_append.1 hz with h|h
  ·exact(S.row.pcs z h).grown S.row.own S.row.nil hg
  ·have:z=r:=by simpa using h
   subst this
   exact hr.grown S.row.own S.row.nil hg
 ·have h:=(only_set (World.grownBy.refl w4 (some Q)) (p:=⟨Q,0,none⟩) (Or.inl rfl) v4).size
  have:=hb.size
  have:=S.le
  omega
set_option maxHeartbeats 4000000 in
set_option maxRecDepth 100000 in
theorem down_any{w0:World}(ts:Sh.Tab w0){b1 D Q:Nat}(hbD:w0.heap.size≤D)(hbQ:w0.heap.size≤Q):∀(N m:Nat),m≤N→1≤m→m≤4096→∀(k:Nat),k < m→∀(w:World) (P:List Rw) (B:Option Addr) (c:Nat) (us:List Rw) (T:Value),P32 w0 B m c P→us.length+m≤100000→PrS b1 w D Q us T→Below w0.heap.size w0 w →
  Calls Tryd.prog 43 #[.slice B m c,.int .i64 (k:Int),.pointer (some ⟨D,0,none⟩),.pointer (some ⟨Q,0,none⟩)] w (DownQ w0 b1 D Q us (pathL (con P) k)):=by
 obtain⟨i0,hi,hz0,hz1,hz2⟩:=info_parts infobp
 intro N
 induction N with
 |zero=>intro m h1 h2;omega
 |succ N ih =>
  intro m hN h1 hm k hk w P B c us T hP hus hS hb
  have hl:=hP.len
  by_cases h2:2≤m
  ·obtain⟨ad,hB,-⟩:=hP.row.at_ (show 0 < m by omega)
   subst hB
   have hs:=half_spec h2
   have HF:=Lib.hid (fun w=>half_any h2 (by omega) w)
   obtain⟨H,hH⟩:∃H,H=half m:=⟨_,rfl⟩
   rw[←hH] at hs HF
   obtain⟨s1,s2,s3⟩:=hs
   have hcap:=hP.cap
   have t1':((m:Int) == 1)=false:=beq_eq_false_iff_ne.2 (by omega)
   have k1:(H:Int)≤(c:Int):=by omega
   have k2:H≤c:=by omega
   have k3:(H:Int)≤(m:Int):=by omega
   have k4:¬c=H:=by omega
   have k5:¬H=c:=by omega
   by_cases hc:k < H
   ·have q1:(k:Int) < (H:Int):=by omega
    have E:=Lib.hid (show pathL (con P) k=pathL (con (P.take H)) k ++ [topL (con (P.drop H))] from by
     rw[pathL_first (by rw[con_len,hl];exact h2) (by rw[con_len,hl,←hH];exact hc),con_len,hl,←hH]
     simp only[con,List.map_take,List.map_drop])
    rw[E.out]
    have IH:=Lib.hid (fun(wq:World) (hq:Below w.heap.size w wq)=>ih H (by omega) s1 (by omega) k hc wq (P.take H) (some ad) c us T (hP.take (by omega)) (by omega) (hS.below hq) (hb.trans (hq.mono hb.size)))
    have TT:=Lib.hid (fun(wq:World) (hq:Below w0.heap.size w0 wq)=>top_any (m - H) (m - H) (Nat.le_refl _) (by omega) (by omega) wq (P.drop H) (some (ad.add H)) (c - H) ((hP.below hq).drop (by omega)) (ts.below hq))
    have L2:=Lib.hid (topL_len (ps:=con (P.drop H)) (by rw[con_len,List.length_drop];omega) ((hP.drop (k:=H) (by omega)).con32))
    have LP:=Lib.hid (show(pathL (con (P.take H)) k).length+1≤H from by have h:=pathL_len (con (P.take H)).length (con (P.take H)) k (Nat.le_refl _) (by rw[con_len,List.length_take];omega);rw[con_len,List.length_take] at h;omega)
    generalize pathL (con (P.take H)) k=pa at IH LP ⊢
    generalize topL (con (P.drop H))=t2 at TT L2 ⊢
    have HS:=Lib.hid hS
    have HB:=Lib.hid hb
    have HUS:=Lib.hid hus
    have dcell:=one_cell hS.dc
    clear ih hP ts hH E hS hb hl
    go_enter Tryd.func43,Tryd.ntmps43
    go_wp2_with (go_at_call 44;(with_reducible refine(HF.out _).mono ?_);rintro e w' ⟨rfl,rfl⟩)
    have X0:Below w.heap.size w w:=Below.refl _ _
    obtain⟨dcell,dfree⟩:=dcell
    clear dfree
    go_region_held3 (fun x=>x.cell? ⟨D,0,none⟩=some (Fd D Q))
     (first|exact Y1|exact dcell)
     ((go_at_call 43;(with_reducible refine(IH.out _ (by first|exact X0|exact X0.drew)).mono ?_);rintro e w1 ⟨rfl,T1,us1,s1_,c1_,b1_⟩;have S1:=Lib.hid s1_;have C1:=Lib.hid c1_;have B1:=Lib.hid b1_;have Y1:=(one_cell s1_.dc).1;clear s1_ c1_ b1_))
    have C1:=Lib.hid C1.out
    have qcell:=(one_cell S1.out.qc).1
    have U1:=Lib.hid (show us1.length+1≤200000 from by have h:=congrArg List.length C1.out;rw[List.length_append,con_len,con_len] at h;have:=LP.out;omega)
    go_wp2_with fail
    refine wp_region_held_drew (S:=fun _=>True) (by kernel_rfl) trivial (fun _=>?_)
    refine take_l 1 (v:=?_) rfl (by kernel_rfl) (by kernel_rfl) (by kernel_rfl) (fun _ _ _ h=>h) (Or.inl ⟨by rfl,?_⟩) trivial ?_;rotate_left
    ·intro w' hSw
     go_simp
     all_goals with_reducible rfl
    try simp only[Act.put,List.setIfInBounds_toArray,List.set_cons_zero,List.set_cons_succ]
    refine take_l 2 (v:=?_) rfl (by kernel_rfl) (by kernel_rfl) (by kernel_rfl) (fun _ _ _ h=>h) (Or.inl ⟨by rfl,?_⟩) trivial ?_;rotate_left
    ·intro w' hSw
     go_simp
     all_goals with_reducible rfl
    try simp only[Act.put,List.setIfInBounds_toArray,List.set_cons_zero,List.set_cons_succ]
    refine take_l 3 (v:=?_) rfl (by kernel_rfl) (by kernel_rfl) (by kernel_rfl) (fun _ _ _ h=>h) (Or.inl ⟨by rfl,?_⟩) trivial ?_;rotate_left
    ·intro w' hSw
     go_simp
     all_goals with_reducible rfl
    try simp only[Act.put,List.setIfInBounds_toArray,List.set_cons_zero,List.set_cons_succ]
    refine wpAnyH_ready (rs:=[0,4]) (by kernel_rfl) (by simp) ?_
    refine cons_l rfl (fun K0 hK=>?_) ?_
    ·go_simp
     refine hK.out _ _ trivial (fun _=>?_)
     clear hK K0
     try simp only[Act.put,List.setIfInBounds_toArray,List.set_cons_zero,List.set_cons_succ]
     refine wpAnyH_ready (rs:=[4]) (by kernel_rfl) (by simp) ?_
     refine cons_l rfl (fun K0 hK=>?_) ?_
     ·go_simp
      (go_at_call 37;(with_reducible refine(TT.out _ (B1.out.drew)).mono ?_);rintro e w2 ⟨g,cap,rfl,hp,hg,hb⟩)
      have S2:=Lib.hid (S1.out.below ((Below.refl _ _).drew.trans (hb.mono (Below.refl w1.heap.size w1).drew.size)))
      have B2:=Lib.hid (B1.out.trans ((Below.refl _ _).drew.trans (hb.mono (B1.out.drew).size)))
      have A2:=Lib.hid (show At0 w2 (some ⟨g,0,none⟩,32,cap,t2) from⟨hp,L2.out,g,rfl⟩)
      have qcell2:=(one_cell S2.out.qc).1
      clear hp hg hb qcell
      refine hK.out _ _ trivial (fun _=>?_)
      clear hK K0
      try simp only[Act.put,List.setIfInBounds_toArray,List.set_cons_zero,List.set_cons_succ]
      refine wpAnyH_ready (rs:=[5]) (by kernel_rfl) (by simp) ?_
      refine cons_l rfl (fun K0 hK=>?_) ?_
      ·go_simp
       refine hK.out _ _ trivial (fun _=>?_)
       clear hK K0
       try simp only[Act.put,List.setIfInBounds_toArray,List.set_cons_zero,List.set_cons_succ]
       have S3:=Lib.hid (S2.out.below ((Below.refl _ _).alloc (Nat.le_refl _) (.cells #[.slice (some ⟨g,0,none⟩) 32 cap] 22)))
       have B3:=Lib.hid (B2.out.alloc B2.out.size (.cells #[.slice (some ⟨g,0,none⟩) 32 cap] 22))
       have A3:=Lib.hid (A2.out.below ((Below.refl _ _).alloc (Nat.le_refl _) (.cells #[.slice (some ⟨g,0,none⟩) 32 cap] 22)))
       have SL3:=Lib.hid (Sl.new_ w2 22 [.slice (some ⟨g,0,none⟩) 32 cap])
       rw[show([.slice (some ⟨g,0,none⟩) 32 cap]:List Value).toArray = #[.slice (some ⟨g,0,none⟩) 32 cap] from rfl,show([.slice (some ⟨g,0,none⟩) 32 cap]:List Value).length=1 from rfl] at SL3
       generalize w2.alloc (.cells #[.slice (some ⟨g,0,none⟩) 32 cap] 22)=w3 at S3 B3 A3 SL3 ⊢
       have qcell3:=(one_cell S3.out.qc).1
       clear qcell2
       refine wpAnyH_ready (rs:=[6]) (by kernel_rfl) (by simp) ?_
       refine cons_l rfl (fun K0 hK=>?_) ?_
       ·refine step_append_sl rfl _ _ 23 rfl b1 22 i0 _ 24 Tryd.underlying23 hi hz0 hz1 hz2 rfl T1 us1.length (us1.map rwv) rfl S3.out.row.own (some ⟨w2.heap.size,0,none⟩) 1 1 [.slice (some ⟨g,0,none⟩) 32 cap] rfl (fun h=>by cases h) SL3.out (fun u hu=>by simp at hu;subst hu;rfl) (by have:=U1.out;unfold maxLen;omega) (by have:=U1.out;omega) S3.out.le ?_
        intro v4 w4 hown4 hgrow4
        have PF:=Lib.hid (S3.out.put (r:=(some ⟨g,0,none⟩,32,cap,t2)) A3.out hown4 hgrow4)
        have G4:=Lib.hid (S3.out.q_grown hgrow4)
        have B5:=Lib.hid (((B3.out.grown hgrow4 B3.out.size (fun k hk=>by have:=own_rows S3.out.row.own k hk;have:=S3.out.q1;omega))).setCell (p:=⟨Q,0,none⟩) hbQ v4)
        obtain⟨A4,c4,rfl,-, -, -, -, -⟩:=Sl.own hown4
        have qcell4:=(one_cell G4.out).1
        have qfree4:=(one_cell G4.out).2
        clear hown4 hgrow4
        refine hK.out _ _ trivial (fun _=>?_)
        clear hK K0
        try simp only[Act.put,List.setIfInBounds_toArray,List.set_cons_zero,List.set_cons_succ]
        refine wpAnyH_ready (rs:=[7]) (by kernel_rfl) (by simp) ?_
        refine cons_l rfl (fun K0 hK=>?_) ?_
        ·go_simp
         refine hK.out _ _ trivial (fun _=>?_)
         clear hK K0
         try simp only[Act.put,List.setIfInBounds_toArray,List.set_cons_zero,List.set_cons_succ]
         refine wpAnyH_done (by kernel_rfl) ?_ _
         generalize w4.setCell ⟨Q,0,none⟩ (.slice A4 (us1.length+1) c4)=w5 at PF B5 ⊢
         go_wp2_with fail
         first|go_end0|refine bodyPost_ret (results_none rfl _ _ _) rfl ?_
         exact⟨rfl,_,_,PF.out,by rw[←List.append_assoc,←C1.out];simp[con],B5.out⟩
        exact AllReadyH.nil
       exact AllReadyH.nil
      exact AllReadyH.nil
     exact AllReadyH.nil
    refine cons_l rfl (fun K0 hK=>?_) ?_
    ·go_simp
     (go_at_call 37;(with_reducible refine(TT.out _ (B1.out.drew)).mono ?_);rintro e w2 ⟨g,cap,rfl,hp,hg,hb⟩)
     have S2:=Lib.hid (S1.out.below ((Below.refl _ _).drew.trans (hb.mono (Below.refl w1.heap.size w1).drew.size)))
     have B2:=Lib.hid (B1.out.trans ((Below.refl _ _).drew.trans (hb.mono (B1.out.drew).size)))
     have A2:=Lib.hid (show At0 w2 (some ⟨g,0,none⟩,32,cap,t2) from⟨hp,L2.out,g,rfl⟩)
     have qcell2:=(one_cell S2.out.qc).1
     clear hp hg hb qcell
     refine hK.out _ _ trivial (fun _=>?_)
     clear hK K0
     try simp only[Act.put,List.setIfInBounds_toArray,List.set_cons_zero,List.set_cons_succ]
     refine wpAnyH_ready (rs:=[0,5]) (by kernel_rfl) (by simp) ?_
     refine cons_l rfl (fun K0 hK=>?_) ?_
     ·go_simp
      refine hK.out _ _ trivial (fun _=>?_)
      clear hK K0
      try simp only[Act.put,List.setIfInBounds_toArray,List.set_cons_zero,List.set_cons_succ]
      refine wpAnyH_ready (rs:=[5]) (by kernel_rfl) (by simp) ?_
      refine cons_l rfl (fun K0 hK=>?_) ?_
      ·go_simp
       refine hK.out _ _ trivial (fun _=>?_)
       clear hK K0
       try simp only[Act.put,List.setIfInBounds_toArray,List.set_cons_zero,List.set_cons_succ]
       have S3:=Lib.hid (S2.out.below ((Below.refl _ _).alloc (Nat.le_refl _) (.cells #[.slice (some ⟨g,0,none⟩) 32 cap] 22)))
       have B3:=Lib.hid (B2.out.alloc B2.out.size (.cells #[.slice (some ⟨g,0,none⟩) 32 cap] 22))
       have A3:=Lib.hid (A2.out.below ((Below.refl _ _).alloc (Nat.le_refl _) (.cells #[.slice (some ⟨g,0,none⟩) 32 cap] 22)))
       have SL3:=Lib.hid (Sl.new_ w2 22 [.slice (some ⟨g,0,none⟩) 32 cap])
       rw[show([.slice (some ⟨g,0,none⟩) 32 cap]:List Value).toArray = #[.slice (some ⟨g,0,none⟩) 32 cap] from rfl,show([.slice (some ⟨g,0,none⟩) 32 cap]:List Value).length=1 from rfl] at SL3
       generalize w2.alloc (.cells #[.slice (some ⟨g,0,none⟩) 32 cap] 22)=w3 at S3 B3 A3 SL3 ⊢
       have qcell3:=(one_cell S3.out.qc).1
       clear qcell2
       refine wpAnyH_ready (rs:=[6]) (by kernel_rfl) (by simp) ?_
       refine cons_l rfl (fun K0 hK=>?_) ?_
       ·refine step_append_sl rfl _ _ 23 rfl b1 22 i0 _ 24 Tryd.underlying23 hi hz0 hz1 hz2 rfl T1 us1.length (us1.map rwv) rfl S3.out.row.own (some ⟨w2.heap.size,0,none⟩) 1 1 [.slice (some ⟨g,0,none⟩) 32 cap] rfl (fun h=>by cases h) SL3.out (fun u hu=>by simp at hu;subst hu;rfl) (by have:=U1.out;unfold maxLen;omega) (by have:=U1.out;omega) S3.out.le ?_
        intro v4 w4 hown4 hgrow4
        have PF:=Lib.hid (S3.out.put (r:=(some ⟨g,0,none⟩,32,cap,t2)) A3.out hown4 hgrow4)
        have G4:=Lib.hid (S3.out.q_grown hgrow4)
        have B5:=Lib.hid (((B3.out.grown hgrow4 B3.out.size (fun k hk=>by have:=own_rows S3.out.row.own k hk;have:=S3.out.q1;omega))).setCell (p:=⟨Q,0,none⟩) hbQ v4)
        obtain⟨A4,c4,rfl,-, -, -, -, -⟩:=Sl.own hown4
        have qcell4:=(one_cell G4.out).1
        have qfree4:=(one_cell G4.out).2
        clear hown4 hgrow4
        refine hK.out _ _ trivial (fun _=>?_)
        clear hK K0
        try simp only[Act.put,List.setIfInBounds_toArray,List.set_cons_zero,List.set_cons_succ]
        refine wpAnyH_ready (rs:=[7]) (by kernel_rfl) (by simp) ?_
        refine cons_l rfl (fun K0 hK=>?_) ?_
        ·go_simp
         refine hK.out _ _ trivial (fun _=>?_)
         clear hK K0
         try simp only[Act.put,List.setIfInBounds_toArray,List.set_cons_zero,List.set_cons_succ]
         refine wpAnyH_done (by kernel_rfl) ?_ _
         generalize w4.setCell ⟨Q,0,none⟩ (.slice A4 (us1.length+1) c4)=w5 at PF B5 ⊢
         go_wp2_with fail
         first|go_end0|refine bodyPost_ret (results_none rfl _ _ _) rfl ?_
         exact⟨rfl,_,_,PF.out,by rw[←List.append_assoc,←C1.out];simp[con],B5.out⟩
        exact AllReadyH.nil
       exact AllReadyH.nil
      exact AllReadyH.nil
     refine cons_l rfl (fun K0 hK=>?_) ?_
     ·go_simp
      refine hK.out _ _ trivial (fun _=>?_)
      clear hK K0
      try simp only[Act.put,List.setIfInBounds_toArray,List.set_cons_zero,List.set_cons_succ]
      have S3:=Lib.hid (S2.out.below ((Below.refl _ _).alloc (Nat.le_refl _) (.cells #[.slice (some ⟨g,0,none⟩) 32 cap] 22)))
      have B3:=Lib.hid (B2.out.alloc B2.out.size (.cells #[.slice (some ⟨g,0,none⟩) 32 cap] 22))
      have A3:=Lib.hid (A2.out.below ((Below.refl _ _).alloc (Nat.le_refl _) (.cells #[.slice (some ⟨g,0,none⟩) 32 cap] 22)))
      have SL3:=Lib.hid (Sl.new_ w2 22 [.slice (some ⟨g,0,none⟩) 32 cap])
      rw[show([.slice (some ⟨g,0,none⟩) 32 cap]:List Value).toArray = #[.slice (some ⟨g,0,none⟩) 32 cap] from rfl,show([.slice (some ⟨g,0,none⟩) 32 cap]:List Value).length=1 from rfl] at SL3
      generalize w2.alloc (.cells #[.slice (some ⟨g,0,none⟩) 32 cap] 22)=w3 at S3 B3 A3 SL3 ⊢
      have qcell3:=(one_cell S3.out.qc).1
      clear qcell2
      refine wpAnyH_ready (rs:=[0]) (by kernel_rfl) (by simp) ?_
      refine cons_l rfl (fun K0 hK=>?_) ?_
      ·go_simp
       refine hK.out _ _ trivial (fun _=>?_)
       clear hK K0
       try simp only[Act.put,List.setIfInBounds_toArray,List.set_cons_zero,List.set_cons_succ]
       refine wpAnyH_ready (rs:=[6]) (by kernel_rfl) (by simp) ?_
       refine cons_l rfl (fun K0 hK=>?_) ?_
       ·refine step_append_sl rfl _ _ 23 rfl b1 22 i0 _ 24 Tryd.underlying23 hi hz0 hz1 hz2 rfl T1 us1.length (us1.map rwv) rfl S3.out.row.own (some ⟨w2.heap.size,0,none⟩) 1 1 [.slice (some ⟨g,0,none⟩) 32 cap] rfl (fun h=>by cases h) SL3.out (fun u hu=>by simp at hu;subst hu;rfl) (by have:=U1.out;unfold maxLen;omega) (by have:=U1.out;omega) S3.out.le ?_
        intro v4 w4 hown4 hgrow4
        have PF:=Lib.hid (S3.out.put (r:=(some ⟨g,0,none⟩,32,cap,t2)) A3.out hown4 hgrow4)
        have G4:=Lib.hid (S3.out.q_grown hgrow4)
        have B5:=Lib.hid (((B3.out.grown hgrow4 B3.out.size (fun k hk=>by have:=own_rows S3.out.row.own k hk;have:=S3.out.q1;omega))).setCell (p:=⟨Q,0,none⟩) hbQ v4)
        obtain⟨A4,c4,rfl,-, -, -, -, -⟩:=Sl.own hown4
        have qcell4:=(one_cell G4.out).1
        have qfree4:=(one_cell G4.out).2
        clear hown4 hgrow4
        refine hK.out _ _ trivial (fun _=>?_)
        clear hK K0
        try simp only[Act.put,List.setIfInBounds_toArray,List.set_cons_zero,List.set_cons_succ]
        refine wpAnyH_ready (rs:=[7]) (by kernel_rfl) (by simp) ?_
        refine cons_l rfl (fun K0 hK=>?_) ?_
        ·go_simp
         refine hK.out _ _ trivial (fun _=>?_)
         clear hK K0
         try simp only[Act.put,List.setIfInBounds_toArray,List.set_cons_zero,List.set_cons_succ]
         refine wpAnyH_done (by kernel_rfl) ?_ _
         generalize w4.setCell ⟨Q,0,none⟩ (.slice A4 (us1.length+1) c4)=w5 at PF B5 ⊢
         go_wp2_with fail
         first|go_end0|refine bodyPost_ret (results_none rfl _ _ _) rfl ?_
         exact⟨rfl,_,_,PF.out,by rw[←List.append_assoc,←C1.out];simp[con],B5.out⟩
        exact AllReadyH.nil
       exact AllReadyH.nil
      exact AllReadyH.nil
     exact AllReadyH.nil
    exact AllReadyH.nil
   ·have q1:¬(k:Int) < (H:Int):=by omega
    obtain⟨K,hK⟩:∃K,K=k - H:=⟨_,rfl⟩
    have e1:(k:Int) - (H:Int)=(K:Int):=by omega
    have e2:(K:Int)≤4096:=by omega
    have e3:IntKind.i64.wrap (K:Int)=(K:Int):=by simp only[IntKind.wrap_i64];omega
    have E:=Lib.hid (show pathL (con P) k=pathL (con (P.drop H)) K ++ [topL (con (P.take H))] from by
     rw[pathL_second (by rw[con_len,hl];exact h2) (by rw[con_len,hl,←hH];exact hc),con_len,hl,←hH,hK]
     simp only[con,List.map_take,List.map_drop])
    rw[E.out]
    have IH:=Lib.hid (fun(wq:World) (hq:Below w.heap.size w wq)=>ih (m - H) (by omega) (by omega) (by omega) K (by omega) wq (P.drop H) (some (ad.add H)) (c - H) us T (hP.drop (by omega)) (by omega) (hS.below hq) (hb.trans (hq.mono hb.size)))
    have TT:=Lib.hid (fun(wq:World) (hq:Below w0.heap.size w0 wq)=>top_any H H (Nat.le_refl _) s1 (by omega) wq (P.take H) (some ad) c ((hP.below hq).take (by omega)) (ts.below hq))
    have L2:=Lib.hid (topL_len (ps:=con (P.take H)) (by rw[con_len,List.length_take];omega) ((hP.take (k:=H) (by omega)).con32))
    have LP:=Lib.hid (show(pathL (con (P.drop H)) K).length+1≤m - H from by have h:=pathL_len (con (P.drop H)).length (con (P.drop H)) K (Nat.le_refl _) (by rw[con_len,List.length_drop];omega);rw[con_len,List.length_drop] at h;omega)
    generalize pathL (con (P.drop H)) K=pa at IH LP ⊢
    generalize topL (con (P.take H))=t2 at TT L2 ⊢
    have HS:=Lib.hid hS
    have HB:=Lib.hid hb
    have HUS:=Lib.hid hus
    have dcell:=one_cell hS.dc
    clear ih hP ts hH E hS hb hl hK
    go_enter Tryd.func43,Tryd.ntmps43
    go_wp2_with (go_at_call 44;(with_reducible refine(HF.out _).mono ?_);rintro e w' ⟨rfl,rfl⟩)
    have X0:Below w.heap.size w w:=Below.refl _ _
    obtain⟨dcell,dfree⟩:=dcell
    clear dfree
    go_region_held3 (fun x=>x.cell? ⟨D,0,none⟩=some (Fd D Q))
     (first|exact Y1|exact dcell)
     ((go_at_call 43;(with_reducible refine(IH.out _ (by first|exact X0|exact X0.drew)).mono ?_);rintro e w1 ⟨rfl,T1,us1,s1_,c1_,b1_⟩;have S1:=Lib.hid s1_;have C1:=Lib.hid c1_;have B1:=Lib.hid b1_;have Y1:=(one_cell s1_.dc).1;clear s1_ c1_ b1_))
    have C1:=Lib.hid C1.out
    have qcell:=(one_cell S1.out.qc).1
    have U1:=Lib.hid (show us1.length+1≤200000 from by have h:=congrArg List.length C1.out;rw[List.length_append,con_len,con_len] at h;have:=LP.out;omega)
    go_wp2_with fail
    refine wp_region_held_drew (S:=fun _=>True) (by kernel_rfl) trivial (fun _=>?_)
    refine take_l 1 (v:=?_) rfl (by kernel_rfl) (by kernel_rfl) (by kernel_rfl) (fun _ _ _ h=>h) (Or.inl ⟨by rfl,?_⟩) trivial ?_;rotate_left
    ·intro w' hSw
     go_simp
     all_goals with_reducible rfl
    try simp only[Act.put,List.setIfInBounds_toArray,List.set_cons_zero,List.set_cons_succ]
    refine take_l 2 (v:=?_) rfl (by kernel_rfl) (by kernel_rfl) (by kernel_rfl) (fun _ _ _ h=>h) (Or.inl ⟨by rfl,?_⟩) trivial ?_;rotate_left
    ·intro w' hSw
     go_simp
     all_goals with_reducible rfl
    try simp only[Act.put,List.setIfInBounds_toArray,List.set_cons_zero,List.set_cons_succ]
    refine take_l 3 (v:=?_) rfl (by kernel_rfl) (by kernel_rfl) (by kernel_rfl) (fun _ _ _ h=>h) (Or.inl ⟨by rfl,?_⟩) trivial ?_;rotate_left
    ·intro w' hSw
     go_simp
     all_goals with_reducible rfl
    try simp only[Act.put,List.setIfInBounds_toArray,List.set_cons_zero,List.set_cons_succ]
    refine wpAnyH_ready (rs:=[0,4]) (by kernel_rfl) (by simp) ?_
    refine cons_l rfl (fun K0 hK=>?_) ?_
    ·go_simp
     refine hK.out _ _ trivial (fun _=>?_)
     clear hK K0
     try simp only[Act.put,List.setIfInBounds_toArray,List.set_cons_zero,List.set_cons_succ]
     refine wpAnyH_ready (rs:=[4]) (by kernel_rfl) (by simp) ?_
     refine cons_l rfl (fun K0 hK=>?_) ?_
     ·go_simp
      (go_at_call 37;(with_reducible refine(TT.out _ (B1.out.drew)).mono ?_);rintro e w2 ⟨g,cap,rfl,hp,hg,hb⟩)
      have S2:=Lib.hid (S1.out.below ((Below.refl _ _).drew.trans (hb.mono (Below.refl w1.heap.size w1).drew.size)))
      have B2:=Lib.hid (B1.out.trans ((Below.refl _ _).drew.trans (hb.mono (B1.out.drew).size)))
      have A2:=Lib.hid (show At0 w2 (some ⟨g,0,none⟩,32,cap,t2) from⟨hp,L2.out,g,rfl⟩)
      have qcell2:=(one_cell S2.out.qc).1
      clear hp hg hb qcell
      refine hK.out _ _ trivial (fun _=>?_)
      clear hK K0
      try simp only[Act.put,List.setIfInBounds_toArray,List.set_cons_zero,List.set_cons_succ]
      refine wpAnyH_ready (rs:=[5]) (by kernel_rfl) (by simp) ?_
      refine cons_l rfl (fun K0 hK=>?_) ?_
      ·go_simp
       refine hK.out _ _ trivial (fun _=>?_)
       clear hK K0
       try simp only[Act.put,List.setIfInBounds_toArray,List.set_cons_zero,List.set_cons_succ]
       have S3:=Lib.hid (S2.out.below ((Below.refl _ _).alloc (Nat.le_refl _) (.cells #[.slice (some ⟨g,0,none⟩) 32 cap] 22)))
       have B3:=Lib.hid (B2.out.alloc B2.out.size (.cells #[.slice (some ⟨g,0,none⟩) 32 cap] 22))
       have A3:=Lib.hid (A2.out.below ((Below.refl _ _).alloc (Nat.le_refl _) (.cells #[.slice (some ⟨g,0,none⟩) 32 cap] 22)))
       have SL3:=Lib.hid (Sl.new_ w2 22 [.slice (some ⟨g,0,none⟩) 32 cap])
       rw[show([.slice (some ⟨g,0,none⟩) 32 cap]:List Value).toArray = #[.slice (some ⟨g,0,none⟩) 32 cap] from rfl,show([.slice (some ⟨g,0,none⟩) 32 cap]:List Value).length=1 from rfl] at SL3
       generalize w2.alloc (.cells #[.slice (some ⟨g,0,none⟩) 32 cap] 22)=w3 at S3 B3 A3 SL3 ⊢
       have qcell3:=(one_cell S3.out.qc).1
       clear qcell2
       refine wpAnyH_ready (rs:=[6]) (by kernel_rfl) (by simp) ?_
       refine cons_l rfl (fun K0 hK=>?_) ?_
       ·refine step_append_sl rfl _ _ 23 rfl b1 22 i0 _ 24 Tryd.underlying23 hi hz0 hz1 hz2 rfl T1 us1.length (us1.map rwv) rfl S3.out.row.own (some ⟨w2.heap.size,0,none⟩) 1 1 [.slice (some ⟨g,0,none⟩) 32 cap] rfl (fun h=>by cases h) SL3.out (fun u hu=>by simp at hu;subst hu;rfl) (by have:=U1.out;unfold maxLen;omega) (by have:=U1.out;omega) S3.out.le ?_
        intro v4 w4 hown4 hgrow4
        have PF:=Lib.hid (S3.out.put (r:=(some ⟨g,0,none⟩,32,cap,t2)) A3.out hown4 hgrow4)
        have G4:=Lib.hid (S3.out.q_grown hgrow4)
        have B5:=Lib.hid (((B3.out.grown hgrow4 B3.out.size (fun k hk=>by have:=own_rows S3.out.row.own k hk;have:=S3.out.q1;omega))).setCell (p:=⟨Q,0,none⟩) hbQ v4)
        obtain⟨A4,c4,rfl,-, -, -, -, -⟩:=Sl.own hown4
        have qcell4:=(one_cell G4.out).1
        have qfree4:=(one_cell G4.out).2
        clear hown4 hgrow4
        refine hK.out _ _ trivial (fun _=>?_)
        clear hK K0
        try simp only[Act.put,List.setIfInBounds_toArray,List.set_cons_zero,List.set_cons_succ]
        refine wpAnyH_ready (rs:=[7]) (by kernel_rfl) (by simp) ?_
        refine cons_l rfl (fun K0 hK=>?_) ?_
        ·go_simp
         refine hK.out _ _ trivial (fun _=>?_)
         clear hK K0
         try simp only[Act.put,List.setIfInBounds_toArray,List.set_cons_zero,List.set_cons_succ]
         refine wpAnyH_done (by kernel_rfl) ?_ _
         generalize w4.setCell ⟨Q,0,none⟩ (.slice A4 (us1.length+1) c4)=w5 at PF B5 ⊢
         go_wp2_with fail
         first|go_end0|refine bodyPost_ret (results_none rfl _ _ _) rfl ?_
         exact⟨rfl,_,_,PF.out,by rw[←List.append_assoc,←C1.out];simp[con],B5.out⟩
        exact AllReadyH.nil
       exact AllReadyH.nil
      exact AllReadyH.nil
     exact AllReadyH.nil
    refine cons_l rfl (fun K0 hK=>?_) ?_
    ·go_simp
     (go_at_call 37;(with_reducible refine(TT.out _ (B1.out.drew)).mono ?_);rintro e w2 ⟨g,cap,rfl,hp,hg,hb⟩)
     have S2:=Lib.hid (S1.out.below ((Below.refl _ _).drew.trans (hb.mono (Below.refl w1.heap.size w1).drew.size)))
     have B2:=Lib.hid (B1.out.trans ((Below.refl _ _).drew.trans (hb.mono (B1.out.drew).size)))
     have A2:=Lib.hid (show At0 w2 (some ⟨g,0,none⟩,32,cap,t2) from⟨hp,L2.out,g,rfl⟩)
     have qcell2:=(one_cell S2.out.qc).1
     clear hp hg hb qcell
     refine hK.out _ _ trivial (fun _=>?_)
     clear hK K0
     try simp only[Act.put,List.setIfInBounds_toArray,List.set_cons_zero,List.set_cons_succ]
     refine wpAnyH_ready (rs:=[0,5]) (by kernel_rfl) (by simp) ?_
     refine cons_l rfl (fun K0 hK=>?_) ?_
     ·go_simp
      refine hK.out _ _ trivial (fun _=>?_)
      clear hK K0
      try simp only[Act.put,List.setIfInBounds_toArray,List.set_cons_zero,List.set_cons_succ]
      refine wpAnyH_ready (rs:=[5]) (by kernel_rfl) (by simp) ?_
      refine cons_l rfl (fun K0 hK=>?_) ?_
      ·go_simp
       refine hK.out _ _ trivial (fun _=>?_)
       clear hK K0
       try simp only[Act.put,List.setIfInBounds_toArray,List.set_cons_zero,List.set_cons_succ]
       have S3:=Lib.hid (S2.out.below ((Below.refl _ _).alloc (Nat.le_refl _) (.cells #[.slice (some ⟨g,0,none⟩) 32 cap] 22)))
       have B3:=Lib.hid (B2.out.alloc B2.out.size (.cells #[.slice (some ⟨g,0,none⟩) 32 cap] 22))
       have A3:=Lib.hid (A2.out.below ((Below.refl _ _).alloc (Nat.le_refl _) (.cells #[.slice (some ⟨g,0,none⟩) 32 cap] 22)))
       have SL3:=Lib.hid (Sl.new_ w2 22 [.slice (some ⟨g,0,none⟩) 32 cap])
       rw[show([.slice (some ⟨g,0,none⟩) 32 cap]:List Value).toArray = #[.slice (some ⟨g,0,none⟩) 32 cap] from rfl,show([.slice (some ⟨g,0,none⟩) 32 cap]:List Value).length=1 from rfl] at SL3
       generalize w2.alloc (.cells #[.slice (some ⟨g,0,none⟩) 32 cap] 22)=w3 at S3 B3 A3 SL3 ⊢
       have qcell3:=(one_cell S3.out.qc).1
       clear qcell2
       refine wpAnyH_ready (rs:=[6]) (by kernel_rfl) (by simp) ?_
       refine cons_l rfl (fun K0 hK=>?_) ?_
       ·refine step_append_sl rfl _ _ 23 rfl b1 22 i0 _ 24 Tryd.underlying23 hi hz0 hz1 hz2 rfl T1 us1.length (us1.map rwv) rfl S3.out.row.own (some ⟨w2.heap.size,0,none⟩) 1 1 [.slice (some ⟨g,0,none⟩) 32 cap] rfl (fun h=>by cases h) SL3.out (fun u hu=>by simp at hu;subst hu;rfl) (by have:=U1.out;unfold maxLen;omega) (by have:=U1.out;omega) S3.out.le ?_
        intro v4 w4 hown4 hgrow4
        have PF:=Lib.hid (S3.out.put (r:=(some ⟨g,0,none⟩,32,cap,t2)) A3.out hown4 hgrow4)
        have G4:=Lib.hid (S3.out.q_grown hgrow4)
        have B5:=Lib.hid (((B3.out.grown hgrow4 B3.out.size (fun k hk=>by have:=own_rows S3.out.row.own k hk;have:=S3.out.q1;omega))).setCell (p:=⟨Q,0,none⟩) hbQ v4)
        obtain⟨A4,c4,rfl,-, -, -, -, -⟩:=Sl.own hown4
        have qcell4:=(one_cell G4.out).1
        have qfree4:=(one_cell G4.out).2
        clear hown4 hgrow4
        refine hK.out _ _ trivial (fun _=>?_)
        clear hK K0
        try simp only[Act.put,List.setIfInBounds_toArray,List.set_cons_zero,List.set_cons_succ]
        refine wpAnyH_ready (rs:=[7]) (by kernel_rfl) (by simp) ?_
        refine cons_l rfl (fun K0 hK=>?_) ?_
        ·go_simp
         refine hK.out _ _ trivial (fun _=>?_)
         clear hK K0
         try simp only[Act.put,List.setIfInBounds_toArray,List.set_cons_zero,List.set_cons_succ]
         refine wpAnyH_done (by kernel_rfl) ?_ _
         generalize w4.setCell ⟨Q,0,none⟩ (.slice A4 (us1.length+1) c4)=w5 at PF B5 ⊢
         go_wp2_with fail
         first|go_end0|refine bodyPost_ret (results_none rfl _ _ _) rfl ?_
         exact⟨rfl,_,_,PF.out,by rw[←List.append_assoc,←C1.out];simp[con],B5.out⟩
        exact AllReadyH.nil
       exact AllReadyH.nil
      exact AllReadyH.nil
     refine cons_l rfl (fun K0 hK=>?_) ?_
     ·go_simp
      refine hK.out _ _ trivial (fun _=>?_)
      clear hK K0
      try simp only[Act.put,List.setIfInBounds_toArray,List.set_cons_zero,List.set_cons_succ]
      have S3:=Lib.hid (S2.out.below ((Below.refl _ _).alloc (Nat.le_refl _) (.cells #[.slice (some ⟨g,0,none⟩) 32 cap] 22)))
      have B3:=Lib.hid (B2.out.alloc B2.out.size (.cells #[.slice (some ⟨g,0,none⟩) 32 cap] 22))
      have A3:=Lib.hid (A2.out.below ((Below.refl _ _).alloc (Nat.le_refl _) (.cells #[.slice (some ⟨g,0,none⟩) 32 cap] 22)))
      have SL3:=Lib.hid (Sl.new_ w2 22 [.slice (some ⟨g,0,none⟩) 32 cap])
      rw[show([.slice (some ⟨g,0,none⟩) 32 cap]:List Value).toArray = #[.slice (some ⟨g,0,none⟩) 32 cap] from rfl,show([.slice (some ⟨g,0,none⟩) 32 cap]:List Value).length=1 from rfl] at SL3
      generalize w2.alloc (.cells #[.slice (some ⟨g,0,none⟩) 32 cap] 22)=w3 at S3 B3 A3 SL3 ⊢
      have qcell3:=(one_cell S3.out.qc).1
      clear qcell2
      refine wpAnyH_ready (rs:=[0]) (by kernel_rfl) (by simp) ?_
      refine cons_l rfl (fun K0 hK=>?_) ?_
      ·go_simp
       refine hK.out _ _ trivial (fun _=>?_)
       clear hK K0
       try simp only[Act.put,List.setIfInBounds_toArray,List.set_cons_zero,List.set_cons_succ]
       refine wpAnyH_ready (rs:=[6]) (by kernel_rfl) (by simp) ?_
       refine cons_l rfl (fun K0 hK=>?_) ?_
       ·refine step_append_sl rfl _ _ 23 rfl b1 22 i0 _ 24 Tryd.underlying23 hi hz0 hz1 hz2 rfl T1 us1.length (us1.map rwv) rfl S3.out.row.own (some ⟨w2.heap.size,0,none⟩) 1 1 [.slice (some ⟨g,0,none⟩) 32 cap] rfl (fun h=>by cases h) SL3.out (fun u hu=>by simp at hu;subst hu;rfl) (by have:=U1.out;unfold maxLen;omega) (by have:=U1.out;omega) S3.out.le ?_
        intro v4 w4 hown4 hgrow4
        have PF:=Lib.hid (S3.out.put (r:=(some ⟨g,0,none⟩,32,cap,t2)) A3.out hown4 hgrow4)
        have G4:=Lib.hid (S3.out.q_grown hgrow4)
        have B5:=Lib.hid (((B3.out.grown hgrow4 B3.out.size (fun k hk=>by have:=own_rows S3.out.row.own k hk;have:=S3.out.q1;omega))).setCell (p:=⟨Q,0,none⟩) hbQ v4)
        obtain⟨A4,c4,rfl,-, -, -, -, -⟩:=Sl.own hown4
        have qcell4:=(one_cell G4.out).1
        have qfree4:=(one_cell G4.out).2
        clear hown4 hgrow4
        refine hK.out _ _ trivial (fun _=>?_)
        clear hK K0
        try simp only[Act.put,List.setIfInBounds_toArray,List.set_cons_zero,List.set_cons_succ]
        refine wpAnyH_ready (rs:=[7]) (by kernel_rfl) (by simp) ?_
        refine cons_l rfl (fun K0 hK=>?_) ?_
        ·go_simp
         refine hK.out _ _ trivial (fun _=>?_)
         clear hK K0
         try simp only[Act.put,List.setIfInBounds_toArray,List.set_cons_zero,List.set_cons_succ]
         refine wpAnyH_done (by kernel_rfl) ?_ _
         generalize w4.setCell ⟨Q,0,none⟩ (.slice A4 (us1.length+1) c4)=w5 at PF B5 ⊢
         go_wp2_with fail
         first|go_end0|refine bodyPost_ret (results_none rfl _ _ _) rfl ?_
         exact⟨rfl,_,_,PF.out,by rw[←List.append_assoc,←C1.out];simp[con],B5.out⟩
        exact AllReadyH.nil
       exact AllReadyH.nil
      exact AllReadyH.nil
     exact AllReadyH.nil
    exact AllReadyH.nil
  ·obtain rfl:m=1:=by omega
   have E:=Lib.hid (show pathL (con P) k=[] from pathL_one (by rw[con_len,hl];omega) k)
   rw[E.out]
   have HS:=Lib.hid hS
   have HB:=Lib.hid hb
   clear ih hP ts E hS hb hl
   go_enter Tryd.func43,Tryd.ntmps43
   go_wp2_with fail
   first|go_end0|refine bodyPost_ret (results_none rfl _ _ _) rfl ?_
   exact⟨rfl,T,us,HS.out,by simp,HB.out⟩
end Go.Proofs.YtcnlmekjcffohaaDoor.Mk
