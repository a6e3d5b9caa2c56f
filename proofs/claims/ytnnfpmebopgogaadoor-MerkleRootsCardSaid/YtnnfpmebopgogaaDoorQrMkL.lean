/- Joined texts. -/
import Derived.IntWalk
import Derived.Test.YtnnfpmebopgogaaDoorQrPuA
import Derived.Test.YtnnfpmebopgogaaDoorQrCkA
set_option linter.unusedVariables false
namespace Go.Proofs.YtnnfpmebopgogaaDoor.Mk
open Go.RowKit Go.Proofs.YtnnfpmebopgogaaDoor.Gn Go.Deep
set_option maxRecDepth 100000 in
theorem Count_arg(s c:Int)(h:s < 0∨c < 64∨1024 < c)(hs : -9223372036854775808≤s∧s≤9223372036854775807)(hc : -9223372036854775808≤c∧c≤9223372036854775807)(w:World) :
  Calls Tryd.prog 30 #[.int .i64 s,.int .i64 c] w fun e w'=>e=.returned (.tuple #[.int .i64 0,.int .i64 1])∧w=w':=by
 by_cases h1:s < 0
 ·clear h
  go_enter Tryd.func30,Tryd.ntmps30
  go_wp2_with fail
  go_ret2
  exact⟨rfl,rfl⟩
 ·by_cases h2:c < 64
  ·clear h
   go_enter Tryd.func30,Tryd.ntmps30
   go_wp2_with fail
   go_ret2
   exact⟨rfl,rfl⟩
  ·have h3:1024 < c:=by omega
   clear h
   go_enter Tryd.func30,Tryd.ntmps30
   go_wp2_with fail
   go_ret2
   exact⟨rfl,rfl⟩
set_option maxRecDepth 100000 in
theorem Count_ok(s c:Int)(hc:64≤c∧c≤1024)(hs:0≤s∧s≤131072)(w:World) :
  Calls Tryd.prog 30 #[.int .i64 s,.int .i64 c] w fun e w'=>e=.returned (.tuple #[.int .i64 ((s+c - 1) / c),.int .i64 0])∧w=w':=by
 obtain⟨h1,h2⟩:=hc
 obtain⟨h3,h4⟩:=hs
 obtain⟨q,hq⟩:∃q,(s+c - 1) / c=q:=⟨_,rfl⟩
 have q0:0≤q:=by rw[←hq];exact Int.ediv_nonneg (by omega) (by omega)
 have q1:q≤s+c - 1:=by rw[←hq];exact Int.ediv_le_self _ (by omega)
 rw[hq]
 go_enter Tryd.func30,Tryd.ntmps30
 go_wp2_with fail
 go_ret2
 exact⟨congrArg (fun z=>Ending.returned (.tuple #[.int .i64 z,.int .i64 0])) hq,rfl⟩
end Go.Proofs.YtnnfpmebopgogaaDoor.Mk
namespace Go.Proofs.YtnnfpmebopgogaaDoor.Mk
open Go.RowKit Go.Proofs.YtnnfpmebopgogaaDoor.Gn Go.Proofs.YtnnfpmebopgogaaDoor.Fd Go.Deep
attribute [local go_sem] Oper.semAt_some
set_option maxRecDepth 100000 in
set_option maxHeartbeats 2000000 in
theorem chunk0_in(l Bs Bc:Nat)(A:Option Addr)(c q:Nat)(J Jx:List (Fin 0)→World→Prop)(n:Nat)(hn:1≤n)
  (W:World) (hs:Boxed W Bs 22 (.slice A 0 c)) (h0:J [] W) :
  CallsIn Fence.wide n Tryd.prog 87 #[.func (.yield l) #[] #[],.pointer (some ⟨Bs,0,none⟩),.pointer (some ⟨Bc,0,none⟩)] W fun e W'=>(∃v,e=.returned v) ∧
   ((∃ys,ys=List.finRange 0∧J ys W')∨(∃pre,pre <+: List.finRange 0∧Jx pre W')):=by
 refine callsIn_of_wp Tryd.func87 rfl trivial ?_ rfl
 simp only[Tryd.ntmps87,List.size_toArray,List.length_cons,List.length_nil,Nat.reduceAdd,Nat.reduceSub,Array.replicate_succ,Array.replicate_zero,List.push_toArray,List.append_toArray,List.nil_append,List.cons_append]
 gi_wp2
 gi_loopw [4] (fun i wr=>i=.int .i64 0∧wr=W) (fun _ _=>0)
 case atStart=>exact⟨rfl,rfl⟩
 case round =>
  obtain⟨rfl,rfl⟩:=hrel
  have cs:=Boxed.cell hs
  gi_wp2
  go_end0
  exact⟨⟨_,rfl⟩,.inl ⟨_,rfl,by simpa using h0⟩⟩
def ck(l:List Nat)(q i:Nat):List Nat:=(l.drop (i*q)).take q
theorem ck_len(l:List Nat)(q i:Nat):(ck l q i).length=ckl l.length q i:=by unfold ck ckl;rw[List.length_take,List.length_drop]
theorem ck_pc{w:World}{ad:Addr}{L c q i:Nat}{l:List Nat}(h:Pc w (some ad,L,c,l))(hi:i*q < L):Pc w (some (ad.add (i*q)),ckl L q i,ckl L q i,ck l q i):=by
 obtain rfl:L=l.length:=h.len
 have hr:Sl w (some ad) l.length (bl l):=h.row
 have hcap:l.length≤c:=h.cap
 have el:=ck_len l q i
 unfold ckl at el ⊢
 unfold ck at el ⊢
 generalize i*q=p at hi el ⊢
 have h1:=hr.drop_ p (by omega) hcap
 rw[if_neg (by omega)] at h1
 have h2:=h1.take_ (min q (l.length - p)) (Nat.min_le_right _ _)
 rw[bl_drop,bl_take] at h2
 have e:(l.drop p).take (min q (l.length - p))=(l.drop p).take q:=by
  rcases Nat.le_total q (l.length - p) with h|h
  ·rw[Nat.min_eq_left h]
  ·rw[Nat.min_eq_right h,List.take_of_length_le (by rw[List.length_drop];exact Nat.le_refl _),List.take_of_length_le (by rw[List.length_drop];exact h)]
 rw[e] at h2
 refine⟨el.symm,?_,fun x hx=>h.lt x (List.mem_of_mem_drop (List.mem_of_mem_take hx)),Nat.le_of_eq el,fun e=>by cases e⟩
 show Sl w _ ((l.drop p).take q).length _
 rw[el]
 exact h2
def Cb(W:World)(base:Nat)(r:Rw):Prop :=
 ∃g cur,r.1=some ⟨g,0,none⟩∧r.2.1=r.2.2.2.length∧Bl W g 5 cur∧cur.toList.take r.2.2.2.length=bl r.2.2.2∧r.2.2.2.length≤r.2.2.1∧(∀x∈r.2.2.2,x < 256)∧base≤g
theorem Cb.pc{W:World}{base:Nat}{r:Rw}(h:Cb W base r):Pc W r:=by
 obtain⟨g,cur,h1,h2,h3,h4,h5,h6,h7⟩:=h
 refine⟨h2,?_,h6,h5,fun e=>by rw[h1] at e;cases e⟩
 rw[h1]
 refine Sl.of_bl h3 0 _ _ (by rw[bl_length]) fun k v hk=>?_
 rw[Nat.zero_add]
 have hkl:k < r.2.2.2.length:=by have:=(List.getElem?_eq_some_iff.1 hk).1;rwa [bl_length] at this
 rw[←h4,List.getElem?_take,if_pos hkl] at hk
 rwa [Array.getElem?_toList] at hk
theorem Cb.keep{W W':World}{base:Nat}{r:Rw}(h:Cb W base r){row:Option Nat}(hg:W.grownBy W' row)(hr:∀j cs,row=some j→W.heap[j]?≠some (.cells cs 5 (0,0))):Cb W' base r:=by
 obtain⟨g,cur,h1,h2,h3,h4,h5,h6,h7⟩:=h
 exact⟨g,cur,h1,h2,(hg.block g (Array.getElem?_eq_some_iff.1 h3).1 (fun e=>hr g cur e.symm h3)).trans h3,h4,h5,h6,h7⟩
def CutI(g B:Nat)(l:List Nat)(q m b:Nat)(w0:World)(pre:List (Fin m))(W:World):Prop :=
 ∃rows:List Rw,Boxed W B 23 (.slice (some ⟨g,0,none⟩) pre.length m)∧W.ownsRow w0.heap.size 22 1 (.slice (some ⟨g,0,none⟩) pre.length m) pre.length (rows.map rwv)∧rows.map (·.2.2.2)=pre.map (fun i=>ck l q i.1)∧(∀r∈rows,Cb W w0.heap.size r)∧Below w0.heap.size w0 W∧b≤W.heap.size
theorem CutI.own{g B:Nat}{l:List Nat}{q m b:Nat}{w0:World}(hb:w0.heap.size≤b):OwnFrom b (CutI g B l q m b w0):=by
 rintro pre X Y row ⟨rows,h1,h2,h3,h4,h5,h6⟩ hg hr
 have nc:∀j cs t fz,X.heap[j]?=some (.cells cs t fz)→some j≠row:=by
  rintro j cs t fz hj e
  obtain⟨-, o,ho,hc⟩:=hr j e.symm
  rw[hj] at ho;cases ho;cases hc
 refine⟨rows,Boxed.kept h1 hg (nc _ _ _ _ h1),h2.kept hg (.inr ?_),h3,fun r hr'=>(h4 r hr').keep hg ?_,h5.grown hg h5.size (fun k e=>Nat.le_trans hb (hr k e).1),Nat.le_trans h6 hg.size⟩
 ·obtain⟨-, h|⟨g',cap,cur,e,-, hh,-⟩⟩:=h2
  ·cases h.1
  ·cases e
   exact nc _ _ _ _ hh
 ·rintro j cs e hj
  exact nc j _ _ _ hj e.symm
end Go.Proofs.YtnnfpmebopgogaaDoor.Mk
