/- Joined texts. -/
import Derived.RangeFuncNested
import Derived.RangeFuncBound
import Derived.RangeFuncCalls
import Derived.RangeFuncLeaves
import Derived.RangeFuncBox
import Derived.Shelf.Abstract
import Derived.Shelf.RegionOpen
import Derived.WalkKit
import Derived.OwnWalkIn
import Derived.TacticsInMore
import Derived.LoopNIn
import Derived.LoopIn
import Derived.Maps.AppendAt
import Derived.Test.YtnnfpmebopgogaaDoorQrGnFreeB
set_option linter.unusedVariables false
namespace Go.Proofs.YtnnfpmebopgogaaDoor.Mk
open Go.RowKit Go.Proofs.YtnnfpmebopgogaaDoor.Gn Go.Proofs.YtnnfpmebopgogaaDoor.Fd Go.Deep
attribute [local go_sem] Oper.semAt_some
def ckl(L q i:Nat):Nat:=min q (L - i*q)
def ckv(ad:Addr)(L q i:Nat):Value:=.slice (some (ad.add (i*q))) (ckl L q i) (ckl L q i)
set_option maxRecDepth 100000 in
set_option maxHeartbeats 2000000 in
theorem Chunk_any(A:Option Addr)(L c q:Nat)(hq:1≤q)(hq2:q≤1024)(w:World) :
  Calls Tryd.prog 70 #[.slice A L c,.int .i64 (q:Int)] w fun e w'=>e=.returned (.func (.func 87) #[] #[.pointer (some ⟨w.heap.size,0,none⟩),.pointer (some ⟨w.heap.size+1,0,none⟩)])∧w'=(w.alloc (.cells #[.slice A L c] 22)).alloc (.cells #[.int .i64 (q:Int)] 3):=by
 go_enter Tryd.func70,Tryd.ntmps70
 go_wp2_with fail
 go_ret
 exact⟨rfl,rfl⟩
def Kb(Bs Bc:Nat)(X Y:World):Prop:=Y.heap[Bs]?=X.heap[Bs]?∧Y.heap[Bc]?=X.heap[Bc]?
theorem Kb.refl(Bs Bc:Nat)(X:World):Kb Bs Bc X X:=⟨rfl,rfl⟩
theorem Kb.trans{Bs Bc:Nat}{X Y Z:World}(h:Kb Bs Bc X Y)(k:Kb Bs Bc Y Z):Kb Bs Bc X Z:=⟨k.1.trans h.1,k.2.trans h.2⟩
theorem boxed_kb1{Bs Bc:Nat}{X Y:World}{t:TypeId}{v:Value}(h:Boxed X Bs t v)(k:Kb Bs Bc X Y):Boxed Y Bs t v:=k.1.trans h
theorem boxed_kb2{Bs Bc:Nat}{X Y:World}{t:TypeId}{v:Value}(h:Boxed X Bc t v)(k:Kb Bs Bc X Y):Boxed Y Bc t v:=k.2.trans h
set_option maxRecDepth 100000 in
set_option maxHeartbeats 4000000 in
theorem chunk1_in(l Bs Bc:Nat)(ad:Addr)(L c q m:Nat)(hq:1≤q)(hq2:q≤1024)(hL:L≤131072)(hLc:L≤c)(hm1:∀i,i < m→i*q < L)(hm2:L≤m*q)(J Jx:List (Fin m)→World→Prop)(n:Nat)(hn:1≤n)(hJa:∀s X Y,J s X→X.grownBy Y none→J s Y)
  (hY:∀pre (x:Fin m) W,J pre W→pre.length < m→YieldAt Fence.wide (n - 1) Tryd.prog l #[ckv ad L q x.1] W fun e W'=>(e=.returned (.bool true)∧J (pre ++ [x]) W'∧Kb Bs Bc W W')∨(e=.returned (.bool false)∧Jx (pre ++ [x]) W'))
  (W:World) (hs:Boxed W Bs 22 (.slice (some ad) L c)) (hc:Boxed W Bc 3 (.int .i64 (q:Int))) (h0:J [] W) :
  CallsIn Fence.wide n Tryd.prog 87 #[.func (.yield l) #[] #[],.pointer (some ⟨Bs,0,none⟩),.pointer (some ⟨Bc,0,none⟩)] W fun e W'=>(∃v,e=.returned v) ∧
   ((∃ys,ys=List.finRange m∧J ys W')∨(∃pre,pre <+: List.finRange m∧Jx pre W')):=by
 refine callsIn_of_wp Tryd.func87 rfl trivial ?_ rfl
 simp only[Tryd.ntmps87,List.size_toArray,List.length_cons,List.length_nil,Nat.reduceAdd,Nat.reduceSub,Array.replicate_succ,Array.replicate_zero,List.push_toArray,List.append_toArray,List.nil_append,List.cons_append]
 gi_wp2
 gi_loopw [4] (fun i wr=>∃k:Nat,k≤m∧i=.int .i64 ((k*q:Nat):Int)∧J ((List.finRange m).take k) wr∧Kb Bs Bc W wr) (fun i _=>m*q+q - (intOf i).toNat)
 case atStart=>exact⟨0,Nat.zero_le _,by simp,by simpa using h0,Kb.refl _ _ _⟩
 case round =>
  obtain⟨k,hk,rfl,hJ,hK⟩:=hrel
  have bs:=boxed_kb1 hs hK
  have bc:=boxed_kb2 hc hK
  have cs:=Boxed.cell bs
  have cc:=Boxed.cell bc
  by_cases hlt:k < m
  ·obtain⟨p,hp⟩:∃p,k*q=p:=⟨_,rfl⟩
   have hpL:p < L:=by rw[←hp];exact hm1 k hlt
   obtain⟨e,he⟩:∃e,ckl L q k=e:=⟨_,rfl⟩
   have he2:e≤L - p:=by rw[←he];unfold ckl;rw[hp];exact Nat.min_le_right _ _
   have he1:0 < e:=by rw[←he];unfold ckl;rw[hp];omega
   have heq:e≤q:=by rw[←he];unfold ckl;exact Nat.min_le_left _ _
   have HIF:=Lib.hid (show(if L - p < q then((L - p:Nat):Int) else(q:Int))=(e:Int) by rw[←he];unfold ckl;rw[hp];split <;> omega)
   have HNX:=Lib.hid (show(k+1)*q=p+q by rw[Nat.succ_mul,hp])
   have HMQ:=Lib.hid (show p+q≤m*q by rw[←hp,←Nat.succ_mul];exact Nat.mul_le_mul_right _ hlt)
   have HY:=Lib.hid (fun W1 (hJ1:J ((List.finRange m).take k) W1)=>by
    have:=hY _ ⟨k,hlt⟩ W1 hJ1 (by rw[List.length_take,List.length_finRange];omega)
    unfold ckv at this
    dsimp only at this
    rw[hp,he] at this
    exact this)
   have HTK:=Lib.hid (show(List.finRange m).take (k+1)=(List.finRange m).take k ++ [⟨k,hlt⟩] by
    rw[List.take_succ_eq_append_getElem (by rw[List.length_finRange];exact hlt),List.getElem_finRange];rfl)
   have HJ:=Lib.hid (fun nq=>hJa _ wr (wr.drewN nq) hJ ⟨rfl,rfl,rfl,Nat.le_refl _,fun _ _ _=>rfl⟩)
   have HKD:=Lib.hid (fun nq=>show Kb Bs Bc W (wr.drewN nq) from hK)
   rw[hp]
   clear hp he hJ hK
   gi_wp2
   refine wpIn_wide.2 ?_
   go_quiet (fail)
   rw[HIF.out]
   have J2:=Lib.hid (HJ.out nq)
   have K2:=Lib.hid (HKD.out nq)
   generalize wr.drewN nq=w2 at J2 K2 ⊢
   have bs2:=boxed_kb1 hs K2.out
   have bc2:=boxed_kb2 hc K2.out
   have cs2:=Boxed.cell bs2
   have cc2:=Boxed.cell bc2
   clear cs cc bs bc HJ HKD
   obtain⟨fn,tmps,assign,body,hy,hR⟩:=HY.out w2 J2.out
   gi_wp2
   refine hR.mono ?_
   rintro e3 W3 (⟨rfl,hJ3,hk3⟩|⟨rfl,hJx3⟩)
   ·have bs3:=boxed_kb1 bs2 hk3
    have bc3:=boxed_kb2 bc2 hk3
    have cs3:=Boxed.cell bs3
    have cc3:=Boxed.cell bc3
    have J3:=Lib.hid hJ3
    have K3:=Lib.hid (K2.out.trans hk3)
    have NPQ:=HNX.out
    clear hJ3 hk3 cs2 cc2
    have HN2:=Lib.hid NPQ
    clear NPQ
    gi_wp2
    refine⟨⟨k+1,by omega,by rw[HN2.out];simp,by rw[HTK.out];exact J3.out,K3.out⟩,?_⟩
    have:=HMQ.out
    simp[intOf];omega
   ·have JX:=Lib.hid hJx3
    clear hJx3
    gi_wp2
    refine bodyPost_ret (results_none rfl _ _ _) rfl ?_
    exact⟨⟨_,rfl⟩,.inr ⟨_,⟨(List.finRange m).drop (k+1),by rw[←HTK.out,List.take_append_drop]⟩,JX.out⟩⟩
  ·obtain rfl:k=m:=by omega
   rw[List.take_of_length_le (by rw[List.length_finRange];exact Nat.le_refl _)] at hJ
   have JJ:=Lib.hid hJ
   obtain⟨p,hp⟩:∃p,k*q=p:=⟨_,rfl⟩
   rw[hp] at hm2 ⊢
   clear hp hJ hK
   gi_wp2
   go_end0
   exact⟨⟨_,rfl⟩,.inl ⟨_,rfl,JJ.out⟩⟩
end Go.Proofs.YtnnfpmebopgogaaDoor.Mk
