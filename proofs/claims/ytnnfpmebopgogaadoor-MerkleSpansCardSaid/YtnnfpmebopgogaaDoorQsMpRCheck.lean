/- Joined texts. -/
import Derived.Deep.RegionHeld3
import Derived.Deep.QuietTactic
import Derived.BigQuiet
import Derived.Test.YtnnfpmebopgogaaDoorQsMpUp0
import Derived.Test.YtnnfpmebopgogaaDoorQsMpCheck
import Derived.Deep.LoopGhost
import Derived.Test.YtnnfpmebopgogaaDoorQsMpPath
set_option linter.unusedVariables false
namespace Go.Proofs.YtnnfpmebopgogaaDoor.Mk
open Go.RowKit Go.Proofs.YtnnfpmebopgogaaDoor.Gn Go.Proofs.YtnnfpmebopgogaaDoor.Fd Go.Deep
def SizeQ(P:List Rw)(m most:Nat)(w:World)(e:Ending)(w':World):Prop:=∃S:Nat,e=.returned (.int .i64 (S:Int))∧(S≤most→m≤S∧∀r∈P,r.2.1≤S)∧S≤140737488360000∧w=w'
set_option maxHeartbeats 1000000 in
theorem rsize_any{w:World}{B:Option Addr}{m c:Nat}{P:List Rw}(hs:Sl w B m (P.map rwv))(hl:∀r∈P,r.2.1≤140737488351232)(hm:m≤9223372036854775807)(most:Nat)(hmost:most≤1500) :
  Calls Tryd.prog 7 #[.slice B m c,.int .i64 (most:Int)] w (SizeQ P m most w):=by
 have HS:=Lib.hid hs
 have HL:=Lib.hid hl
 have PL:=Lib.hid (show P.length=m from by have:=hs.1;rwa [List.length_map] at this)
 clear hs hl
 go_enter Tryd.func7,Tryd.ntmps7
 go_wp2_with fail
 go_loopg [5,6] m (fun g1 vs vi wr=>∃(S i:Nat),vs=.int .i64 (S:Int)∧vi=.int .i64 i∧i≤m∧m - i≤g1∧S≤140737488360000∧i≤S∧Hid (∀r∈P.take i,r.2.1≤S)∧w=wr)
 case atStart=>exact⟨0,0,rfl,rfl,Nat.zero_le _,by omega,by omega,Nat.le_refl _,Lib.hid (fun r h=>by simp at h),rfl⟩
 case round =>
  obtain⟨S,i,rfl,rfl,him,hg,hS,hiS,HA,rfl⟩:=hrel
  by_cases hlt:i < m
  ·have q0:(i:Int) < (m:Int):=by omega
   by_cases hle:S≤most
   ·have q1:(S:Int)≤(most:Int):=by omega
    have hl0:i < P.length:=by have:=PL.out;omega
    obtain⟨l,hl⟩:∃l,P[i]?=some l:=⟨P[i],List.getElem?_eq_getElem hl0⟩
    have hlm:=HL.out l (List.mem_of_getElem? hl)
    obtain⟨ad,hB,c1⟩:=HS.out.at_ hlt
    rw[List.getElem?_map,hl] at c1
    obtain⟨L,nl,cl,y⟩:=l
    have c1':w.cell? (ad.add i)=some (.slice L nl cl):=c1
    change nl≤_ at hlm
    have HT:=Lib.hid (show ∀r∈P.take (i+1),r.2.1≤S+1+nl from fun r hr=>by
     rw[List.take_add_one,hl] at hr
     rcases List.mem_append.1 hr with h|h
     ·have:=HA.out r h;omega
     ·have:r=(L,nl,cl,y):=by simpa using h
      subst this
      show nl≤_
      omega)
    obtain⟨S2,hS2⟩:∃z,z=S+1+nl:=⟨_,rfl⟩
    have e1:(S:Int)+1+(nl:Int)=(S2:Int):=by omega
    rw[←hS2] at HT
    have hS3:S2≤140737488360000:=by omega
    have hS4:i+1≤S2:=by omega
    subst hB
    clear c1 hl hl0 hS2
    go_wp2_with fail
    go_roundg (m - (i+1))
    case measure=>omega
    case rel=>exact⟨S2,i+1,rfl,by go_num,by omega,Nat.le_refl _,hS3,hS4,HT,rfl⟩
   ·have q1:¬(S:Int)≤(most:Int):=by omega
    go_wp2_with fail
    go_ret
    exact⟨S,rfl,fun h=>by omega,hS,rfl⟩
  ·have q0:¬(i:Int) < (m:Int):=by omega
   go_wp2_with fail
   go_ret
   refine⟨S,rfl,fun h=>⟨by omega,fun r hr=>HA.out r ?_⟩,hS,rfl⟩
   rw[List.take_of_length_le (by have:=PL.out;omega)]
   exact hr
theorem take_l{P:Program}{ops:Array Oper}{Q:Exit→Act→World→Prop}{md:Region.Mode}{S:World→Prop}(i:Nat){oi:Oper}{v:Value}{fuel:Nat}{listed:Array Bool}{a:Act}{w:World}(hi:ops.toList[i]?=some oi)
  (hs:Region.noSelect ops=true) (hf:Region.free md ops listed i=true) (hr:(Region.ready md ops listed).contains i=true)
  (hQ:∀c a w,Q (.panic c) (a.put oi.dst v) w→Q (.panic c) a w) (hy:YieldsIf P ops S oi v a) (hS:S w)
  (h:wpAnyH P md ops Q S fuel (listed.setIfInBounds i true) (a.put oi.dst v) w):wpAnyH P md ops Q S (fuel+1) listed a w :=
 wpAnyH_take (by rw[←Array.getElem?_toList];exact hi) hs hf hr hQ hy hS h
theorem cons_l{P:Program}{ops:Array Oper}{Q:Exit→Act→World→Prop}{md:Region.Mode}{S:World→Prop}{fuel:Nat}{listed:Array Bool}{a:Act}{w:World}{i:Nat}{o:Oper}{rs:List Nat}(ho:ops.toList[i]?=some o)
  (h:∀K':Act→World→Prop,Shut (∀a w,S w→(S w→wpAnyH P md ops Q S fuel (listed.setIfInBounds i true) a w)→K' a w)→if Region.wanted o (yielded ops a.tmps)=true then Oper.wp P o a w K' Q else K' (a.put o.dst undef) w)
  (hs:AllReadyH P md ops Q S fuel listed a w rs):AllReadyH P md ops Q S fuel listed a w (i :: rs) :=
 AllReadyH.cons (by rw[←Array.getElem?_toList];exact ho) h hs
end Go.Proofs.YtnnfpmebopgogaaDoor.Mk
namespace Go.Proofs.YtnnfpmebopgogaaDoor.Mk
open Go.RowKit Go.Proofs.YtnnfpmebopgogaaDoor.Gn Go.Proofs.YtnnfpmebopgogaaDoor.Fd Go.Deep
theorem one_cell{w:World}{b:Nat}{v:Value}{t:TypeId}(h:w.heap[b]?=some (.cells #[v] t (0,0))):w.cell? ⟨b,0,none⟩=some v∧w.frozen? ⟨b,0,none⟩=false:=by
 refine⟨by rw[cell_of_row _ _ _ _ _ _ h];rfl,by simp[World.frozen?,h]⟩
end Go.Proofs.YtnnfpmebopgogaaDoor.Mk
