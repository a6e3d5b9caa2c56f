/- Joined texts. -/
import Derived.Deep.RegionHeld3
import Derived.Deep.QuietTactic
import Derived.BigQuiet
import Derived.Test.YtnnfpmebopgogaaDoorQrMpUp0
import Derived.Test.YtnnfpmebopgogaaDoorQrMpCheck
import Derived.Deep.LoopGhost
import Derived.Laws.EntriesVeiled
import Derived.Test.YtnnfpmebopgogaaDoorQrMpRTop
import Derived.Test.YtnnfpmebopgogaaDoorQrMpTop
set_option linter.unusedVariables false
namespace Go.Proofs.YtnnfpmebopgogaaDoor.Mk
open Go.RowKit Go.Proofs.YtnnfpmebopgogaaDoor.Gn Go.Proofs.YtnnfpmebopgogaaDoor.Fd Go.Deep
def SizeQ(P:List Rw)(m most:Nat)(w:World)(e:Ending)(w':World):Prop:=∃S:Nat,e=.returned (.int .i64 (S:Int))∧(S≤most→m≤S∧∀r∈P,r.2.1≤S)∧S≤140737488360000∧w=w'
set_option maxHeartbeats 1000000 in
theorem rsize_any{w:World}{B:Option Addr}{m c:Nat}{P:List Rw}(hs:Sl w B m (P.map rwv))(hl:∀r∈P,r.2.1≤140737488351232)(hm:m≤9223372036854775807)(most:Nat)(hmost:most≤1500) :
  Calls Tryd.prog 7 #[.slice B m c,.int .i64 (most:Int)] w (SizeQ P m most w):=by
 have HS:=Lib.hid hs
 have HL:=Lib.hid hl
 have PL:=Lib.hid (show P.length=m from by have:=hs.1;rwa [List.length_map] at this)
 clear hs hl
 go_enter Tryd.func7,Tryd.ntmps7
 go_wp2_with fail
 go_loopg [5,6] m (fun g1 vs vi wr=>∃(S i:Nat),vs=.int .i64 (S:Int)∧vi=.int .i64 i∧i≤m∧m - i≤g1∧S≤140737488360000∧i≤S∧Hid (∀r∈P.take i,r.2.1≤S)∧w=wr)
 case atStart=>exact⟨0,0,rfl,rfl,Nat.zero_le _,by omega,by omega,Nat.le_refl _,Lib.hid (fun r h=>by simp at h),rfl⟩
 case round =>
  obtain⟨S,i,rfl,rfl,him,hg,hS,hiS,HA,rfl⟩:=hrel
  by_cases hlt:i < m
  ·have q0:(i:Int) < (m:Int):=by omega
   by_cases hle:S≤most
   ·have q1:(S:Int)≤(most:Int):=by omega
    have hl0:i < P.length:=by have:=PL.out;omega
    obtain⟨l,hl⟩:∃l,P[i]?=some l:=⟨P[i],List.getElem?_eq_getElem hl0⟩
    have hlm:=HL.out l (List.mem_of_getElem? hl)
    obtain⟨ad,hB,c1⟩:=HS.out.at_ hlt
    rw[List.getElem?_map,hl] at c1
    obtain⟨L,nl,cl,y⟩:=l
    have c1':w.cell? (ad.add i)=some (.slice L nl cl):=c1
    change nl≤_ at hlm
    have HT:=Lib.hid (show ∀r∈P.take (i+1),r.2.1≤S+1+nl from fun r hr=>by
     rw[List.take_add_one,hl] at hr
     rcases List.mem_append.1 hr with h|h
     ·have:=HA.out r h;omega
     ·have:r=(L,nl,cl,y):=by simpa using h
      subst this
      show nl≤_
      omega)
    obtain⟨S2,hS2⟩:∃z,z=S+1+nl:=⟨_,rfl⟩
    have e1:(S:Int)+1+(nl:Int)=(S2:Int):=by omega
    rw[←hS2] at HT
    have hS3:S2≤140737488360000:=by omega
    have hS4:i+1≤S2:=by omega
    subst hB
    clear c1 hl hl0 hS2
    go_wp2_with fail
    go_roundg (m - (i+1))
    case measure=>omega
    case rel=>exact⟨S2,i+1,rfl,by go_num,by omega,Nat.le_refl _,hS3,hS4,HT,rfl⟩
   ·have q1:¬(S:Int)≤(most:Int):=by omega
    go_wp2_with fail
    go_ret
    exact⟨S,rfl,fun h=>by omega,hS,rfl⟩
  ·have q0:¬(i:Int) < (m:Int):=by omega
   go_wp2_with fail
   go_ret
   refine⟨S,rfl,fun h=>⟨by omega,fun r hr=>HA.out r ?_⟩,hS,rfl⟩
   rw[List.take_of_length_le (by have:=PL.out;omega)]
   exact hr
end Go.Proofs.YtnnfpmebopgogaaDoor.Mk
namespace Go.Proofs.YtnnfpmebopgogaaDoor.Mk
open Go.RowKit Go.Proofs.YtnnfpmebopgogaaDoor.Gn Go.Proofs.YtnnfpmebopgogaaDoor.Fd Go.Deep
set_option maxHeartbeats 4000000 in
set_option maxRecDepth 100000 in
theorem rok_any{B:Option Addr}{m c:Nat}{P:List Rw}{w:World}(hP:PAny w B m c P)(Z:Int)(hZ:Z=if all32 P=true then 0 else 1) :
  Calls Tryd.prog 41 #[.slice B m c] w fun e w'=>e=.returned (.int .i64 Z)∧w=w':=by
 have HP:=Lib.hid hP
 have PL:=Lib.hid hP.len
 have hm:=hP.few
 have HZ:=Lib.hid hZ
 clear hP hZ
 go_enter Tryd.func41,Tryd.ntmps41
 go_wp2_with fail
 go_loopg [3] m (fun g1 vi wr=>∃(i:Nat),vi=.int .i64 i∧i≤m∧m - i≤g1∧Hid (∀r∈P.take i,r.2.1=32)∧w=wr)
 case atStart=>exact⟨0,rfl,Nat.zero_le _,by omega,Lib.hid (fun r h=>by simp at h),rfl⟩
 case round =>
  obtain⟨i,rfl,him,hg,HA,rfl⟩:=hrel
  by_cases hlt:i < m
  ·have q0:(i:Int) < (m:Int):=by omega
   have hl0:i < P.length:=by have:=PL.out;omega
   obtain⟨l,hl⟩:∃l,P[i]?=some l:=⟨P[i],List.getElem?_eq_getElem hl0⟩
   obtain⟨ad,hB,c1⟩:=HP.out.row.at_ hlt
   rw[List.getElem?_map,hl] at c1
   have hTT:=take_all (p:=fun r:Rw=>r.2.1=32) HA.out hl
   have HN:=Lib.hid (fun h:l.2.1≠32=>all32_no (List.mem_of_getElem? hl) h)
   obtain⟨L,nl,cl,y⟩:=l
   have c1':w.cell? (ad.add i)=some (.slice L nl cl):=c1
   have HT:=Lib.hid (show nl=32→∀r∈P.take (i+1),r.2.1=32 from hTT)
   subst hB
   clear c1 hl hl0 hTT
   by_cases h32:nl=32
   ·have q1:((nl:Int) != 32)=false:=by rw[h32];rfl
    have HT2:=Lib.hid (HT.out h32)
    clear h32 HT
    go_wp2_with fail
    go_roundg (m - (i+1))
    case measure=>omega
    case rel=>exact⟨i+1,by go_num,by omega,Nat.le_refl _,HT2,rfl⟩
   ·have q1:((nl:Int) != 32)=true:=by rw[bne_iff_ne];omega
    have HZ1:=Lib.hid (show Z=1 from by rw[HZ.out,if_neg (by rw[HN.out h32];decide)])
    clear h32 HT
    go_wp2_with fail
    go_ret
    exact⟨by rw[HZ1.out];rfl,rfl⟩
  ·have q0:¬(i:Int) < (m:Int):=by omega
   have HZ1:=Lib.hid (show Z=0 from by
    rw[HZ.out,if_pos]
    unfold all32
    rw[List.all_eq_true]
    intro r hr
    refine decide_eq_true (HA.out r ?_)
    rw[List.take_of_length_le (by have:=PL.out;omega)]
    exact hr)
   go_wp2_with fail
   go_ret
   exact⟨by rw[HZ1.out];rfl,rfl⟩
end Go.Proofs.YtnnfpmebopgogaaDoor.Mk
