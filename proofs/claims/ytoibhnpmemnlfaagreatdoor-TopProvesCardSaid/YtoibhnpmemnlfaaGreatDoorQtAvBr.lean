/- Joined texts. -/
import Derived.Test.YtoibhnpmemnlfaaGreatDoorQtRaA
import Derived.Test.YtoibhnpmemnlfaaGreatDoorQtAvN
import Derived.Test.YtoibhnpmemnlfaaGreatDoorQtFaE
set_option linter.unusedVariables false
namespace Go.Proofs.YtoibhnpmemnlfaaGreatDoor.Av
open Go.RowKit Go.Proofs.YtoibhnpmemnlfaaGreatDoor.Gn Go.Proofs.YtoibhnpmemnlfaaGreatDoor.Fd Go.Deep
theorem ownY_rep{w w':World}{e:Ending}{l:List Nat}{O:Nat→Prop}(hm:l.length≤maxLen)(h:∃g,e=.returned (.slice (some ⟨g,0,none⟩) l.length l.length)∧w.heap.size≤g∧Bl w' g 5 (bl l).toArray∧Below w.heap.size w w') :
  ∃v n us,e=.returned v∧Row w' 5 1 v n us false∧us.length=((bl l).map DV.lit).length∧DV.reps (fun b=>O b∨blk v=some b) w' ((bl l).map DV.lit) 0 (fun i u=>us[i]?=some u)∧(∀b,blk v=some b→w.heap.size≤b)∧(∃A n c,v=.slice A n c)∧Below w.heap.size w w':=by
 obtain⟨g,h1,h2,h3,h4⟩:=h
 have hr:=row_bl (l:=bl l) (ni:=false) h3 (by simpa[bl] using hm) (fun h=>by cases h)
 rw[show(bl l).length=l.length by simp[bl]] at hr
 refine⟨_,_,bl l,h1,hr,by simp,reps_iff.2 fun j x hj=>?_,fun b hb=>?_,⟨_,_,_,rfl⟩,h4⟩
 ·rw[List.getElem?_map] at hj
  cases hq:(bl l)[j]? with
  |none=>rw[hq] at hj;cases hj
  |some v=>rw[hq] at hj;cases hj;exact⟨v,by rw[Nat.zero_add];exact hq,rfl⟩
 ·cases hb;exact h2
theorem by_le(n m:Nat)(h:m≤1000):(by_ n m).length≤maxLen:=by
 rw[show(by_ n m).length=m from Fd.by_length n m];unfold maxLen;omega
end Go.Proofs.YtoibhnpmemnlfaaGreatDoor.Av
