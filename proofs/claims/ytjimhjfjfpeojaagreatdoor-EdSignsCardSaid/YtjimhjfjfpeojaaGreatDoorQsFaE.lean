/- Joined texts. -/
import Derived.Deep.DeepCutAuto
import Derived.Laws.AppendOwnNone
import Derived.LaidMore
import Derived.Lib.LaidTab
import Derived.Stop.LaidErr
import Derived.Deep.DeepHandedRow
import Derived.Test.YtjimhjfjfpeojaaGreatDoorQsFaD
import Derived.Test.YtjimhjfjfpeojaaGreatDoorCards
import Derived.Test.YtjimhjfjfpeojaaGreatDoorQsRaF
import Derived.Test.YtjimhjfjfpeojaaGreatDoorQsAvN
set_option linter.unusedVariables false
namespace Go.Proofs.YtjimhjfjfpeojaaGreatDoor.Fd
open Go.RowKit Go.Proofs.YtjimhjfjfpeojaaGreatDoor.Gn Go.Deep
theorem c5_below{w w':World}{g:Nat}{x:E5}(h:C5 w g x)(hb:Below w.heap.size w w'):C5 w' g x:=⟨keepc hb h.1,keepc hb h.2.1,keepc hb h.2.2.1,keepc hb h.2.2.2.1,keepc hb h.2.2.2.2⟩
end Go.Proofs.YtjimhjfjfpeojaaGreatDoor.Fd
namespace Go.Proofs.YtjimhjfjfpeojaaGreatDoor.Fd
open Go.RowKit Go.Proofs.YtjimhjfjfpeojaaGreatDoor.Gn Go.Deep Go.Proofs.YtjimhjfjfpeojaaGreatDoor
def Tab(w:World):Prop:=C5 w 4 (el im)
theorem Tab.below{w w':World}(h:Tab w)(hb:Below w.heap.size w w'):Tab w':=c5_below h hb
end Go.Proofs.YtjimhjfjfpeojaaGreatDoor.Fd
namespace Go.Proofs.YtjimhjfjfpeojaaGreatDoor.Av
open Go.RowKit Go.Proofs.YtjimhjfjfpeojaaGreatDoor.Gn Go.Proofs.YtjimhjfjfpeojaaGreatDoor.Fd Go.Deep
theorem ownY_rep{w w':World}{e:Ending}{l:List Nat}{O:Nat→Prop}(hm:l.length≤maxLen)(h:∃g,e=.returned (.slice (some ⟨g,0,none⟩) l.length l.length)∧w.heap.size≤g∧Bl w' g 5 (bl l).toArray∧Below w.heap.size w w') :
  ∃v n us,e=.returned v∧Row w' 5 1 v n us false∧us.length=((bl l).map DV.lit).length∧DV.reps (fun b=>O b∨blk v=some b) w' ((bl l).map DV.lit) 0 (fun i u=>us[i]?=some u)∧(∀b,blk v=some b→w.heap.size≤b)∧(∃A n c,v=.slice A n c)∧Below w.heap.size w w':=by
 obtain⟨g,h1,h2,h3,h4⟩:=h
 have hr:=row_bl (l:=bl l) (ni:=false) h3 (by simpa[bl] using hm) (fun h=>by cases h)
 rw[show(bl l).length=l.length by simp[bl]] at hr
 refine⟨_,_,bl l,h1,hr,by simp,reps_iff.2 fun j x hj=>?_,fun b hb=>?_,⟨_,_,_,rfl⟩,h4⟩
 ·rw[List.getElem?_map] at hj
  cases hq:(bl l)[j]? with
  |none=>rw[hq] at hj;cases hj
  |some v=>rw[hq] at hj;cases hj;exact⟨v,by rw[Nat.zero_add];exact hq,rfl⟩
 ·cases hb;exact h2
theorem by_le(n m:Nat)(h:m≤1000):(by_ n m).length≤maxLen:=by
 rw[show(by_ n m).length=m from Fd.by_length n m];unfold maxLen;omega
theorem c_bytes{v m:Nat}(hv:v < pp)(hm:m≤1000)(w:World):OwnAt Tryz.prog [] w 39 [num v,.lit (.int .i64 (m:Int))] 5 1 false ((bl (by_ v m)).map .lit) :=
 ⟨fun _ _=>by kernel_rfl,fun O vs hO hk hl hr=>by
  obtain⟨x,y,rfl,h1,h2⟩:=two_args hl hr
  obtain⟨A,n,c,rfl,s1,-⟩:=row_sl h1
  cases h2
  have:=Bytes_any A n c m (dg v) w (s1.1▸Nat.le_trans (dg16 hv) (by decide)) hm (dg_dg v) s1
  rw[vl_dg] at this
  exact this.mono fun e w' hr=>ownY_rep (by_le v m hm) hr⟩
end Go.Proofs.YtjimhjfjfpeojaaGreatDoor.Av
