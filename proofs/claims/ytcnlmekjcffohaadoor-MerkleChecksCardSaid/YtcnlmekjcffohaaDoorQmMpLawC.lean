/- Joined texts. -/
import Derived.Test.YtcnlmekjcffohaaDoorQmMpRCheck
import Derived.Test.YtcnlmekjcffohaaDoorQmMkW
import Derived.Test.YtcnlmekjcffohaaDoorQmGnRowsC
import Derived.LaidMore
import Derived.Lib.LaidTab
import Derived.Stop.LaidErr
import Derived.Deep.DeepHandedRow
import Derived.Test.YtcnlmekjcffohaaDoorCards
import Derived.Test.YtcnlmekjcffohaaDoorQmSaE
set_option linter.unusedVariables false
namespace Go.Proofs.YtcnlmekjcffohaaDoor.Mk
open Go.RowKit Go.Proofs.YtcnlmekjcffohaaDoor.Gn Go.Proofs.YtcnlmekjcffohaaDoor.Fd Go.Deep
theorem bl_pc{w:World}{A:Option Addr}{n c:Nat}{l:List Nat}(h:BL w A n c l):Pc w (A,n,c,l):=by
 obtain⟨h1,h2,h3,h4,h5⟩:=h
 have e:l.length=n:=by have:=h1.1;rwa [bl_length] at this
 exact⟨e.symm,by rw[show((A,n,c,l):Rw).2.2.2.length=n from e];exact h1,h3,by rw[show((A,n,c,l):Rw).2.2.2.length=n from e];exact h5,h4⟩
theorem good_or(n p:Int)(nr nx:Nat)(P:List Rw):badA n p nr nx P∨∃n' p':Nat,n=n'∧p=p'∧1≤n'∧n'≤4096∧p' < n'∧nr=32∧nx=32∧all32 P=true:=by
 unfold badA
 by_cases h1:n < 1
 ·exact Or.inl (Or.inl h1)
 by_cases h2:4096 < n
 ·exact Or.inl (Or.inr (Or.inl h2))
 by_cases h3:p < 0
 ·exact Or.inl (Or.inr (Or.inr (Or.inl h3)))
 by_cases h4:n≤p
 ·exact Or.inl (Or.inr (Or.inr (Or.inr (Or.inl h4))))
 cases h5:(decide (nr=32∧nx=32) && all32 P) with
 |false=>exact Or.inl (Or.inr (Or.inr (Or.inr (Or.inr rfl))))
 |true =>
  rw[Bool.and_eq_true] at h5
  have h6:=of_decide_eq_true h5.1
  exact Or.inr ⟨n.toNat,p.toNat,by omega,by omega,by omega,by omega,by omega,h6.1,h6.2,h5.2⟩
theorem both_check{R A B:Option Addr}{nr nx m cr ca c:Nat}{lr x:List Nat}{P:List Rw}{w:World}(ts:Sh.Tab w)(hr:Pc w (R,nr,cr,lr))(hx:Pc w (A,nx,ca,x))(hP:PAny w B m c P)(h1:nr≤1000)(h2:nx≤1000)(n p:Int) :
  ∃k:Int,(∀w1,Below w.heap.size w w1→Calls Tryd.prog 20 #[.slice R nr cr,.int .i64 n,.int .i64 p,.slice A nx ca,.slice B m c] w1 (ErrQ k w1)) ∧
   (∀w1,Below w.heap.size w w1→Calls Tryd.prog 21 #[.slice R nr cr,.int .i64 n,.int .i64 p,.slice A nx ca,.slice B m c] w1 (ErrQ k w1)):=by
 rcases good_or n p nr nx P with h|⟨n',p',rfl,rfl,g1,g2,g3,rfl,rfl,g4⟩
 ·exact⟨1,fun w1 hb=>(check_bad (hr.below hb) (hx.below hb) (hP.below hb) h1 h2 h).mono fun _ _ h=>h,fun w1 hb=>(rcheck_bad (lr:=lr) (x:=x) (hP.below hb) h1 h2 h).mono fun _ _ h=>h⟩
 ·exact⟨_,fun w1 hb=>check_ok (hr.below hb) (hx.below hb) (hP.below hb) g4 g1 g2 g3 (ts.below hb),fun w1 hb=>rcheck_ok (hr.below hb) (hx.below hb) (hP.below hb) g4 g1 g2 g3⟩
set_option maxHeartbeats 2000000 in
set_option maxRecDepth 100000 in
theorem walk_merkleChecks{w:World}(ts:Sh.Tab w)(R:Option Addr)(nr cr:Nat)(lr:List Nat)(hr:BL w R nr cr lr)(n:Int)(wn:(Lit.int .i64 n).wf)(p:Int)(wp:(Lit.int .i64 p).wf)(A:Option Addr)(nx ca:Nat)(x:List Nat)(hx:BL w A nx ca x)(B:Option Addr)(m c:Nat)(P:List Rw)(hP:LL w B m P∧m≤9223372036854775807∧m≤c) :
  Calls Tryd.prog 5 #[.slice R nr cr,.int .i64 n,.int .i64 p,.slice A nx ca,.slice B m c] w fun e w'=>e=.returned (.bool true)∧Below w.heap.size w w':=by
 have hrm:=hr.2.1
 have hxm:=hx.2.1
 have KN:=Lib.hid (fun(w1:World) (hb:Below w.heap.size w w1)=>known_any w1 (ts.below hb))
 by_cases h1:100 < nr
 ·have q1:decide ((nr:Int) > 100)=true:=decide_eq_true (by omega)
  clear hr hx hP
  go_enter Tryd.func5,Tryd.ntmps5
  go_wp2_with fail
  refine(KN.out _ (Below.refl _ _)).mono ?_
  rintro e w1 ⟨rfl,b1⟩
  have B1:=Lib.hid b1
  clear b1
  go_wp2_with fail
  go_ret
  exact⟨rfl,B1.out⟩
 by_cases h2:100 < nx
 ·have q1:¬(100:Int) < (nr:Int):=by omega
  have q2:(100:Int) < (nx:Int):=by omega
  clear hr hx hP
  go_enter Tryd.func5,Tryd.ntmps5
  go_wp2_with fail
  refine(KN.out _ (Below.refl _ _)).mono ?_
  rintro e w1 ⟨rfl,b1⟩
  have B1:=Lib.hid b1
  clear b1
  go_wp2_with fail
  go_ret
  exact⟨rfl,B1.out⟩
 have q1:¬(100:Int) < (nr:Int):=by omega
 have q2:¬(100:Int) < (nx:Int):=by omega
 have SZ:=Lib.hid (rsize_any (c:=c) hP.1.1 (fun r hr=>(hP.1.2 r hr).2) hP.2.1 1500 (Nat.le_refl _))
 have HR:=Lib.hid (bl_pc hr)
 have HX:=Lib.hid (bl_pc hx)
 have TS:=Lib.hid ts
 have PP:=Lib.hid (show ∀S,S≤1500→(m≤S∧∀r∈P,r.2.1≤S)→PAny w B m c P from fun S h h2=>⟨hP.1.1,fun r hr=>⟨bl_pc (hP.1.2 r hr).1,by have:=h2.2 r hr;omega⟩,by omega,hP.2.2⟩)
 clear hr hx hP ts
 go_enter Tryd.func5,Tryd.ntmps5
 go_wp2_with fail
 refine SZ.out.mono ?_
 rintro e w1 ⟨S,rfl,hS,hSm,rfl⟩
 by_cases hbig:1500 < S
 ·have q3:(1500:Int) < (S:Int):=by omega
  clear hS
  go_wp2_with fail
  refine(KN.out _ (Below.refl _ _)).mono ?_
  rintro e w1 ⟨rfl,b1⟩
  have B1:=Lib.hid b1
  clear b1
  go_wp2_with fail
  go_ret
  exact⟨rfl,B1.out⟩
 ·have q3:¬(1500:Int) < (S:Int):=by omega
  obtain⟨k,C1,C2⟩:=both_check TS.out HR.out HX.out (PP.out S (by omega) (hS (by omega))) (by omega) (by omega) n p
  have D1:=Lib.hid C1
  have D2:=Lib.hid C2
  have t1:(k == k)=true:=by simp
  clear C1 C2 hS
  go_wp2_with fail
  refine(D1.out _ (Below.refl _ _)).mono ?_
  rintro e w1 ⟨rfl,b1⟩
  have B1:=Lib.hid b1
  clear b1
  go_wp2_with fail
  refine(D2.out _ B1.out).mono ?_
  rintro e w2 ⟨rfl,b2⟩
  have B2:=Lib.hid (B1.out.trans (b2.mono B1.out.size))
  clear b2
  go_wp2_with fail
  refine(KN.out _ B2.out).mono ?_
  rintro e w3 ⟨rfl,b3⟩
  have B3:=Lib.hid (B2.out.trans (b3.mono B2.out.size))
  clear b3
  go_wp2_with fail
  go_ret
  exact⟨rfl,B3.out⟩
end Go.Proofs.YtcnlmekjcffohaaDoor.Mk
namespace Go.Proofs.YtcnlmekjcffohaaDoor.Sh
open Go.RowKit Go.Proofs.YtcnlmekjcffohaaDoor.Gn Go.Deep Go.Proofs.YtcnlmekjcffohaaDoor
theorem gSt : Tryd.prog.globalNamed "imprimatur/sha2.starts" = some 0 := by kernel_rfl
theorem gCo : Tryd.prog.globalNamed "imprimatur/sha2.constants" = some 1 := by kernel_rfl
theorem tSt:(Tryd.prog.globals[0]?).map (·.type)=some 104:=by kernel_rfl
theorem tCo:(Tryd.prog.globals[1]?).map (·.type)=some 122:=by kernel_rfl
theorem c64:Tryd.prog.cellsOf 85=1:=by kernel_rfl
theorem c8:Tryd.prog.cellsOf 104=8:=by kernel_rfl
theorem c80:Tryd.prog.cellsOf 122=80:=by kernel_rfl
def ints(l:List Nat):List Int:=l.map fun(x:Nat)=>(x:Int)
theorem ints_length(l:List Nat):(ints l).length=l.length:=by simp[ints]
theorem laid_st:(Rows.laid_imprimatur_sha2_starts:DataW Unit)=Lib.tabData .u64 (ints sc):=by kernel_rfl
theorem laid_co:(Rows.laid_imprimatur_sha2_constants:DataW Unit)=Lib.tabData .u64 (ints kc):=by kernel_rfl
theorem ints_getD(l:List Nat)(i:Nat):(ints l).getD i 0=((l.getD i 0:Nat):Int):=by
 simp only[ints,List.getD_eq_getElem?_getD,List.getElem?_map]
 cases l[i]? <;> rfl
theorem tab_of_laid {W : World} (h : laidMetH Tryd.prog [("imprimatur/sha2.starts", Rows.laid_imprimatur_sha2_starts), ("imprimatur/sha2.constants", Rows.laid_imprimatur_sha2_constants)] W) : Tab W := by
 rw[MakeChecks.laidMetH_plain _ _ _ (by kernel_rfl),laid_st,laid_co] at h
 have h1:=Lib.tabIs_of_head gSt tSt Tryd.underlying104 Tryd.underlying85 c64 c8 h
 have h2:=Lib.tabIs_of_head gCo tCo Tryd.underlying122 Tryd.underlying85 c64 c80 h.tail
 exact⟨fun t ht=>by rw[h2.cell gCo t (by rw[ints_length];exact ht),ints_getD],fun t ht=>by rw[h1.cell gSt t (by rw[ints_length];exact ht),ints_getD]⟩
end Go.Proofs.YtcnlmekjcffohaaDoor.Sh
