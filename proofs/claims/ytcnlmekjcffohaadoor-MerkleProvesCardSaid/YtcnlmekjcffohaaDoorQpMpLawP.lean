/- Joined texts. -/
import Derived.Test.YtcnlmekjcffohaaDoorQpMpRProveB
import Derived.Test.YtcnlmekjcffohaaDoorQpMpSame
import Derived.LaidMore
import Derived.Lib.LaidTab
import Derived.Stop.LaidErr
import Derived.Deep.DeepHandedRow
import Derived.Test.YtcnlmekjcffohaaDoorCards
import Derived.Test.YtcnlmekjcffohaaDoorQpSaE
set_option linter.unusedVariables false
namespace Go.Proofs.YtcnlmekjcffohaaDoor.Mk
open Go.RowKit Go.Proofs.YtcnlmekjcffohaaDoor.Gn Go.Proofs.YtcnlmekjcffohaaDoor.Fd Go.Deep
theorem badP_or(p:Int)(m:Nat)(P:List Rw):badP p m P∨(all32 P=true∧∃k:Nat,p=k∧k < m):=by
 unfold badP
 cases h:all32 P with
 |false=>exact Or.inl (Or.inl rfl)
 |true =>
  by_cases h1:p < 0
  ·exact Or.inl (Or.inr (Or.inl h1))
  by_cases h2:(m:Int)≤p
  ·exact Or.inl (Or.inr (Or.inr h2))
  exact Or.inr ⟨rfl,p.toNat,by omega,by omega⟩
set_option maxHeartbeats 4000000 in
set_option maxRecDepth 100000 in
theorem walk_merkleProves{w:World}(ts:Sh.Tab w)(B:Option Addr)(m c:Nat)(P:List Rw)(hP:LL w B m P∧m≤9223372036854775807∧m≤c)(p:Int)(wp:(Lit.int .i64 p).wf) :
  Calls Tryd.prog 4 #[.slice B m c,.int .i64 p] w fun e w'=>e=.returned (.bool true)∧Below w.heap.size w w':=by
 have KN:=Lib.hid (fun(w1:World) (hb:Below w.heap.size w w1)=>known_any w1 (ts.below hb))
 have SZ:=Lib.hid (rsize_any (c:=c) hP.1.1 (fun r hr=>(hP.1.2 r hr).2) hP.2.1 1500 (Nat.le_refl _))
 have TS:=Lib.hid ts
 have PP:=Lib.hid (show ∀S,S≤1500→(m≤S∧∀r∈P,r.2.1≤S)→PAny w B m c P from fun S h h2=>⟨hP.1.1,fun r hr=>⟨bl_pc2 (hP.1.2 r hr).1,by have:=h2.2 r hr;omega⟩,by omega,hP.2.2⟩)
 clear hP ts wp
 go_enter Tryd.func4,Tryd.ntmps4
 go_wp2_with fail
 refine SZ.out.mono ?_
 rintro e w1 ⟨S,rfl,hS,hSm,rfl⟩
 by_cases hbig:1500 < S
 ·have q3:(1500:Int) < (S:Int):=by omega
  clear hS
  go_wp2_with fail
  refine(KN.out _ (Below.refl _ _)).mono ?_
  rintro e w1 ⟨rfl,b1⟩
  have B1:=Lib.hid b1
  clear b1
  go_wp2_with fail
  go_ret
  exact⟨rfl,B1.out⟩
 have q3:¬(1500:Int) < (S:Int):=by omega
 have HP:=Lib.hid (PP.out S (by omega) (hS (by omega)))
 clear hS hSm PP
 have hm:=HP.out.few
 rcases badP_or p m P with hb|⟨ha,k,rfl,hk⟩
 ·have PB:=Lib.hid (Prove_bad HP.out hb)
  have RB:=Lib.hid (fun(wq:World) (h:Below w.heap.size w wq)=>RProve_bad (HP.out.below h) hb)
  have SM:=Lib.hid (fun wq:World=>Same_any (A:=none) (B:=none) (m:=0) (c:=0) (d:=0) (xs:=[]) (ys:=[]) (w:=wq) (by decide) (Sl.nil_ _ _) (Sl.nil_ _ _) (fun r h=>by simp at h) (fun r h=>by simp at h) rfl)
  clear hb
  go_wp2_with fail
  refine PB.out.mono ?_
  rintro e w1 ⟨rfl,b1⟩
  have B1:=Lib.hid b1
  clear b1
  go_wp2_with fail
  refine(RB.out _ B1.out).mono ?_
  rintro e w2 ⟨rfl,b2⟩
  have B2:=Lib.hid (B1.out.trans (b2.mono B1.out.size))
  clear b2
  go_wp2_with fail
  refine(SM.out _).mono ?_
  rintro e w3 ⟨rfl,b3⟩
  have B3:=Lib.hid (B2.out.trans (b3.below.mono B2.out.size))
  clear b3
  go_wp2_with fail
  refine(KN.out _ B3.out).mono ?_
  rintro e w4 ⟨rfl,b4⟩
  have B4:=Lib.hid (B3.out.trans (b4.mono B3.out.size))
  clear b4
  go_wp2_with fail
  go_ret
  exact⟨rfl,B4.out⟩
 ·have PG:=Lib.hid (Prove_good HP.out ha hk TS.out)
  have RG:=Lib.hid (fun(wq:World) (h:Below w.heap.size w wq)=>RProve_good (HP.out.below h) ha hk)
  have PCS:=Lib.hid (fun r (h:r∈P)=>(HP.out.pcs r h).1)
  have hPL:=pathL_len (con P).length (con P) k (Nat.le_refl _) (by rw[con_len,HP.out.len];exact hk)
  rw[con_len,HP.out.len] at hPL
  generalize pathL (con P) k=pa at PG RG hPL
  have HPL:=Lib.hid hPL
  clear ha hk hPL
  go_wp2_with fail
  refine PG.out.mono ?_
  rintro e w1 ⟨A,n,cap,us,rfl,o1,hn,hc,b1⟩
  have B1:=Lib.hid b1
  have O1:=Lib.hid o1
  have HN:=Lib.hid hn
  have HC:=Lib.hid hc
  clear b1 o1 hn hc
  go_wp2_with fail
  refine(RG.out _ B1.out).mono ?_
  rintro e w2 ⟨A2,n2,cap2,us2,rfl,o2,hn2,hps,hc2,b2⟩
  have B2:=Lib.hid (B1.out.trans (b2.mono B1.out.size))
  have e1:n2=n:=by
   have h1:=congrArg List.length HC.out
   have h2:=congrArg List.length hc2
   rw[con_len] at h1 h2
   rw[←hn2,←HN.out,h1,h2]
  subst e1
  have SM:=Lib.hid (show Calls Tryd.prog 19 #[.slice A n2 cap,.slice A2 n2 cap2] w2 fun e w'=>e=.returned (.bool true)∧Qt w2 w' from by
   have h1:=HPL.out
   have h3:=congrArg List.length hc2
   rw[con_len,hn2] at h3
   refine Same_any (xs:=us) (ys:=us2) (by omega) ?_ ?_ (fun r h=>((O1.out.pcs r h).1.below b2)) (fun r h=>?_) (by rw[show us.map (·.2.2.2)=con us from rfl,show us2.map (·.2.2.2)=con us2 from rfl,HC.out,hc2])
   ·have h:=(own_sl (by have h:=O1.out.own;rwa [HN.out] at h)).1
    exact h.below b2
   ·exact(own_sl o2).1
   ·rcases hps r h with h|h
    ·exact h.1
    ·exact(PCS.out r h).below B2.out)
  clear o2 hn2 hps hc2 b2
  go_wp2_with fail
  refine SM.out.mono ?_
  rintro e w3 ⟨rfl,b3⟩
  have B3:=Lib.hid (B2.out.trans (b3.below.mono B2.out.size))
  clear b3
  go_wp2_with fail
  refine(KN.out _ B3.out).mono ?_
  rintro e w4 ⟨rfl,b4⟩
  have B4:=Lib.hid (B3.out.trans (b4.mono B3.out.size))
  clear b4
  go_wp2_with fail
  go_ret
  exact⟨rfl,B4.out⟩
end Go.Proofs.YtcnlmekjcffohaaDoor.Mk
namespace Go.Proofs.YtcnlmekjcffohaaDoor.Sh
open Go.RowKit Go.Proofs.YtcnlmekjcffohaaDoor.Gn Go.Deep Go.Proofs.YtcnlmekjcffohaaDoor
theorem gSt : Tryd.prog.globalNamed "imprimatur/sha2.starts" = some 0 := by kernel_rfl
theorem gCo : Tryd.prog.globalNamed "imprimatur/sha2.constants" = some 1 := by kernel_rfl
theorem tSt:(Tryd.prog.globals[0]?).map (·.type)=some 104:=by kernel_rfl
theorem tCo:(Tryd.prog.globals[1]?).map (·.type)=some 122:=by kernel_rfl
theorem c64:Tryd.prog.cellsOf 85=1:=by kernel_rfl
theorem c8:Tryd.prog.cellsOf 104=8:=by kernel_rfl
theorem c80:Tryd.prog.cellsOf 122=80:=by kernel_rfl
def ints(l:List Nat):List Int:=l.map fun(x:Nat)=>(x:Int)
theorem ints_length(l:List Nat):(ints l).length=l.length:=by simp[ints]
theorem laid_st:(Rows.laid_imprimatur_sha2_starts:DataW Unit)=Lib.tabData .u64 (ints sc):=by kernel_rfl
theorem laid_co:(Rows.laid_imprimatur_sha2_constants:DataW Unit)=Lib.tabData .u64 (ints kc):=by kernel_rfl
theorem ints_getD(l:List Nat)(i:Nat):(ints l).getD i 0=((l.getD i 0:Nat):Int):=by
 simp only[ints,List.getD_eq_getElem?_getD,List.getElem?_map]
 cases l[i]? <;> rfl
theorem tab_of_laid {W : World} (h : laidMetH Tryd.prog [("imprimatur/sha2.starts", Rows.laid_imprimatur_sha2_starts), ("imprimatur/sha2.constants", Rows.laid_imprimatur_sha2_constants)] W) : Tab W := by
 rw[MakeChecks.laidMetH_plain _ _ _ (by kernel_rfl),laid_st,laid_co] at h
 have h1:=Lib.tabIs_of_head gSt tSt Tryd.underlying104 Tryd.underlying85 c64 c8 h
 have h2:=Lib.tabIs_of_head gCo tCo Tryd.underlying122 Tryd.underlying85 c64 c80 h.tail
 exact⟨fun t ht=>by rw[h2.cell gCo t (by rw[ints_length];exact ht),ints_getD],fun t ht=>by rw[h1.cell gSt t (by rw[ints_length];exact ht),ints_getD]⟩
end Go.Proofs.YtcnlmekjcffohaaDoor.Sh
