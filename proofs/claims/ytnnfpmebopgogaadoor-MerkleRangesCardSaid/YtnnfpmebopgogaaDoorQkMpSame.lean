/- Joined texts. -/
import Derived.Deep.QuietTactic
import Derived.BigQuiet
import Derived.Test.YtnnfpmebopgogaaDoorQkMpRTop
import Derived.Test.YtnnfpmebopgogaaDoorQkMpProve
import Derived.Test.YtnnfpmebopgogaaDoorQkMkJ
import Derived.Test.YtnnfpmebopgogaaDoorQkMpPath
import Derived.Test.YtnnfpmebopgogaaDoorQkMkA
import Derived.Test.YtnnfpmebopgogaaDoorQkPuA
set_option linter.unusedVariables false
namespace Go.Proofs.YtnnfpmebopgogaaDoor.Mk
open Go.RowKit Go.Proofs.YtnnfpmebopgogaaDoor.Gn Go.Proofs.YtnnfpmebopgogaaDoor.Fd Go.Deep
def Qt(w w':World):Prop:=∃m,w'=w.drewN m
theorem Qt.refl(w:World):Qt w w:=⟨0,rfl⟩
theorem Qt.below{w w':World}(h:Qt w w'):Below w.heap.size w w':=by
 obtain⟨m,rfl⟩:=h
 exact below_drewN (Below.refl _ _) m
theorem Qt.more{w w':World}(h:Qt w w')(n:Nat):Qt w (w'.drewN n):=by
 obtain⟨m,rfl⟩:=h
 exact⟨m+n,World.drewN_drewN _ _ _⟩
def SaRel(m:Nat)(w:World)(i:Value)(wr:World):Prop:=∃k,k≤m∧i=.int .i64 (k:Int)∧Qt w wr
set_option maxRecDepth 100000 in
set_option maxHeartbeats 4000000 in
theorem Same_any{A B:Option Addr}{m c d:Nat}{xs ys:List Rw}{w:World}(hm:m≤1000000)(hx:Sl w A m (xs.map rwv))(hy:Sl w B m (ys.map rwv))(hxp:∀r∈xs,Pc w r)(hyp:∀r∈ys,Pc w r)(he:xs.map (·.2.2.2)=ys.map (·.2.2.2)) :
  Calls Tryd.prog 18 #[.slice A m c,.slice B m d] w fun e w'=>e=.returned (.bool true)∧Qt w w':=by
 have hxl:xs.length=m:=by have:=hx.1;rwa [List.length_map] at this
 have hyl:ys.length=m:=by have:=hy.1;rwa [List.length_map] at this
 have SX:=Lib.hid hx
 have SY:=Lib.hid hy
 have PX:=Lib.hid hxp
 have PY:=Lib.hid hyp
 have LX:=Lib.hid hxl
 have LY:=Lib.hid hyl
 have HE:=Lib.hid he
 clear hx hy hxp hyp hxl hyl he
 go_enter Tryd.func18,Tryd.ntmps18
 go_wp2_with fail
 go_loopw [5] (fun i wr=>SaRel m w i wr) (fun i _=>m - (intOf i).toNat)
 case atStart=>exact⟨0,Nat.zero_le _,rfl,Qt.refl _⟩
 case round =>
  obtain⟨k,hk,rfl,hq⟩:=hrel
  by_cases hlt:k < m
  ·obtain⟨ax,rfl,hcx⟩:=SX.out.at_ hlt
   obtain⟨ay,rfl,hcy⟩:=SY.out.at_ hlt
   obtain⟨x,hx⟩:∃x,xs[k]?=some x:=⟨xs[k]'(by have:=LX.out;omega),List.getElem?_eq_getElem _⟩
   obtain⟨y,hy⟩:∃y,ys[k]?=some y:=⟨ys[k]'(by have:=LY.out;omega),List.getElem?_eq_getElem _⟩
   have hpx:=(PX.out x (List.mem_of_getElem? hx)).below hq.below
   have hpy:=(PY.out y (List.mem_of_getElem? hy)).below hq.below
   have hxy:x.2.2.2=y.2.2.2:=by
    have:=congrArg (fun z=>z[k]?) HE.out
    simpa[hx,hy] using this
   obtain⟨A1,n1,c1,l1⟩:=x
   obtain⟨A2,n2,c2,l2⟩:=y
   have hxy:l1=l2:=hxy
   subst hxy
   have hc1:wr.cell? (ax.add k)=some (.slice A1 n1 c1):=(hq.below.cell (cell_lt (by rw[hcx,List.getElem?_map,hx];rfl))).trans (by rw[hcx,List.getElem?_map,hx];rfl)
   have hc2:wr.cell? (ay.add k)=some (.slice A2 n2 c2):=(hq.below.cell (cell_lt (by rw[hcy,List.getElem?_map,hy];rfl))).trans (by rw[hcy,List.getElem?_map,hy];rfl)
   have e1:l1.length=n1:=hpx.len.symm
   have e2:l1.length=n2:=hpy.len.symm
   have r1:=fun n=>run_txt (P:=Tryd.prog) (wr.drewN n) 22 9 5 Tryd.underlying22 Tryd.underlying5 Tryd.underlying9 A1 n1 c1 l1 (by have:=hpx.row;rw[show((A1,n1,c1,l1):Rw).2.2.2.length=n1 from e1] at this;exact this.drewN n)
   have r2:=fun n=>run_txt (P:=Tryd.prog) (wr.drewN n) 22 9 5 Tryd.underlying22 Tryd.underlying5 Tryd.underlying9 A2 n2 c2 l1 (by have:=hpy.row;rw[show((A2,n2,c2,l1):Rw).2.2.2.length=n2 from e2] at this;exact this.drewN n)
   obtain⟨s,hs⟩:∃s,txt l1=s:=⟨_,rfl⟩
   rw[hs] at r1 r2
   have HQ:=Lib.hid hq
   clear hcx hcy hx hy hpx hpy e1 e2 hs hq
   go_wp2_with fail
   go_quiet (fail)
   go_wp2_with fail
   exact⟨⟨k+1,by omega,by go_num,HQ.out.more nq⟩,by simp[intOf];omega⟩
  ·have HQ:=Lib.hid hq
   obtain rfl:k=m:=by omega
   clear hq
   go_wp2_with fail
   go_ret
   exact⟨rfl,HQ.out⟩
end Go.Proofs.YtnnfpmebopgogaaDoor.Mk
namespace Go.Proofs.YtnnfpmebopgogaaDoor.Mk
open Go.RowKit Go.Proofs.YtnnfpmebopgogaaDoor.Gn Go.Proofs.YtnnfpmebopgogaaDoor.Fd Go.Deep
theorem wf_i64{x:Int}(h:(Lit.int .i64 x).wf) : -9223372036854775808≤x∧x≤9223372036854775807:=by
 simpa[Lit.wf,IntKind.min,IntKind.max,IntKind.signed,IntKind.bits] using h
end Go.Proofs.YtnnfpmebopgogaaDoor.Mk
namespace Go.Proofs.YtnnfpmebopgogaaDoor.Gn
open Go.RowKit Go.Deep
section
variable {H:Type} {enc:TypeId × Value→H} {P:Program} {w:World} {base:Nat} {spare:Nat→Bool} {held:Bool}
theorem open_llc {t e u : TypeId} {a : Option Addr} {len cap : Nat} {d : DataW H} {ps : List MemPlace} (ht : P.underlying t = some (.slice e)) (he : P.underlying e = some (.slice u)) (hu : P.underlying u = some (.int .u8))
    (ce : P.cellsOf e = 1) (cu : P.cellsOf u = 1) (bu : P.bytesOf u = 1) (h : DataW.Trod enc P w base spare held t (.slice a len cap) d ps) (hr : ∀ x ∈ d.weights P t, x ≤ reachBytes) :
    ∃ rows : List Rw, LL w a len rows ∧ len ≤ 9223372036854775807 ∧ len ≤ cap := by
  obtain ⟨fuel, hf⟩ := h
  rcases open_slice1 ht ce hf with ⟨hcs, hx⟩ | ⟨x, l, c, m, n, V, D, Pl, hcs, hb, hl, hm, hmm, hx, hi⟩
  · simp [Value.cells] at hcs
    obtain ⟨rfl, rfl, rfl⟩ := hcs
    exact ⟨[], ⟨Sl.nil_ _ _, fun r hr => by cases hr⟩, Nat.zero_le _, Nat.le_refl _⟩
  · simp [Value.cells] at hcs
    obtain ⟨rfl, rfl, rfl⟩ := hcs
    have hle : len ≤ m := by rw [hmm]; split <;> omega
    simp only [Prod.mk.injEq] at hx
    obtain ⟨rfl, -⟩ := hx
    have key : ∀ i, i < len → ∃ r : Rw, V i = rwv r ∧ BL w r.1 r.2.1 r.2.2.1 r.2.2.2 ∧ r.2.1 ≤ 140737488351232 := by
      intro i hil
      obtain ⟨hc, hd⟩ := hi i (by omega)
      obtain ⟨A, k, c2, hV⟩ := Joins.slice_form he hd
      have hV' : V i = .slice A k c2 := by simpa using hV
      have hT : DataW.Trod enc P w base spare held e (.slice A k c2) (D i) (Pl i) := ⟨n, by rw [hV'] at hd; simpa [Value.cells] using hd⟩
      obtain ⟨li, hli⟩ := open_bl he hu cu (DataW.trod_lt n _ _ _ hd) hT
      refine ⟨(A, k, c2, li), hV', hli, ?_⟩
      have hw : ∀ x ∈ (D i).weights P e, x ≤ reachBytes := fun x hx => hr x (by
        have hm1 : x ∈ DataW.weightsAll P e ((List.range len).map D) := weights_mem hx _ (List.mem_map.2 ⟨i, List.mem_range.2 hil, rfl⟩)
        rw [DataW.weights, ht]
        exact List.mem_cons_of_mem _ (List.mem_append_left _ hm1))
      rw [hV'] at hd
      rcases open_slice1 he cu hd with ⟨hcs2, -⟩ | ⟨x2, l2, c3, m2, n2, V2, D2, Pl2, hcs2, -, -, -, hmm2, hx2, -⟩
      · simp at hcs2
        obtain ⟨-, rfl, -⟩ := hcs2
        exact Nat.zero_le _
      · simp at hcs2
        obtain ⟨-, rfl, rfl⟩ := hcs2
        simp only [Prod.mk.injEq] at hx2
        obtain ⟨hD, -⟩ := hx2
        have := hw ((k + (m2 - k)) * 1) (by simp only [hD, DataW.weights, he]; simp [bu])
        have hrb : reachBytes = 140737488351232 := rfl
        show k ≤ _
        omega
    obtain ⟨R, hR⟩ := choose_lt (α := Rw) (p := fun i r => V i = rwv r ∧ BL w r.1 r.2.1 r.2.2.1 r.2.2.2 ∧ r.2.1 ≤ 140737488351232) key
    refine ⟨(List.range len).map R, ⟨⟨by simp, fun k v hk => ?_⟩, fun r hr => ?_⟩, by unfold maxLen at hm; omega, by omega⟩
    · have hkl : k < len := by
        have := (List.getElem?_eq_some_iff.1 hk).1
        simpa using this
      rw [List.getElem?_map, List.getElem?_map, List.getElem?_range hkl] at hk
      simp at hk
      subst hk
      exact ⟨x, rfl, by rw [← (hR k hkl).1]; exact (hi k (by omega)).1⟩
    · obtain ⟨i, hi2, rfl⟩ := List.mem_map.1 hr
      exact (hR i (List.mem_range.1 hi2)).2
end
end Go.Proofs.YtnnfpmebopgogaaDoor.Gn
namespace Go.Proofs.YtnnfpmebopgogaaDoor.Mk
open Go.RowKit Go.Proofs.YtnnfpmebopgogaaDoor.Gn Go.Proofs.YtnnfpmebopgogaaDoor.Fd Go.Deep
theorem bl_pc2{w:World}{A:Option Addr}{n c:Nat}{l:List Nat}(h:BL w A n c l):Pc w (A,n,c,l):=by
 obtain⟨h1,h2,h3,h4,h5⟩:=h
 have e:l.length=n:=by have:=h1.1;rwa [bl_length] at this
 exact⟨e.symm,by rw[show((A,n,c,l):Rw).2.2.2.length=n from e];exact h1,h3,by rw[show((A,n,c,l):Rw).2.2.2.length=n from e];exact h5,h4⟩
end Go.Proofs.YtnnfpmebopgogaaDoor.Mk
