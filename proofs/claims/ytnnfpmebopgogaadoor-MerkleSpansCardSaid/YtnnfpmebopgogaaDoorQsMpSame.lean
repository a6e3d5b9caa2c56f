/- Joined texts. -/
import Derived.Deep.QuietTactic
import Derived.BigQuiet
import Derived.Test.YtnnfpmebopgogaaDoorQsMpRTop
import Derived.Test.YtnnfpmebopgogaaDoorQsMpRCheck
import Derived.Test.YtnnfpmebopgogaaDoorQsMkJ
import Derived.Test.YtnnfpmebopgogaaDoorQsMkA
import Derived.Test.YtnnfpmebopgogaaDoorQsPuA
set_option linter.unusedVariables false
namespace Go.Proofs.YtnnfpmebopgogaaDoor.Mk
open Go.RowKit Go.Proofs.YtnnfpmebopgogaaDoor.Gn Go.Proofs.YtnnfpmebopgogaaDoor.Fd Go.Deep
def Qt(w w':World):Prop:=∃m,w'=w.drewN m
theorem Qt.refl(w:World):Qt w w:=⟨0,rfl⟩
theorem Qt.below{w w':World}(h:Qt w w'):Below w.heap.size w w':=by
 obtain⟨m,rfl⟩:=h
 exact below_drewN (Below.refl _ _) m
theorem Qt.more{w w':World}(h:Qt w w')(n:Nat):Qt w (w'.drewN n):=by
 obtain⟨m,rfl⟩:=h
 exact⟨m+n,World.drewN_drewN _ _ _⟩
end Go.Proofs.YtnnfpmebopgogaaDoor.Mk
namespace Go.Proofs.YtnnfpmebopgogaaDoor.Mk
open Go.RowKit Go.Proofs.YtnnfpmebopgogaaDoor.Gn Go.Proofs.YtnnfpmebopgogaaDoor.Fd Go.Deep
theorem among_any(x n:Int)(w:World)(hn:1≤n)(hn':n≤1000000)(hx : -9223372036854775808≤x)(hx':x≤9223372036854775807) :
  Calls Tryd.prog 27 #[.int .i64 x,.int .i64 n] w fun e w'=>e=.returned (.int .i64 (x%n))∧w=w':=by
 have hm:IntKind.i64.wrap (x.tmod n)=x.tmod n:=by
  refine _root_.Go.IntWalk.i64_in _ ?_
  have h1:=Int.tmod_lt_of_pos x (show 0 < n by omega)
  have h2:=Int.lt_tmod_of_pos x (show 0 < n by omega)
  omega
 go_enter Tryd.func27,Tryd.ntmps27
 have he:x%n=(x.tmod n)%n:=by
  have:=Int.tmod_add_mul_tdiv x n
  rw[←this];simp[Int.add_mul_emod_self_left]
  rw[this]
 have h1:=Int.tmod_lt_of_pos x (show 0 < n by omega)
 have h2:=Int.lt_tmod_of_pos x (show 0 < n by omega)
 have HE:=Lib.hid he
 have H12:=Lib.hid (And.intro h1 h2)
 clear he h1 h2
 go_wp2
 ·go_ret
  have:=H12.out
  have hneg:x.tmod n < 0:=by assumption
  refine⟨ret_int ?_,rfl⟩
  rw[HE.out,_root_.Go.IntWalk.wrap64_in _ (by omega),←Int.add_emod_right,Int.emod_eq_of_lt (by omega) (by omega)]
 ·go_ret
  have:=H12.out
  have hpos:0≤x.tmod n:=by assumption
  refine⟨ret_int ?_,rfl⟩
  rw[HE.out,Int.emod_eq_of_lt hpos (by omega)]
theorem wf_i64{x:Int}(h:(Lit.int .i64 x).wf) : -9223372036854775808≤x∧x≤9223372036854775807:=by
 simpa[Lit.wf,IntKind.min,IntKind.max,IntKind.signed,IntKind.bits] using h
end Go.Proofs.YtnnfpmebopgogaaDoor.Mk
namespace Go.Proofs.YtnnfpmebopgogaaDoor.Gn
open Go.RowKit Go.Deep
section
variable {H:Type} {enc:TypeId × Value→H} {P:Program} {w:World} {base:Nat} {spare:Nat→Bool} {held:Bool}
theorem open_llc {t e u : TypeId} {a : Option Addr} {len cap : Nat} {d : DataW H} {ps : List MemPlace} (ht : P.underlying t = some (.slice e)) (he : P.underlying e = some (.slice u)) (hu : P.underlying u = some (.int .u8))
    (ce : P.cellsOf e = 1) (cu : P.cellsOf u = 1) (bu : P.bytesOf u = 1) (h : DataW.Trod enc P w base spare held t (.slice a len cap) d ps) (hr : ∀ x ∈ d.weights P t, x ≤ reachBytes) :
    ∃ rows : List Rw, LL w a len rows ∧ len ≤ 9223372036854775807 ∧ len ≤ cap := by
  obtain ⟨fuel, hf⟩ := h
  rcases open_slice1 ht ce hf with ⟨hcs, hx⟩ | ⟨x, l, c, m, n, V, D, Pl, hcs, hb, hl, hm, hmm, hx, hi⟩
  · simp [Value.cells] at hcs
    obtain ⟨rfl, rfl, rfl⟩ := hcs
    exact ⟨[], ⟨Sl.nil_ _ _, fun r hr => by cases hr⟩, Nat.zero_le _, Nat.le_refl _⟩
  · simp [Value.cells] at hcs
    obtain ⟨rfl, rfl, rfl⟩ := hcs
    have hle : len ≤ m := by rw [hmm]; split <;> omega
    simp only [Prod.mk.injEq] at hx
    obtain ⟨rfl, -⟩ := hx
    have key : ∀ i, i < len → ∃ r : Rw, V i = rwv r ∧ BL w r.1 r.2.1 r.2.2.1 r.2.2.2 ∧ r.2.1 ≤ 140737488351232 := by
      intro i hil
      obtain ⟨hc, hd⟩ := hi i (by omega)
      obtain ⟨A, k, c2, hV⟩ := Joins.slice_form he hd
      have hV' : V i = .slice A k c2 := by simpa using hV
      have hT : DataW.Trod enc P w base spare held e (.slice A k c2) (D i) (Pl i) := ⟨n, by rw [hV'] at hd; simpa [Value.cells] using hd⟩
      obtain ⟨li, hli⟩ := open_bl he hu cu (DataW.trod_lt n _ _ _ hd) hT
      refine ⟨(A, k, c2, li), hV', hli, ?_⟩
      have hw : ∀ x ∈ (D i).weights P e, x ≤ reachBytes := fun x hx => hr x (by
        have hm1 : x ∈ DataW.weightsAll P e ((List.range len).map D) := weights_mem hx _ (List.mem_map.2 ⟨i, List.mem_range.2 hil, rfl⟩)
        rw [DataW.weights, ht]
        exact List.mem_cons_of_mem _ (List.mem_append_left _ hm1))
      rw [hV'] at hd
      rcases open_slice1 he cu hd with ⟨hcs2, -⟩ | ⟨x2, l2, c3, m2, n2, V2, D2, Pl2, hcs2, -, -, -, hmm2, hx2, -⟩
      · simp at hcs2
        obtain ⟨-, rfl, -⟩ := hcs2
        exact Nat.zero_le _
      · simp at hcs2
        obtain ⟨-, rfl, rfl⟩ := hcs2
        simp only [Prod.mk.injEq] at hx2
        obtain ⟨hD, -⟩ := hx2
        have := hw ((k + (m2 - k)) * 1) (by simp only [hD, DataW.weights, he]; simp [bu])
        have hrb : reachBytes = 140737488351232 := rfl
        show k ≤ _
        omega
    obtain ⟨R, hR⟩ := choose_lt (α := Rw) (p := fun i r => V i = rwv r ∧ BL w r.1 r.2.1 r.2.2.1 r.2.2.2 ∧ r.2.1 ≤ 140737488351232) key
    refine ⟨(List.range len).map R, ⟨⟨by simp, fun k v hk => ?_⟩, fun r hr => ?_⟩, by unfold maxLen at hm; omega, by omega⟩
    · have hkl : k < len := by
        have := (List.getElem?_eq_some_iff.1 hk).1
        simpa using this
      rw [List.getElem?_map, List.getElem?_map, List.getElem?_range hkl] at hk
      simp at hk
      subst hk
      exact ⟨x, rfl, by rw [← (hR k hkl).1]; exact (hi k (by omega)).1⟩
    · obtain ⟨i, hi2, rfl⟩ := List.mem_map.1 hr
      exact (hR i (List.mem_range.1 hi2)).2
end
end Go.Proofs.YtnnfpmebopgogaaDoor.Gn
