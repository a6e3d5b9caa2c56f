/- Joined texts. -/
import Derived.Test.YtnnfpmebopgogaaDoorQrMkR
import Derived.Test.YtnnfpmebopgogaaDoorQrMkL
import Derived.Test.YtnnfpmebopgogaaDoorQrMkA
import Derived.Test.YtnnfpmebopgogaaDoorQrPuA
import Derived.Deep.LoopGhost
import Derived.Laws.EntriesVeiled
import Derived.Test.YtnnfpmebopgogaaDoorQrMpTop
import Derived.Test.YtnnfpmebopgogaaDoorQrMpRCheck
set_option linter.unusedVariables false
namespace Go.Proofs.YtnnfpmebopgogaaDoor.Mk
open Go.RowKit Go.Proofs.YtnnfpmebopgogaaDoor.Gn Go.Proofs.YtnnfpmebopgogaaDoor.Fd Go.Deep
theorem Missing_zero{A:Option Addr}{c:Nat}{w:World}(h:Pc w (A,2,c,[0,1])) :
  Calls Tryd.prog 33 #[.slice A 2 c,.int .i64 9] w fun e w'=>e=.returned (.int .i64 0)∧Below w.heap.size w w':=by
 refine(Missing_any (n:=9) (l:=[0,1]) h (by decide) (by decide)).mono ?_
 rintro e w' ⟨h1,h2⟩
 refine⟨?_,h2⟩
 rw[show rightB [0,1] 9=true by decide +kernel] at h1
 obtain⟨m,rfl,-, h3,-⟩:=h1
 have:m=0:=by
  rcases Nat.eq_zero_or_pos m with h|h
  ·exact h
  ·have:=h3 0 h;exact absurd this (by decide +kernel)
 rw[this];rfl
theorem Empty_nine(w:World):Calls Tryd.prog 31 #[.int .i64 9] w fun e w'=>∃g,e=.returned (.tuple #[.slice (some ⟨g,0,none⟩) 2 2,.int .i64 0])∧Pc w' (some ⟨g,0,none⟩,2,2,[0,0])∧w.heap.size≤g∧Below w.heap.size w w':=Empty_any 9 2 (by decide) rfl w
theorem Put_eight{A:Option Addr}{c:Nat}{w:World}(h:Pc w (A,2,c,[0,0])) :
  Calls Tryd.prog 32 #[.slice A 2 c,.int .i64 9,.int .i64 8] w fun e w'=>∃g cap,e=.returned (.tuple #[.slice (some ⟨g,0,none⟩) 2 cap,.int .i64 0])∧Pc w' (some ⟨g,0,none⟩,2,cap,[0,1])∧w.heap.size≤g∧Below w.heap.size w w':=by
 refine(Put_yes (n:=9) (l:=[0,0]) h (by decide) (by decide) 8 (by decide +kernel)).mono ?_
 rintro e w' ⟨g,cap,h1,h2,h3,h4⟩
 rw[show putB [0,0] 8=[0,1] by decide +kernel] at h2
 exact⟨g,cap,h1,h2,h3,h4⟩
theorem Leaf_five(w:World)(ts:Sh.Tab w):Calls Tryd.prog 9 #[.int .i64 0,.slice (some ⟨w.heap.size,0,none⟩) 1 1] (w.alloc (.cells #[.int .u8 5] 5)) fun e w'=>∃g x,e=.returned (.tuple #[.slice (some ⟨g,0,none⟩) 32 32,.int .i64 0])∧Pc w' (some ⟨g,0,none⟩,32,32,x)∧Below w.heap.size w w':=by
 have BB:=(Below.refl w.heap.size w).alloc (Nat.le_refl _) (.cells #[.int .u8 5] 5)
 refine(Leaf_any 0 (by decide) (A:=some ⟨w.heap.size,0,none⟩) (m:=1) (c:=1) (x:=[5]) ⟨rfl,Sl.new_ w 5 (bl [5]),(show ∀x∈[5],x < 256 by decide),Nat.le_refl _,fun h=>by cases h⟩ (by decide) (ts.below BB)).mono ?_
 rintro e w' ⟨g,h1,h2,h3,h4⟩
 exact⟨g,_,h1,h2,BB.trans (h4.mono BB.size)⟩
theorem Root_of{A:Option Addr}{c:Nat}{x:List Nat}{w:World}(h:Pc w (A,32,c,x))(ts:Sh.Tab w) :
  Calls Tryd.prog 11 #[.slice (some ⟨w.heap.size,0,none⟩) 1 1] (w.alloc (.cells #[.slice A 32 c] 22)) fun e w'=>∃g,e=.returned (.tuple #[.slice (some ⟨g,0,none⟩) 32 32,.int .i64 0])∧Pc w' (some ⟨g,0,none⟩,32,32,rootOf 1 x)∧Below w.heap.size w w':=by
 have BB:=(Below.refl w.heap.size w).alloc (Nat.le_refl _) (.cells #[.slice A 32 c] 22)
 refine(Root_one (c:=1) (r:=(A,32,c,x)) ⟨one_sl w (A,32,c,x),h.below BB,h.len.symm⟩ (ts.below BB)).mono ?_
 rintro e w' ⟨g,h1,h2,h3,h4⟩
 exact⟨g,h1,h2,BB.trans (h4.mono BB.size)⟩
theorem cells_two{g cap:Nat}{w:World}(h:Pc w (some ⟨g,0,none⟩,2,cap,[0,1])):w.cell? ⟨g,0,none⟩=some (.int .u8 0)∧w.cell? ⟨g,1,none⟩=some (.int .u8 1):=by
 have hr:Sl w (some ⟨g,0,none⟩) 2 (bl [0,1]):=h.row
 constructor
 ·obtain⟨a,e,hc⟩:=hr.at_ (by decide:0 < 2)
  cases e
  exact hc
 ·obtain⟨a,e,hc⟩:=hr.at_ (by decide:1 < 2)
  cases e
  exact hc
set_option maxRecDepth 100000 in
set_option maxHeartbeats 8000000 in
theorem known_any(w:World)(ts:Sh.Tab w):Calls Tryd.prog 8 #[] w fun e w'=>e=.returned (.bool true)∧Below w.heap.size w w':=by
 have C1:=Lib.hid (Count_ok 65 64 (by decide) (by decide) w)
 have TS:=Lib.hid ts
 clear ts
 go_enter Tryd.func8,Tryd.ntmps8
 go_wp2_with (go_at_call 30;(with_reducible refine C1.out.mono ?_);rintro e w0 ⟨rfl,rfl⟩;have C2:=Lib.hid (Empty_nine w);clear C1)
 go_wp2_with (go_at_call 31;(with_reducible refine C2.out.mono ?_);rintro e w1 ⟨g1,rfl,p1,h1,b1⟩;have D1:=Lib.hid b1;have C3:=Lib.hid (Put_eight p1);clear C2 p1 h1 b1)
 go_wp2_with (go_at_call 32;(with_reducible refine C3.out.mono ?_);rintro e w2 ⟨g2,cap,rfl,p2,h2,b2⟩;have D2:=Lib.hid (D1.out.trans (b2.mono D1.out.size));have P2:=Lib.hid p2;have C4:=Lib.hid (Leaf_five w2 (TS.out.below D2.out));clear C3 p2 h2 b2)
 go_wp2_with (go_at_call 9;(with_reducible refine C4.out.mono ?_);rintro e w3 ⟨g3,x,rfl,p3,b3⟩;have D3:=Lib.hid (D2.out.trans (b3.mono D2.out.size));have P23:=Lib.hid (P2.out.below b3);have P3:=Lib.hid p3;have C5:=Lib.hid (Root_of p3 (TS.out.below D3.out));clear C4 p3 b3)
 go_wp2_with (go_at_call 11;(with_reducible refine C5.out.mono ?_);rintro e w4 ⟨g4,rfl,p4,b4⟩;have D4:=Lib.hid (D3.out.trans (b4.mono D3.out.size));have P24:=Lib.hid (P23.out.below b4);have P34:=Lib.hid (P3.out.below b4);have P4:=Lib.hid p4;have C6:=Lib.hid (Missing_zero P24.out);obtain⟨k0,k1⟩:=cells_two P24.out;clear C5 p4 b4)
 go_wp2_with (go_at_call 33;(with_reducible refine C6.out.mono ?_);rintro e w5 ⟨rfl,b5⟩;have D5:=Lib.hid (D4.out.trans (b5.mono D4.out.size));have C7:=Lib.hid (Check_one (P4.out.below b5) (P34.out.below b5) (TS.out.below D5.out));clear C6 b5)
 go_wp2_with (go_at_call 16;(with_reducible refine C7.out.mono ?_);rintro e w6 ⟨rfl,b6⟩;have D6:=Lib.hid (D5.out.trans (b6.mono D5.out.size));clear C7 b6)
 go_ret
 exact⟨rfl,D6.out⟩
end Go.Proofs.YtnnfpmebopgogaaDoor.Mk
namespace Go.Proofs.YtnnfpmebopgogaaDoor.Mk
open Go.RowKit Go.Proofs.YtnnfpmebopgogaaDoor.Gn Go.Proofs.YtnnfpmebopgogaaDoor.Fd Go.Deep
theorem wf_i64{x:Int}(h:(Lit.int .i64 x).wf) : -9223372036854775808≤x∧x≤9223372036854775807:=by
 simpa[Lit.wf,IntKind.min,IntKind.max,IntKind.signed,IntKind.bits] using h
end Go.Proofs.YtnnfpmebopgogaaDoor.Mk
namespace Go.Proofs.YtnnfpmebopgogaaDoor.Gn
open Go.RowKit Go.Deep
section
variable {H:Type} {enc:TypeId × Value→H} {P:Program} {w:World} {base:Nat} {spare:Nat→Bool} {held:Bool}
theorem open_llc {t e u : TypeId} {a : Option Addr} {len cap : Nat} {d : DataW H} {ps : List MemPlace} (ht : P.underlying t = some (.slice e)) (he : P.underlying e = some (.slice u)) (hu : P.underlying u = some (.int .u8))
    (ce : P.cellsOf e = 1) (cu : P.cellsOf u = 1) (bu : P.bytesOf u = 1) (h : DataW.Trod enc P w base spare held t (.slice a len cap) d ps) (hr : ∀ x ∈ d.weights P t, x ≤ reachBytes) :
    ∃ rows : List Rw, LL w a len rows ∧ len ≤ 9223372036854775807 ∧ len ≤ cap := by
  obtain ⟨fuel, hf⟩ := h
  rcases open_slice1 ht ce hf with ⟨hcs, hx⟩ | ⟨x, l, c, m, n, V, D, Pl, hcs, hb, hl, hm, hmm, hx, hi⟩
  · simp [Value.cells] at hcs
    obtain ⟨rfl, rfl, rfl⟩ := hcs
    exact ⟨[], ⟨Sl.nil_ _ _, fun r hr => by cases hr⟩, Nat.zero_le _, Nat.le_refl _⟩
  · simp [Value.cells] at hcs
    obtain ⟨rfl, rfl, rfl⟩ := hcs
    have hle : len ≤ m := by rw [hmm]; split <;> omega
    simp only [Prod.mk.injEq] at hx
    obtain ⟨rfl, -⟩ := hx
    have key : ∀ i, i < len → ∃ r : Rw, V i = rwv r ∧ BL w r.1 r.2.1 r.2.2.1 r.2.2.2 ∧ r.2.1 ≤ 140737488351232 := by
      intro i hil
      obtain ⟨hc, hd⟩ := hi i (by omega)
      obtain ⟨A, k, c2, hV⟩ := Joins.slice_form he hd
      have hV' : V i = .slice A k c2 := by simpa using hV
      have hT : DataW.Trod enc P w base spare held e (.slice A k c2) (D i) (Pl i) := ⟨n, by rw [hV'] at hd; simpa [Value.cells] using hd⟩
      obtain ⟨li, hli⟩ := open_bl he hu cu (DataW.trod_lt n _ _ _ hd) hT
      refine ⟨(A, k, c2, li), hV', hli, ?_⟩
      have hw : ∀ x ∈ (D i).weights P e, x ≤ reachBytes := fun x hx => hr x (by
        have hm1 : x ∈ DataW.weightsAll P e ((List.range len).map D) := weights_mem hx _ (List.mem_map.2 ⟨i, List.mem_range.2 hil, rfl⟩)
        rw [DataW.weights, ht]
        exact List.mem_cons_of_mem _ (List.mem_append_left _ hm1))
      rw [hV'] at hd
      rcases open_slice1 he cu hd with ⟨hcs2, -⟩ | ⟨x2, l2, c3, m2, n2, V2, D2, Pl2, hcs2, -, -, -, hmm2, hx2, -⟩
      · simp at hcs2
        obtain ⟨-, rfl, -⟩ := hcs2
        exact Nat.zero_le _
      · simp at hcs2
        obtain ⟨-, rfl, rfl⟩ := hcs2
        simp only [Prod.mk.injEq] at hx2
        obtain ⟨hD, -⟩ := hx2
        have := hw ((k + (m2 - k)) * 1) (by simp only [hD, DataW.weights, he]; simp [bu])
        have hrb : reachBytes = 140737488351232 := rfl
        show k ≤ _
        omega
    obtain ⟨R, hR⟩ := choose_lt (α := Rw) (p := fun i r => V i = rwv r ∧ BL w r.1 r.2.1 r.2.2.1 r.2.2.2 ∧ r.2.1 ≤ 140737488351232) key
    refine ⟨(List.range len).map R, ⟨⟨by simp, fun k v hk => ?_⟩, fun r hr => ?_⟩, by unfold maxLen at hm; omega, by omega⟩
    · have hkl : k < len := by
        have := (List.getElem?_eq_some_iff.1 hk).1
        simpa using this
      rw [List.getElem?_map, List.getElem?_map, List.getElem?_range hkl] at hk
      simp at hk
      subst hk
      exact ⟨x, rfl, by rw [← (hR k hkl).1]; exact (hi k (by omega)).1⟩
    · obtain ⟨i, hi2, rfl⟩ := List.mem_map.1 hr
      exact (hR i (List.mem_range.1 hi2)).2
end
end Go.Proofs.YtnnfpmebopgogaaDoor.Gn
namespace Go.Proofs.YtnnfpmebopgogaaDoor.Mk
open Go.RowKit Go.Proofs.YtnnfpmebopgogaaDoor.Gn Go.Proofs.YtnnfpmebopgogaaDoor.Fd Go.Deep
theorem bl_pc2{w:World}{A:Option Addr}{n c:Nat}{l:List Nat}(h:BL w A n c l):Pc w (A,n,c,l):=by
 obtain⟨h1,h2,h3,h4,h5⟩:=h
 have e:l.length=n:=by have:=h1.1;rwa [bl_length] at this
 exact⟨e.symm,by rw[show((A,n,c,l):Rw).2.2.2.length=n from e];exact h1,h3,by rw[show((A,n,c,l):Rw).2.2.2.length=n from e];exact h5,h4⟩
end Go.Proofs.YtnnfpmebopgogaaDoor.Mk
