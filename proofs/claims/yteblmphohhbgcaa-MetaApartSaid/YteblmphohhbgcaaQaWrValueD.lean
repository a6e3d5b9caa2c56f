/- Joined texts. -/
import Derived.Deep.LoopGhost
import Derived.Deep.RegionWith
import Derived.Deep.RegionHeld3
import Derived.Test.YteblmphohhbgcaaQaWrValueC
import Derived.Test.YteblmphohhbgcaaQaWrBytes
set_option linter.unusedVariables false
namespace Go.Proofs.Yteblmphohhbgcaa.Wr
open Go.RowKit Go.Proofs.Yteblmphohhbgcaa.Gn Go.Proofs.Yteblmphohhbgcaa.Fd Go.Deep
theorem wgos_at{b c d:Int}{ks:List Tv}{j:Nat}{t:Tv}{dp kj:Int}(h:ks[j]?=some t):wgos b c d (ks.drop j) dp kj=if(wgo b c d t dp kj).1=0 then wgos b c d (ks.drop (j+1)) dp (wgo b c d t dp kj).2 else wgo b c d t dp kj:=by
 have hl:=(List.getElem?_eq_some_iff.1 h).1
 rw[List.drop_eq_getElem_cons hl,show ks[j]'hl=t from by have:=List.getElem?_eq_getElem hl;rw[h] at this;injection this with this;exact this.symm,wgos]
theorem szs_at{ks:List Tv}{j:Nat}{t:Tv}(h:ks[j]?=some t):szs (ks.drop j)=sz t+szs (ks.drop (j+1)):=by
 have hl:=(List.getElem?_eq_some_iff.1 h).1
 rw[List.drop_eq_getElem_cons hl,show ks[j]'hl=t from by have:=List.getElem?_eq_getElem hl;rw[h] at this;injection this with this;exact this.symm,szs]
theorem wbs_lenle:∀ {ks:List Tv},(∀t∈ks,(wb t).length≤10*sz t)→(wbs ks).length≤10*szs ks
 | [],_=>by simp[wbs]
 |t :: ts,h=>by
  have h1:=h t List.mem_cons_self
  have h2:=wbs_lenle (ks:=ts) fun x hx=>h x (List.mem_cons_of_mem _ hx)
  rw[wbs,szs,List.length_append];omega
mutual
theorem wgo_le(b c d:Int):∀(v:Tv) (dp k:Int),0≤k→0≤(wgo b c d v dp k).2∧(wgo b c d v dp k).2≤k+sz v
 |.mk K n r A cc ks,dp,k,h=>by
  have h2:=wgos_le b c d ks (dp+1) (k+1) (by omega)
  rw[wgo,sz]
  split
  ·constructor <;> simp only[] <;> omega
  ·split
   ·constructor <;> simp only[] <;> omega
   ·split
    ·split <;> constructor <;> simp only[] <;> omega
    ·split
     ·constructor <;> omega
     ·constructor <;> simp only[] <;> omega
theorem wgos_le(b c d:Int):∀(v:List Tv) (dp k:Int),0≤k→0≤(wgos b c d v dp k).2∧(wgos b c d v dp k).2≤k+szs v
 | [],dp,k,h=>by rw[wgos,szs];constructor <;> simp only[] <;> omega
 |t :: ts,dp,k,h=>by
  have h1:=wgo_le b c d t dp k h
  have h2:=wgos_le b c d ts dp (wgo b c d t dp k).2 h1.1
  rw[wgos,szs]
  split
  ·constructor <;> omega
  ·constructor <;> omega
end
set_option maxHeartbeats 4000000 in
set_option maxRecDepth 100000 in
theorem wvalue_list {w : World} {g : Nat} {a b c d k : Int} {l : List Nat} {T : Value} (h : Wt w g a b c d k l T) (K : Nat) (n : Nat) (r : Rw) (A : Option Addr) (m cc : Nat) (ks : List Tv) (deep : Int) (hd : ¬ b < deep) (hk : ¬ k = c) (k0 : 0 ≤ k) (k1 : k ≤ 1000000) (kk : Hid ((K : Int) = 3)) (hl : l.length + 10 * (1 + szs ks) ≤ 800000) (hm : ks.length = m) (hm9 : m ≤ 1000000) (hs : ∀ u, Below g w u → Sl u A (4 * ks.length) (flat ks)) (dp0 : 0 ≤ deep) (dp1 : deep ≤ 4000000) (hx : k + 1 + szs ks ≤ 1000000) (hlen : ∀ t ∈ ks, (wb t).length ≤ 10 * sz t)
    (ih : ∀ t ∈ ks, ∀ (u : World) (kj : Int) (lj : List Nat) (Tj : Value), Below g w u → Wt u g a b c d kj lj Tj → 0 ≤ kj → kj + sz t ≤ 1000000 → lj.length + 10 * sz t ≤ 800000 → Calls Try.prog 80 #[.pointer (some ⟨g, 0, none⟩), t.val, .int .i64 (deep + 1)] u (WvQ (wgo b c d t (deep + 1) kj) u g a b c d lj Tj (wb t))) :
    Calls Try.prog 80 #[.pointer (some ⟨g, 0, none⟩), .agg #[.int .i64 (K : Int), .int .u64 (n : Int), .slice r.1 r.2.1 r.2.2.1, .slice A m cc], .int .i64 deep] w (WvQ (wgos b c d ks (deep + 1) (k + 1)) w g a b c d l T (K :: (cb m ++ wbs ks))) := by
  obtain ⟨E, cap, rfl, -, -, -, -, -⟩ := Sl.own h.own
  obtain ⟨i0, hi, hz0, hz1, hz2⟩ := info_parts infob8
  have B0 := Lib.hid (below_one w (.cells #[.int .i64 (K : Int), .int .u64 (n : Int), .slice r.1 r.2.1 r.2.2.1, .slice A m cc] 80))
  have B0d := Lib.hid (below_drewN B0.out 1)
  have CB := Lib.hid (fun (u : World) (hu : Below w.heap.size w u) (x : Int) => wbegin_ok (h.below hu) x deep hd hk k0 k1)
  have c5 : (w.alloc (.cells #[.int .i64 (K : Int), .int .u64 (n : Int), .slice r.1 r.2.1 r.2.2.1, .slice A m cc] 80)).cell? ⟨g, 5, none⟩ = some (.slice E l.length cap) := (h.row.alloc _).cell_ rfl
  have glt : g < w.heap.size := Bl.lt (t := 121) h.row
  have N0 := Lib.hid (Bl.new_ w 80 #[.int .i64 (K : Int), .int .u64 (n : Int), .slice r.1 r.2.1 r.2.2.1, .slice A m cc])
  have HW := Lib.hid h
  have wk : IntKind.u8.wrap (K : Int) = (K : Int) := by rw [kk.out]; rfl
  clear h hd hk k1
  go_enter Try.func80, Try.ntmps80
  go_wp2_with fail
  refine wp_region_held_drew (S := fun _ => True) (by kernel_rfl) trivial (fun _ => ?_)
  refine take_l 0 (v := ?_) rfl (by kernel_rfl) (by kernel_rfl) (by kernel_rfl) (fun _ _ _ h => h) (Or.inl ⟨by rfl, ?_⟩) trivial ?_; rotate_left
  · intro w' hSw
    go_simp
    all_goals with_reducible rfl
  try simp only [Act.put, List.setIfInBounds_toArray, List.set_cons_zero, List.set_cons_succ]
  refine take_l 1 (v := ?_) rfl (by kernel_rfl) (by kernel_rfl) (by kernel_rfl) (fun _ _ _ h => h) (Or.inl ⟨by rfl, ?_⟩) trivial ?_; rotate_left
  · intro w' hSw
    go_simp
    all_goals with_reducible rfl
  try simp only [Act.put, List.setIfInBounds_toArray, List.set_cons_zero, List.set_cons_succ]
  refine take_l 2 (v := ?_) rfl (by kernel_rfl) (by kernel_rfl) (by kernel_rfl) (fun _ _ _ h => h) (Or.inl ⟨by rfl, ?_⟩) trivial ?_; rotate_left
  · intro w' hSw
    go_simp
    all_goals with_reducible rfl
  try simp only [Act.put, List.setIfInBounds_toArray, List.set_cons_zero, List.set_cons_succ]
  refine take_l 3 (v := ?_) rfl (by kernel_rfl) (by kernel_rfl) (by kernel_rfl) (fun _ _ _ h => h) (Or.inl ⟨by rfl, ?_⟩) trivial ?_; rotate_left
  · intro w' hSw
    go_simp
    all_goals with_reducible rfl
  try simp only [Act.put, List.setIfInBounds_toArray, List.set_cons_zero, List.set_cons_succ]
  refine take_l 4 (v := ?_) rfl (by kernel_rfl) (by kernel_rfl) (by kernel_rfl) (fun _ _ _ h => h) (Or.inl ⟨by rfl, ?_⟩) trivial ?_; rotate_left
  · intro w' hSw
    go_simp
    all_goals with_reducible rfl
  try simp only [Act.put, List.setIfInBounds_toArray, List.set_cons_zero, List.set_cons_succ]
  refine take_l 5 (v := ?_) rfl (by kernel_rfl) (by kernel_rfl) (by kernel_rfl) (fun _ _ _ h => h) (Or.inl ⟨by rfl, ?_⟩) trivial ?_; rotate_left
  · intro w' hSw
    go_simp
    all_goals with_reducible rfl
  try simp only [Act.put, List.setIfInBounds_toArray, List.set_cons_zero, List.set_cons_succ]
  refine take_l 8 (v := ?_) rfl (by kernel_rfl) (by kernel_rfl) (by kernel_rfl) (fun _ _ _ h => h) (Or.inl ⟨by rfl, ?_⟩) trivial ?_; rotate_left
  · intro w' hSw
    go_simp
    all_goals with_reducible rfl
  try simp only [Act.put, List.setIfInBounds_toArray, List.set_cons_zero, List.set_cons_succ]
  refine wpAnyH_ready (rs := [6]) (by kernel_rfl) (by simp) ?_
  refine cons_l rfl (fun K0 hK => ?_) AllReadyH.nil
  go_simp
  refine hK.out _ _ trivial (fun _ => ?_)
  clear hK K0
  try simp only [Act.put, List.setIfInBounds_toArray, List.set_cons_zero, List.set_cons_succ]
  refine take_l 7 (v := ?_) rfl (by kernel_rfl) (by kernel_rfl) (by kernel_rfl) (fun _ _ _ h => h) (Or.inl ⟨by rfl, ?_⟩) trivial ?_; rotate_left
  · intro w' hSw
    go_simp
    all_goals with_reducible rfl
  try simp only [Act.put, List.setIfInBounds_toArray, List.set_cons_zero, List.set_cons_succ]
  refine wpAnyH_ready (rs := [9]) (by kernel_rfl) (by simp) ?_
  refine cons_l rfl (fun K0 hK => ?_) AllReadyH.nil
  go_simp
  (go_at_call 91; (refine (CB.out _ B0d.out _).mono ?_); rintro e w1 ⟨rfl, h1, h2, h3⟩)
  have W1 := Lib.hid h1
  have F1 := Lib.hid h2
  have B1 := Lib.hid h3
  clear h1 h2 h3
  refine hK.out _ _ trivial (fun _ => ?_)
  clear hK K0
  try simp only [Act.put, List.setIfInBounds_toArray, List.set_cons_zero, List.set_cons_succ]
  refine wpAnyH_done (by kernel_rfl) ?_ _
  have F2 := Lib.hid ((Fr.of g (.slice E l.length cap) B0d.out).trans F1.out)
  have B2 := Lib.hid ((B0d.out.mono (Nat.le_of_lt glt)).trans B1.out)
  have O1 := Lib.hid HW.out.own
  have N1 := Lib.hid (show Bl w1 w.heap.size 80 _ from F1.out.bl (q := w.heap.size) (t := 80) (cs := #[.int .i64 (K : Int), .int .u64 (n : Int), .slice r.1 r.2.1 r.2.2.1, .slice A m cc]) N0.out (by omega) (own_lt HW.out.own (Nat.le_refl _)))
  have N1c : w1.cell? ⟨w.heap.size, 0, none⟩ = some (.int .i64 (K : Int)) := N1.out.cell_ rfl
  have c51 : w1.cell? ⟨g, 5, none⟩ = some (.slice E l.length cap) := W1.out.row.cell_ rfl
  have BA := Lib.hid (show Below w1.heap.size w1 (w1.alloc (.cells #[.int .u8 (K : Int)] 5)).drew from ((Below.refl _ w1).alloc (Nat.le_refl _) _).drew)
  have NA := Lib.hid (show Bl (w1.alloc (.cells #[.int .u8 (K : Int)] 5)).drew w.heap.size 80 _ from N1.out.below' BA.out)
  have NAc : (w1.alloc (.cells #[.int .u8 (K : Int)] 5)).cell? ⟨w.heap.size, 0, none⟩ = some (.int .i64 (K : Int)) := NA.out.cell_ rfl
  have RA := Lib.hid (W1.out.row.below' BA.out)
  have OA := Lib.hid (own_below W1.out.own BA.out)
  have c5A : (w1.alloc (.cells #[.int .u8 (K : Int)] 5)).cell? ⟨g, 5, none⟩ = some (.slice E l.length cap) := RA.out.cell_ rfl
  have SA := Lib.hid (show Sl (w1.alloc (.cells #[.int .u8 (K : Int)] 5)).drew (some ⟨w1.heap.size, 0, none⟩) 1 (bl [K]) from Sl.new_ w1 5 (bl [K]))
  have WAs := Lib.hid (show w.heap.size < w1.heap.size ∧ w1.heap.size < (w1.alloc (.cells #[.int .u8 (K : Int)] 5)).drew.heap.size from ⟨N1.out.lt, by show _ < (w1.alloc _).heap.size; simp⟩)
  go_upto_region 2 with fail
  apply region_cut (I := fun (E4 : Option Addr) (cap4 : Nat) w' => Wt w' g a b c d (k + 1) (l ++ [K]) (.slice E4 (l.length + 1) cap4) ∧ Fr w w' g (.slice E l.length cap) (.slice E4 (l.length + 1) cap4) ∧ Below g w w' ∧ Bl w' w.heap.size 80 #[.int .i64 (K : Int), .int .u64 (n : Int), .slice r.1 r.2.1 r.2.2.1, .slice A m cc])
  · refine wp_region_held_drew (S := fun w' => w'.cell? ⟨w.heap.size, 0, none⟩ = some (.int .i64 (K : Int))) (by kernel_rfl) (by exact N1c) (fun _ => ?_)
    refine take_l 0 (v := ?_) rfl (by kernel_rfl) (by kernel_rfl) (by kernel_rfl) (fun _ _ _ h => h) (Or.inl ⟨by rfl, ?_⟩) (by show World.cell? _ _ = _; first | exact N1c | exact NAc | exact N4c | exact N5c) ?_; rotate_left
    · intro w' hSw
      replace hSw : w'.cell? ⟨w.heap.size, 0, none⟩ = some (.int .i64 (K : Int)) := hSw
      go_simp
      all_goals with_reducible rfl
    try simp only [Act.put, List.setIfInBounds_toArray, List.set_cons_zero, List.set_cons_succ]
    refine take_l 1 (v := ?_) rfl (by kernel_rfl) (by kernel_rfl) (by kernel_rfl) (fun _ _ _ h => h) (Or.inl ⟨by rfl, ?_⟩) (by show World.cell? _ _ = _; first | exact N1c | exact NAc | exact N4c | exact N5c) ?_; rotate_left
    · intro w' hSw
      replace hSw : w'.cell? ⟨w.heap.size, 0, none⟩ = some (.int .i64 (K : Int)) := hSw
      go_simp
      all_goals with_reducible rfl
    try simp only [Act.put, List.setIfInBounds_toArray, List.set_cons_zero, List.set_cons_succ]
    refine take_l 2 (v := ?_) rfl (by kernel_rfl) (by kernel_rfl) (by kernel_rfl) (fun _ _ _ h => h) (Or.inl ⟨by rfl, ?_⟩) (by show World.cell? _ _ = _; first | exact N1c | exact NAc | exact N4c | exact N5c) ?_; rotate_left
    · intro w' hSw
      replace hSw : w'.cell? ⟨w.heap.size, 0, none⟩ = some (.int .i64 (K : Int)) := hSw
      go_simp
      all_goals with_reducible rfl
    try simp only [Act.put, List.setIfInBounds_toArray, List.set_cons_zero, List.set_cons_succ]
    refine take_l 3 (v := ?_) rfl (by kernel_rfl) (by kernel_rfl) (by kernel_rfl) (fun _ _ _ h => h) (Or.inl ⟨by rfl, ?_⟩) (by show World.cell? _ _ = _; first | exact N1c | exact NAc | exact N4c | exact N5c) ?_; rotate_left
    · intro w' hSw
      replace hSw : w'.cell? ⟨w.heap.size, 0, none⟩ = some (.int .i64 (K : Int)) := hSw
      go_simp
      all_goals with_reducible rfl
    try simp only [Act.put, List.setIfInBounds_toArray, List.set_cons_zero, List.set_cons_succ]
    refine take_l 5 (v := ?_) rfl (by kernel_rfl) (by kernel_rfl) (by kernel_rfl) (fun _ _ _ h => h) (Or.inl ⟨by rfl, ?_⟩) (by show World.cell? _ _ = _; first | exact N1c | exact NAc | exact N4c | exact N5c) ?_; rotate_left
    · intro w' hSw
      replace hSw : w'.cell? ⟨w.heap.size, 0, none⟩ = some (.int .i64 (K : Int)) := hSw
      go_simp
      all_goals with_reducible rfl
    try simp only [Act.put, List.setIfInBounds_toArray, List.set_cons_zero, List.set_cons_succ]
    refine take_l 6 (v := ?_) rfl (by kernel_rfl) (by kernel_rfl) (by kernel_rfl) (fun _ _ _ h => h) (Or.inl ⟨by rfl, ?_⟩) (by show World.cell? _ _ = _; first | exact N1c | exact NAc | exact N4c | exact N5c) ?_; rotate_left
    · intro w' hSw
      replace hSw : w'.cell? ⟨w.heap.size, 0, none⟩ = some (.int .i64 (K : Int)) := hSw
      go_simp
      all_goals with_reducible rfl
    try simp only [Act.put, List.setIfInBounds_toArray, List.set_cons_zero, List.set_cons_succ]
    refine take_l 7 (v := ?_) rfl (by kernel_rfl) (by kernel_rfl) (by kernel_rfl) (fun _ _ _ h => h) (Or.inl ⟨by rfl, ?_⟩) (by show World.cell? _ _ = _; first | exact N1c | exact NAc | exact N4c | exact N5c) ?_; rotate_left
    · intro w' hSw
      replace hSw : w'.cell? ⟨w.heap.size, 0, none⟩ = some (.int .i64 (K : Int)) := hSw
      go_simp
      all_goals with_reducible rfl
    try simp only [Act.put, List.setIfInBounds_toArray, List.set_cons_zero, List.set_cons_succ]
    refine wpAnyH_ready (rs := [4, 8]) (by kernel_rfl) (by simp) ?_
    refine cons_l rfl (fun K0 hK => ?_) (cons_l rfl (fun K0 hK => ?_) AllReadyH.nil)
    · go_simp
      refine hK.out _ _ (by show World.cell? _ _ = _; first | exact N1c | exact NAc | exact N4c | exact N5c) (fun _ => ?_)
      clear hK K0
      try simp only [Act.put, List.setIfInBounds_toArray, List.set_cons_zero, List.set_cons_succ]
      refine wpAnyH_ready (rs := [8]) (by kernel_rfl) (by simp) ?_
      refine cons_l rfl (fun K0 hK => ?_) AllReadyH.nil
      go_simp
      refine hK.out _ _ (by show World.cell? _ _ = _; first | exact N1c | exact NAc | exact N4c | exact N5c) (fun _ => ?_)
      clear hK K0
      try simp only [Act.put, List.setIfInBounds_toArray, List.set_cons_zero, List.set_cons_succ]
      refine wpAnyH_ready (rs := [9]) (by kernel_rfl) (by simp) ?_
      refine cons_l rfl (fun K0 hK => ?_) AllReadyH.nil
      refine step_append_at (w1.alloc (.cells #[.int .u8 (K : Int)] 5)).drew rfl _ _ 25 rfl (g + 1) 5 i0 _ 1 1 Try.underlying25 hi hz0 hz1 hz2 rfl (by decide) (.slice E l.length cap) l.length (bl l) rfl OA.out (some ⟨w1.heap.size, 0, none⟩) 1 1 (bl [K]) rfl (fun e => by cases e) SA.out (bl_one _) (by unfold maxLen; omega) (by omega) (by have := WAs.out; omega) ?_
      intro v4 w4 hown4 hgrow4 hat4
      have GR := Lib.hid hgrow4
      have AT := Lib.hid hat4
      have OW := Lib.hid hown4
      obtain ⟨E4, cap4, rfl, -, -, -, -, -⟩ := Sl.own hown4
      have R4 := Lib.hid (show Bl w4 g 121 _ from (hgrow4.block g (by have := WAs.out; omega) (fun e => by have := own_rows OA.out g e.symm; omega)).trans RA.out)
      have N4 := Lib.hid (show Bl w4 w.heap.size 80 _ from (hgrow4.block w.heap.size (by have := WAs.out; omega) (fun e => (own_lt O1.out (q := w.heap.size) (Nat.le_refl _)) e.symm)).trans NA.out)
      have N4c : w4.cell? ⟨w.heap.size, 0, none⟩ = some (.int .i64 (K : Int)) := N4.out.cell_ rfl
      have N5c : (w4.setCell ⟨g, 5, none⟩ (.slice E4 (l.length + 1) cap4)).cell? ⟨w.heap.size, 0, none⟩ = some (.int .i64 (K : Int)) := (N4.out.other (p := ⟨g, 5, none⟩) (by show w.heap.size ≠ g; omega) _).cell_ rfl
      have c54 : w4.cell? ⟨g, 5, none⟩ = some (.slice E l.length cap) := R4.out.cell_ rfl
      have f54 := R4.out.frozen 5
      clear hown4 hgrow4 hat4
      refine hK.out _ _ (by show World.cell? _ _ = _; first | exact N1c | exact NAc | exact N4c | exact N5c) (fun _ => ?_)
      clear hK K0
      try simp only [Act.put, List.setIfInBounds_toArray, List.set_cons_zero, List.set_cons_succ]
      refine wpAnyH_ready (rs := [10]) (by kernel_rfl) (by simp) ?_
      refine cons_l rfl (fun K0 hK => ?_) AllReadyH.nil
      go_simp
      refine hK.out _ _ (by show World.cell? _ _ = _; first | exact N1c | exact NAc | exact N4c | exact N5c) (fun _ => ?_)
      clear hK K0
      try simp only [Act.put, List.setIfInBounds_toArray, List.set_cons_zero, List.set_cons_succ]
      refine wpAnyH_ready (rs := [11]) (by kernel_rfl) (by simp) ?_
      refine cons_l rfl (fun K0 hK => ?_) AllReadyH.nil
      go_simp
      refine hK.out _ _ (by show World.cell? _ _ = _; first | exact N1c | exact NAc | exact N4c | exact N5c) (fun _ => ?_)
      clear hK K0
      try simp only [Act.put, List.setIfInBounds_toArray, List.set_cons_zero, List.set_cons_succ]
      refine wpAnyH_ready (rs := [12]) (by kernel_rfl) (by simp) ?_
      refine cons_l rfl (fun K0 hK => ?_) AllReadyH.nil
      go_simp
      refine hK.out _ _ (by show World.cell? _ _ = _; first | exact N1c | exact NAc | exact N4c | exact N5c) (fun _ => ?_)
      clear hK K0
      try simp only [Act.put, List.setIfInBounds_toArray, List.set_cons_zero, List.set_cons_succ]
      refine wpAnyH_done (by kernel_rfl) ?_ _
      refine ⟨E4, cap4, rfl, ⟨R4.out.set_ 5 _, ?_⟩, ⟨?_, ?_, ?_⟩, ?_, N4.out.other (p := ⟨g, 5, none⟩) (by show w.heap.size ≠ g; omega) _⟩
      · have h := ownsRow_setCell_below OW.out (a := ⟨g, 5, none⟩) (Nat.lt_succ_self g) (.slice E4 (l.length + 1) cap4)
        rw [List.length_append]
        simpa [bl] using h
      · rw [setc_size]; exact Nat.le_trans F2.out.size (Nat.le_trans BA.out.size GR.out.size)
      · intro j hj hg hT
        exact (Below.heap_setCell w4 ⟨g, 5, none⟩ _ j (by show j ≠ g; exact hg)).trans ((GR.out.block j (Nat.lt_of_lt_of_le hj (Nat.le_trans F2.out.size BA.out.size)) (fun e => hT e.symm)).trans ((BA.out.block j (Nat.lt_of_lt_of_le hj F2.out.size)).trans (F2.out.keep j hj hg hT)))
      · intro j hj
        rcases AT.out j hj with h | h
        · exact .inl h
        · exact .inr (Nat.le_trans (Nat.le_trans F2.out.size BA.out.size) h)
      · refine (((B2.out.trans (BA.out.mono ?_)).grown GR.out ?_ ?_).setCell (p := ⟨g, 5, none⟩) (Nat.le_refl _) _)
        · exact Nat.le_of_lt (Nat.lt_of_lt_of_le glt F2.out.size)
        · have := WAs.out; omega
        · intro j hj; have := own_rows OA.out j hj; omega
    · go_simp
      refine hK.out _ _ (by show World.cell? _ _ = _; first | exact N1c | exact NAc | exact N4c | exact N5c) (fun _ => ?_)
      clear hK K0
      try simp only [Act.put, List.setIfInBounds_toArray, List.set_cons_zero, List.set_cons_succ]
      refine wpAnyH_ready (rs := [4]) (by kernel_rfl) (by simp) ?_
      refine cons_l rfl (fun K0 hK => ?_) AllReadyH.nil
      go_simp
      refine hK.out _ _ (by show World.cell? _ _ = _; first | exact N1c | exact NAc | exact N4c | exact N5c) (fun _ => ?_)
      clear hK K0
      try simp only [Act.put, List.setIfInBounds_toArray, List.set_cons_zero, List.set_cons_succ]
      refine wpAnyH_ready (rs := [9]) (by kernel_rfl) (by simp) ?_
      refine cons_l rfl (fun K0 hK => ?_) AllReadyH.nil
      refine step_append_at (w1.alloc (.cells #[.int .u8 (K : Int)] 5)).drew rfl _ _ 25 rfl (g + 1) 5 i0 _ 1 1 Try.underlying25 hi hz0 hz1 hz2 rfl (by decide) (.slice E l.length cap) l.length (bl l) rfl OA.out (some ⟨w1.heap.size, 0, none⟩) 1 1 (bl [K]) rfl (fun e => by cases e) SA.out (bl_one _) (by unfold maxLen; omega) (by omega) (by have := WAs.out; omega) ?_
      intro v4 w4 hown4 hgrow4 hat4
      have GR := Lib.hid hgrow4
      have AT := Lib.hid hat4
      have OW := Lib.hid hown4
      obtain ⟨E4, cap4, rfl, -, -, -, -, -⟩ := Sl.own hown4
      have R4 := Lib.hid (show Bl w4 g 121 _ from (hgrow4.block g (by have := WAs.out; omega) (fun e => by have := own_rows OA.out g e.symm; omega)).trans RA.out)
      have N4 := Lib.hid (show Bl w4 w.heap.size 80 _ from (hgrow4.block w.heap.size (by have := WAs.out; omega) (fun e => (own_lt O1.out (q := w.heap.size) (Nat.le_refl _)) e.symm)).trans NA.out)
      have N4c : w4.cell? ⟨w.heap.size, 0, none⟩ = some (.int .i64 (K : Int)) := N4.out.cell_ rfl
      have N5c : (w4.setCell ⟨g, 5, none⟩ (.slice E4 (l.length + 1) cap4)).cell? ⟨w.heap.size, 0, none⟩ = some (.int .i64 (K : Int)) := (N4.out.other (p := ⟨g, 5, none⟩) (by show w.heap.size ≠ g; omega) _).cell_ rfl
      have c54 : w4.cell? ⟨g, 5, none⟩ = some (.slice E l.length cap) := R4.out.cell_ rfl
      have f54 := R4.out.frozen 5
      clear hown4 hgrow4 hat4
      refine hK.out _ _ (by show World.cell? _ _ = _; first | exact N1c | exact NAc | exact N4c | exact N5c) (fun _ => ?_)
      clear hK K0
      try simp only [Act.put, List.setIfInBounds_toArray, List.set_cons_zero, List.set_cons_succ]
      refine wpAnyH_ready (rs := [10]) (by kernel_rfl) (by simp) ?_
      refine cons_l rfl (fun K0 hK => ?_) AllReadyH.nil
      go_simp
      refine hK.out _ _ (by show World.cell? _ _ = _; first | exact N1c | exact NAc | exact N4c | exact N5c) (fun _ => ?_)
      clear hK K0
      try simp only [Act.put, List.setIfInBounds_toArray, List.set_cons_zero, List.set_cons_succ]
      refine wpAnyH_ready (rs := [11]) (by kernel_rfl) (by simp) ?_
      refine cons_l rfl (fun K0 hK => ?_) AllReadyH.nil
      go_simp
      refine hK.out _ _ (by show World.cell? _ _ = _; first | exact N1c | exact NAc | exact N4c | exact N5c) (fun _ => ?_)
      clear hK K0
      try simp only [Act.put, List.setIfInBounds_toArray, List.set_cons_zero, List.set_cons_succ]
      refine wpAnyH_ready (rs := [12]) (by kernel_rfl) (by simp) ?_
      refine cons_l rfl (fun K0 hK => ?_) AllReadyH.nil
      go_simp
      refine hK.out _ _ (by show World.cell? _ _ = _; first | exact N1c | exact NAc | exact N4c | exact N5c) (fun _ => ?_)
      clear hK K0
      try simp only [Act.put, List.setIfInBounds_toArray, List.set_cons_zero, List.set_cons_succ]
      refine wpAnyH_done (by kernel_rfl) ?_ _
      refine ⟨E4, cap4, rfl, ⟨R4.out.set_ 5 _, ?_⟩, ⟨?_, ?_, ?_⟩, ?_, N4.out.other (p := ⟨g, 5, none⟩) (by show w.heap.size ≠ g; omega) _⟩
      · have h := ownsRow_setCell_below OW.out (a := ⟨g, 5, none⟩) (Nat.lt_succ_self g) (.slice E4 (l.length + 1) cap4)
        rw [List.length_append]
        simpa [bl] using h
      · rw [setc_size]; exact Nat.le_trans F2.out.size (Nat.le_trans BA.out.size GR.out.size)
      · intro j hj hg hT
        exact (Below.heap_setCell w4 ⟨g, 5, none⟩ _ j (by show j ≠ g; exact hg)).trans ((GR.out.block j (Nat.lt_of_lt_of_le hj (Nat.le_trans F2.out.size BA.out.size)) (fun e => hT e.symm)).trans ((BA.out.block j (Nat.lt_of_lt_of_le hj F2.out.size)).trans (F2.out.keep j hj hg hT)))
      · intro j hj
        rcases AT.out j hj with h | h
        · exact .inl h
        · exact .inr (Nat.le_trans (Nat.le_trans F2.out.size BA.out.size) h)
      · refine (((B2.out.trans (BA.out.mono ?_)).grown GR.out ?_ ?_).setCell (p := ⟨g, 5, none⟩) (Nat.le_refl _) _)
        · exact Nat.le_of_lt (Nat.lt_of_lt_of_le glt F2.out.size)
        · have := WAs.out; omega
        · intro j hj; have := own_rows OA.out j hj; omega
  intro E4 cap4 w5 ⟨h1, h2, h3, h4⟩
  have W5 := Lib.hid h1
  have F5 := Lib.hid h2
  have B5 := Lib.hid h3
  have N5 := Lib.hid h4
  clear h1 h2 h3 h4 W1 F1 B1 F2 B2 N1 N1c c51 BA NA NAc RA OA c5A SA WAs O1 c5 N0
  have z0 : w5.cell? ⟨w.heap.size, 0, none⟩ = some (.int .i64 (K : Int)) := N5.out.cell_ rfl
  have z1 : w5.cell? ⟨w.heap.size, 1, none⟩ = some (.int .u64 (n : Int)) := N5.out.cell_ rfl
  have z2 : w5.cell? ⟨w.heap.size, 2, none⟩ = some (.slice r.1 r.2.1 r.2.2.1) := N5.out.cell_ rfl
  have z3 : w5.cell? ⟨w.heap.size, 3, none⟩ = some (.slice A m cc) := N5.out.cell_ rfl
  have kk := kk.out
  have mw : IntKind.u64.wrap (m : Int) = (m : Int) := by simp only [IntKind.wrap_u64]; omega
  have HL := Lib.hid hl
  have HK0 := Lib.hid k0
  have HX := Lib.hid hx
  have HM := Lib.hid hm
  have HS := Lib.hid hs
  have IH := Lib.hid ih
  have HLN := Lib.hid hlen
  have CC := Lib.hid (wcount_any W5.out (by simp; omega) m (by omega))
  have CL := Lib.hid (cb_len (n := m) (by omega))
  clear hl hx hm hs ih hlen
  go_wp2_with (go_at_call 92; (refine CC.out.mono ?_); rintro e w6 ⟨rfl, T6, h1, h2, h3⟩; have W6 := Lib.hid h1; have F6 := Lib.hid h2; have B6 := Lib.hid h3; have N6 := Lib.hid (show Bl w6 w.heap.size 80 _ from h2.bl (q := w.heap.size) (t := 80) (cs := #[.int .i64 (K : Int), .int .u64 (n : Int), .slice r.1 r.2.1 r.2.2.1, .slice A m cc]) N5.out (by omega) (own_ne W5.out.own N5.out (by decide))); have y3 : w6.cell? ⟨w.heap.size, 3, none⟩ = some (.slice A m cc) := N6.out.cell_ rfl; clear h1 h2 h3)
  clear kk z0 z1 z2 z3
  go_wp2_with fail
  go_loopg [79] m (fun g1 vi wr => ∃ (j : Nat) (kj : Int) (Tj : Value), vi = .int .i64 (j : Int) ∧ j ≤ m ∧ m - j ≤ g1 ∧ Hid (Wt wr g a b c d kj (l ++ [K] ++ cb m ++ wbs (ks.take j)) Tj) ∧ Hid (Fr w6 wr g T6 Tj) ∧ Hid (Below g w6 wr) ∧ Hid (wgos b c d ks (deep + 1) (k + 1) = wgos b c d (ks.drop j) (deep + 1) kj) ∧ Hid (0 ≤ kj ∧ kj + szs (ks.drop j) ≤ 1000000))
  case atStart =>
    exact ⟨0, k + 1, T6, rfl, Nat.zero_le _, Nat.le_refl _, Lib.hid (by have h := W6.out; simpa [wbs] using h), Lib.hid (Fr.refl _ _ _), Lib.hid (Below.refl _ _), Lib.hid rfl, Lib.hid ⟨by have := HK0.out; omega, by have := HX.out; simpa using this⟩⟩
  case round =>
    obtain ⟨j, kj, Tj, rfl, hj, hg, WJ, FJ, BJ, EJ, XJ⟩ := hrel
    by_cases hlt : j < m
    · obtain ⟨t, ht⟩ : ∃ t, ks[j]? = some t := ⟨_, List.getElem?_eq_getElem (by have := HM.out; omega)⟩
      have q0 : (j : Int) < (m : Int) := by omega
      have BWJ := Lib.hid (show Below g w wr from (B5.out.trans B6.out).trans BJ.out)
      obtain ⟨ad, rfl, hcl⟩ := kid_at (HS.out wr BWJ.out) ht (Below.refl _ wr)
      obtain ⟨ae, hae⟩ : ∃ ae, ad.add (j * 4) = ae := ⟨_, rfl⟩
      rw [Nat.mul_comm, hae] at hcl
      have SP := Lib.hid (wgos_at (b := b) (c := c) (d := d) (dp := deep + 1) (kj := kj) ht)
      have ZT := Lib.hid (szs_at ht)
      have ZL := Lib.hid (HLN.out t (List.mem_of_getElem? ht))
      have ZW := Lib.hid (wbs_snoc ht)
      have IT := Lib.hid (IH.out t (List.mem_of_getElem? ht))
      have LE := Lib.hid (wgo_le b c d t (deep + 1) kj XJ.out.1)
      cases t with
      | mk K2 N2 r2 B2 d2 us =>
      have c0 : wr.cell? ae = some (.int .i64 K2) := by have := hcl 0 _ rfl; rwa [ad_zero] at this
      have c1 : wr.cell? ⟨ae.block, ae.off + 1, none⟩ = some (.int .u64 N2) := by have := hcl 1 _ rfl; rwa [ad_pos _ (by decide)] at this
      have c2 : wr.cell? ⟨ae.block, ae.off + 2, none⟩ = some (.slice r2.1 r2.2.1 r2.2.2.1) := by have := hcl 2 _ rfl; rwa [ad_pos _ (by decide)] at this
      have c3 : wr.cell? ⟨ae.block, ae.off + 3, none⟩ = some (.slice B2 us.length d2) := by have := hcl 3 _ rfl; rwa [ad_pos _ (by decide)] at this
      clear hcl ht
      have BN := Lib.hid ((Below.refl wr.heap.size wr).alloc (Nat.le_refl _) (.cells #[.int .i64 K2, .int .u64 (N2 : Int), .slice r2.1 r2.2.1 r2.2.2.1, .slice B2 us.length d2] 80))
      have GL := Lib.hid WJ.out.row.lt
      have LJ : (l ++ [K] ++ cb m ++ wbs (ks.take j)).length + 10 * sz (.mk K2 N2 r2 B2 d2 us) ≤ 800000 := by
        have h1 := HL.out
        have h2 := CL.out
        have h3 : (wbs (ks.take j)).length ≤ 10 * szs (ks.take j) := wbs_lenle (fun t ht => HLN.out t (List.mem_of_mem_take ht))
        have h4 := szs_take ks j
        have h5 := ZT.out
        simp only [List.length_append, List.length_cons, List.length_nil]
        omega
      have KX : kj + sz (.mk K2 N2 r2 B2 d2 us) ≤ 1000000 := by have h1 := XJ.out.2; have h2 := ZT.out; omega
      have CR := Lib.hid (IT.out _ kj _ Tj (BWJ.out.trans (BN.out.mono (Nat.le_of_lt GL.out))) (WJ.out.below BN.out) XJ.out.1 KX LJ)
      have FA := Lib.hid (Fr.of g Tj BN.out)
      have BA := Lib.hid (BN.out.mono (Nat.le_of_lt GL.out))
      have dw : IntKind.i64.wrap (deep + 1) = deep + 1 := by simp only [IntKind.wrap_i64]; omega
      clear LJ KX
      by_cases h0 : (wgo b c d (.mk K2 N2 r2 B2 d2 us) (deep + 1) kj).1 = 0
      · have CO := Lib.hid (CR.out.mono fun e w' ⟨T7, hF, hB, h⟩ => (show e = Ending.returned (.tuple #[]) ∧ ∃ T7, Fr _ w' g Tj T7 ∧ Below g _ w' ∧ Wt w' g a b c d _ (l ++ [K] ++ cb m ++ wbs (ks.take j) ++ wb (.mk K2 N2 r2 B2 d2 us)) T7 from by
          rcases h with ⟨_, he, hW⟩ | ⟨hn, _⟩
          · exact ⟨he, T7, hF, hB, hW⟩
          · exact (hn h0).elim))
        have E7 := Lib.hid (show wgos b c d (ks.drop j) (deep + 1) kj = _ from SP.out.trans (if_pos h0))
        clear h0 CR SP dw
        go_wp2_with (go_at_call 80; (refine CO.out.mono ?_); rintro e w7 ⟨rfl, T7, h1, h2, h3⟩; have F7 := Lib.hid h1; have B7 := Lib.hid h2; have W7 := Lib.hid h3; clear h1 h2 h3)
        go_roundg (m - (j + 1))
        case measure => omega
        case rel =>
          refine ⟨j + 1, _, T7, by go_num, by omega, Nat.le_refl _, Lib.hid ?_, Lib.hid ((FJ.out.trans FA.out).trans F7.out), Lib.hid ((BJ.out.trans BA.out).trans B7.out), Lib.hid (EJ.out.trans E7.out), Lib.hid ⟨LE.out.1, ?_⟩⟩
          · have h := W7.out
            rw [ZW.out]
            simpa using h
          · have h1 := LE.out.2; have h2 := XJ.out.2; have h3 := ZT.out; omega
      · have CO := Lib.hid (CR.out.mono fun e w' ⟨T7, hF, hB, h⟩ => (show (∃ at_, e = pan at_ (wgo b c d (.mk K2 N2 r2 B2 d2 us) (deep + 1) kj).1) ∧ ∃ T7, Fr _ w' g Tj T7 ∧ Below g _ w' from by
          rcases h with ⟨hn, _⟩ | ⟨_, he⟩
          · exact (h0 hn).elim
          · exact ⟨he, T7, hF, hB⟩))
        have E7 := Lib.hid (show wgos b c d (ks.drop j) (deep + 1) kj = _ from SP.out.trans (if_neg h0))
        have H0 := Lib.hid h0
        clear h0 CR SP dw
        go_wp2_with (go_at_call 80; (refine CO.out.mono ?_); rintro e w7 ⟨⟨at_, rfl⟩, T7, h1, h2⟩; have F7 := Lib.hid h1; have B7 := Lib.hid h2; clear h1 h2)
        refine ⟨rfl, T7, (F5.out.trans F6.out).trans ((FJ.out.trans FA.out).trans F7.out), (B5.out.trans B6.out).trans ((BJ.out.trans BA.out).trans B7.out), .inr ?_⟩
        rw [EJ.out, E7.out]
        exact ⟨H0.out, at_, rfl⟩
    · obtain rfl : j = m := by omega
      have q0 : ¬ (j : Int) < (j : Int) := by omega
      have e : ks.take j = ks := List.take_of_length_le (by have := HM.out; omega)
      have e2 : ks.drop j = [] := List.drop_eq_nil_of_le (by have := HM.out; omega)
      rw [e] at WJ
      rw [e2] at EJ
      clear e e2
      go_wp2_with fail
      first | go_end0 | refine bodyPost_ret (results_none rfl _ _ _) rfl ?_
      refine ⟨Tj, (F5.out.trans F6.out).trans FJ.out, (B5.out.trans B6.out).trans BJ.out, .inl ?_⟩
      rw [EJ.out, wgos]
      refine ⟨rfl, rfl, ?_⟩
      have h := WJ.out
      simpa using h
end Go.Proofs.Yteblmphohhbgcaa.Wr
