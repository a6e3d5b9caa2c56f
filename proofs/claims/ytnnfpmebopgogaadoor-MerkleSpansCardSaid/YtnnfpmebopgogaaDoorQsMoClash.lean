/- Joined texts. -/
import Derived.Test.YtnnfpmebopgogaaDoorQsMpLawO
import Derived.Test.YtnnfpmebopgogaaDoorQsMpPath
import Derived.Test.YtnnfpmebopgogaaDoorQsMpUp0
set_option linter.unusedVariables false
namespace Go.Proofs.YtnnfpmebopgogaaDoor.Mk
open Go.RowKit Go.Proofs.YtnnfpmebopgogaaDoor.Gn Go.Proofs.YtnnfpmebopgogaaDoor.Fd Go.Deep
def bad(xs:List (List Nat))(i k:Nat):Prop:=∃a b,xs[i]?=some a∧xs[k]?=some b∧Sh.dg false a=Sh.dg false b∧a≠b
theorem Cl.bad{xs:List (List Nat)}(h:Cl xs):∃i k,k < i∧i < xs.length∧bad xs i k:=by
 obtain⟨a,ha,b,hb,h1,h2⟩:=h
 obtain⟨i,hi,e1⟩:=List.mem_iff_getElem.1 ha
 obtain⟨k,hk,e2⟩:=List.mem_iff_getElem.1 hb
 have g1:xs[i]?=some a:=by rw[List.getElem?_eq_getElem hi,e1]
 have g2:xs[k]?=some b:=by rw[List.getElem?_eq_getElem hk,e2]
 rcases Nat.lt_trichotomy i k with h|h|h
 ·exact⟨k,i,h,hk,b,a,g2,g1,h2.symm,fun e=>h1 e.symm⟩
 ·subst h
  rw[g1] at g2
  exact absurd (Option.some.inj g2) h1
 ·exact⟨i,k,h,hi,a,b,g1,g2,h2,h1⟩
def ClA(m:Nat)(xs:List (List Nat))(w:World)(v i:Value)(wr:World):Prop :=
 ∃(k:Nat) (ds:List Rw),k≤m∧i=.int .i64 (k:Int)∧wr.ownsRow w.heap.size 22 1 v k (ds.map rwv)∧con ds=(xs.take k).map (Sh.dg false)∧(∀r∈ds,Po wr r)∧Below w.heap.size w wr
def ClB(m:Nat)(xs:List (List Nat))(w:World)(i:Value)(wr:World):Prop:=∃k:Nat,k≤m∧i=.int .i64 (k:Int)∧(∀a b,a < k→b < a→¬bad xs a b)∧Qt w wr
def ClC(i:Nat)(xs:List (List Nat))(w:World)(v:Value)(wr:World):Prop:=∃k:Nat,k≤i∧v=.int .i64 (k:Int)∧(∀b,b < k→¬bad xs i b)∧Qt w wr
set_option maxRecDepth 100000 in
set_option maxHeartbeats 8000000 in
theorem Clash_true {B : Option Addr} {m c : Nat} {P : List Rw} {w : World} (hm : m ≤ 100000) (hx : Sl w B m (P.map rwv)) (hp : ∀ r ∈ P, Pc w r ∧ r.2.2.2.length ≤ 1048576) (hc : Cl (con P)) :
    Calls Tryd.prog 22 #[.slice B m c] w fun e w' => e = .returned (.bool true) ∧ Below w.heap.size w w' := by
  obtain ⟨i0, hi, hz0, hz1, hz2⟩ := info_parts infobb
  have PL := Lib.hid (show P.length = m by have := hx.1; rwa [List.length_map] at this)
  have BAD := Lib.hid hc.bad
  have SX := Lib.hid hx
  have PX := Lib.hid hp
  have R0 := Lib.hid (show ClA m (con P) w (.slice none 0 0) (.int .i64 0) w from ⟨0, [], Nat.zero_le _, rfl, own_nil _ _ _, rfl, (fun r hr => by cases hr), Below.refl _ _⟩)
  clear hx hp hc
  go_enter Tryd.func22, Tryd.ntmps22
  go_wp2_with fail
  go_loopw [3, 4] (fun v i wr => ClA m (con P) w v i wr) (fun _ i _ => m - (intOf i).toNat)
  case atStart => exact R0.out
  case round =>
    obtain ⟨k, ds, hk, rfl, hown, hcon, hpo, hb⟩ := hrel
    have O1 := Lib.hid hown
    have CN := Lib.hid hcon
    have PO := Lib.hid hpo
    have HB := Lib.hid hb
    by_cases hlt : k < m
    · obtain ⟨ax, rfl, hcx⟩ := SX.out.at_ hlt
      obtain ⟨x, hx⟩ : ∃ x, P[k]? = some x := ⟨P[k]'(by have := PL.out; omega), List.getElem?_eq_getElem _⟩
      have hpx := (PX.out x (List.mem_of_getElem? hx)).1.below hb
      have hxl := (PX.out x (List.mem_of_getElem? hx)).2
      have HX := Lib.hid (show (con P)[k]? = some x.2.2.2 by simp [con, hx])
      obtain ⟨A1, n1, c1, l1⟩ := x
      have hc1 : wr.cell? (ax.add k) = some (.slice A1 n1 c1) := (hb.cell (cell_lt (by rw [hcx, List.getElem?_map, hx]; rfl))).trans (by rw [hcx, List.getElem?_map, hx]; rfl)
      have HS := Lib.hid (rhash_p hpx (by rw [show n1 = _ from hpx.len]; exact hxl))
      have hbs := hb.size
      clear hcx hx hpx hxl hown hcon hpo hb
      go_wp2_with (first
        | (go_at_call 36; (with_reducible refine HS.out.mono ?_); rintro e w2 ⟨DB, dl, db, rfl, hp, hb2⟩; have P2 := Lib.hid hp; have B2 := Lib.hid (HB.out.trans (hb2.mono HB.out.size)); have O2 := Lib.hid (own_below O1.out hb2); have PO2 := Lib.hid (fun r hr => (PO.out r hr).below hb2); clear hp hb2)
        | (at_builtin; refine wpList_append_sl rfl (.tmp 13) (.tmp 19) 23 rfl w.heap.size 22 i0 _ 24 Tryd.underlying23 hi hz0 hz1 hz2 rfl _ k (ds.map rwv) rfl (own_alloc O2.out _) (some ⟨w2.heap.size, 0, none⟩) 1 1 [.slice DB dl db] rfl (fun e => by cases e) (Sl.new_ w2 22 [.slice DB dl db]) (by intro u hu; simp at hu; subst hu; rfl) (by unfold maxLen; omega) (by omega) (by have := B2.out.size; simp; omega) ?_; intro v3 w3 hown3 hgr3; have O3 := Lib.hid hown3; have B3 := Lib.hid ((B2.out.alloc B2.out.size (.cells #[.slice DB dl db] 22)).grown hgr3 (by have := B2.out.size; simp; omega) (own_rows O2.out)); have PO3 := Lib.hid (show ∀ z ∈ ds ++ [((DB, dl, db, Sh.dg false l1) : Rw)], Po w3 z from fun z hz => by
            rcases List.mem_append.1 hz with h | h
            · exact ((PO2.out z h).alloc (.cells #[.slice DB dl db] 22)).grown (own_alloc O2.out _) hgr3
            · rw [show z = _ by simpa using h]; exact (P2.out.alloc (.cells #[.slice DB dl db] 22)).grown (own_alloc O2.out _) hgr3); clear hown3 hgr3))
      refine ⟨⟨k + 1, ds ++ [(DB, dl, db, Sh.dg false l1)], by omega, by go_num, ?_, ?_, PO3.out, B3.out⟩, by simp [intOf]; omega⟩
      · rw [List.map_append]; exact O3.out
      · rw [show con (ds ++ [((DB, dl, db, Sh.dg false l1) : Rw)]) = con ds ++ [Sh.dg false l1] by simp [con], CN.out, List.take_add_one, HX.out]
        simp
    · obtain rfl : k = m := by omega
      obtain ⟨A2, c2, rfl, s2, -, -, -, -⟩ := Sl.own O1.out
      have S2 := Lib.hid s2
      have DL := Lib.hid (show ds.length = k by have := s2.1; rwa [List.length_map] at this)
      clear hown hcon hpo hb s2
      obtain ⟨W0, hW0⟩ : ∃ z, z = wr := ⟨_, rfl⟩
      subst hW0
      go_wp2_with fail
      go_loopw [5] (fun i w' => ClB k (con P) W0 i w') (fun i _ => k - (intOf i).toNat)
      case atStart => exact ⟨0, Nat.zero_le _, rfl, (fun a b h => by omega), Qt.refl _⟩
      case round =>
        obtain ⟨i, hik, rfl, hno, hq⟩ := hrel
        have NO := Lib.hid hno
        have HQ := Lib.hid hq
        by_cases hil : i < k
        · clear hno hq
          go_wp2_with fail
          go_loopw [6] (fun j w' => ClC i (con P) W0 j w') (fun j _ => i - (intOf j).toNat)
          case atStart => exact ⟨0, Nat.zero_le _, rfl, (fun b h => by omega), HQ.out⟩
          case round =>
            obtain ⟨j, hji, rfl, hnj, hq⟩ := hrel
            have NJ := Lib.hid hnj
            have HJ := Lib.hid hq
            by_cases hjl : j < i
            · have hjk : j < k := by omega
              obtain ⟨ax, rfl, hcx⟩ := SX.out.at_ hil
              obtain ⟨ax', e', hcy⟩ := SX.out.at_ hjk
              cases e'
              obtain ⟨ad, rfl, hdx⟩ := S2.out.at_ hil
              obtain ⟨ad', e', hdy⟩ := S2.out.at_ hjk
              cases e'
              obtain ⟨x, hx⟩ : ∃ x, P[i]? = some x := ⟨P[i]'(by have := PL.out; omega), List.getElem?_eq_getElem _⟩
              obtain ⟨y, hy⟩ : ∃ y, P[j]? = some y := ⟨P[j]'(by have := PL.out; omega), List.getElem?_eq_getElem _⟩
              obtain ⟨dx, hdx'⟩ : ∃ x, ds[i]? = some x := ⟨ds[i]'(by have := DL.out; omega), List.getElem?_eq_getElem _⟩
              obtain ⟨dy, hdy'⟩ : ∃ y, ds[j]? = some y := ⟨ds[j]'(by have := DL.out; omega), List.getElem?_eq_getElem _⟩
              have hb2 := HB.out.trans (hq.below.mono HB.out.size)
              have hpx := (PX.out x (List.mem_of_getElem? hx)).1.below hb2
              have hpy := (PX.out y (List.mem_of_getElem? hy)).1.below hb2
              have hqx := (PO.out dx (List.mem_of_getElem? hdx')).1.below hq.below
              have hqy := (PO.out dy (List.mem_of_getElem? hdy')).1.below hq.below
              have ex : (con P)[i]? = some x.2.2.2 := by simp [con, hx]
              have ey : (con P)[j]? = some y.2.2.2 := by simp [con, hy]
              have fx : dx.2.2.2 = Sh.dg false x.2.2.2 := by
                have := congrArg (fun z => z[i]?) CN.out
                simpa [con, hdx', hx, hil] using this
              have fy : dy.2.2.2 = Sh.dg false y.2.2.2 := by
                have := congrArg (fun z => z[j]?) CN.out
                simpa [con, hdy', hy, hjk] using this
              have BB := Lib.hid (show bad (con P) i j ↔ (Sh.dg false x.2.2.2 = Sh.dg false y.2.2.2 ∧ x.2.2.2 ≠ y.2.2.2) from ⟨fun ⟨a, b, h1, h2, h3, h4⟩ => by rw [ex] at h1; rw [ey] at h2; cases h1; cases h2; exact ⟨h3, h4⟩, fun h => ⟨_, _, ex, ey, h.1, h.2⟩⟩)
              have c1 : wr.cell? (ax.add i) = some (rwv x) := (hb2.cell (cell_lt (by rw [hcx, List.getElem?_map, hx]; rfl))).trans (by rw [hcx, List.getElem?_map, hx]; rfl)
              have c2 : wr.cell? (ax.add j) = some (rwv y) := (hb2.cell (cell_lt (by rw [hcy, List.getElem?_map, hy]; rfl))).trans (by rw [hcy, List.getElem?_map, hy]; rfl)
              have c3 : wr.cell? (ad.add i) = some (rwv dx) := (hq.below.cell (cell_lt (by rw [hdx, List.getElem?_map, hdx']; rfl))).trans (by rw [hdx, List.getElem?_map, hdx']; rfl)
              have c4 : wr.cell? (ad.add j) = some (rwv dy) := (hq.below.cell (cell_lt (by rw [hdy, List.getElem?_map, hdy']; rfl))).trans (by rw [hdy, List.getElem?_map, hdy']; rfl)
              have key : ∀ (r : Rw), Pc wr r → ∀ n, (convert 22 9 (.slice r.1 r.2.1 r.2.2.1)).run Tryd.prog (wr.drewN n) = .ok (.string (txt r.2.2.2)) (wr.drewN n) := fun r h n =>
                run_txt (P := Tryd.prog) (wr.drewN n) 22 9 5 Tryd.underlying22 Tryd.underlying5 Tryd.underlying9 r.1 r.2.1 r.2.2.1 r.2.2.2 (by have h2 := h.row; rw [← h.len] at h2; exact h2.drewN n)
              have r1 := key x hpx
              have r2 := key y hpy
              have r3 := key dx hqx
              have r4 := key dy hqy
              have n1 := txt_ne hpx.lt hpy.lt
              have n2 := txt_ne hqx.lt hqy.lt
              rw [← fx, ← fy] at BB
              obtain ⟨X1, X2, X3, X4⟩ := x
              obtain ⟨Y1, Y2, Y3, Y4⟩ := y
              obtain ⟨Z1, Z2, Z3, Z4⟩ := dx
              obtain ⟨U1, U2, U3, U4⟩ := dy
              dsimp only [rwv] at c1 c2 c3 c4 r1 r2 r3 r4 n1 n2
              change Hid (bad (con P) i j ↔ (Z4 = U4 ∧ X4 ≠ Y4)) at BB
              have G1 := Lib.hid n1
              have G2 := Lib.hid n2
              obtain ⟨s1, h1⟩ : ∃ s, txt X4 = s := ⟨_, rfl⟩
              obtain ⟨s2, h2⟩ : ∃ s, txt Y4 = s := ⟨_, rfl⟩
              obtain ⟨s3, h3⟩ : ∃ s, txt Z4 = s := ⟨_, rfl⟩
              obtain ⟨s4, h4⟩ : ∃ s, txt U4 = s := ⟨_, rfl⟩
              rw [h1] at r1 G1
              rw [h2] at r2 G1
              rw [h3] at r3 G2
              rw [h4] at r4 G2
              by_cases hd : Z4 = U4
              · have t1 : (s3.toList == s4.toList) = true := by rw [← h3, ← h4, hd]; exact beq_self_eq_true _
                by_cases ht : X4 = Y4
                · have t2 : (s1.toList == s2.toList) = true := by rw [← h1, ← h2, ht]; exact beq_self_eq_true _
                  have NB := Lib.hid (show ¬ bad (con P) i j from fun h => (BB.out.1 h).2 ht)
                  clear hd ht h1 h2 h3 h4 BB
                  clear PX PO SX S2 hx hy hdx' hdy' hpx hpy hqx hqy ex ey fx fy hcx hcy hdx hdy hb2 key n1 n2 hnj hq
                  go_wp2_with fail
                  go_quiet (fail)
                  go_wp2_with fail
                  refine ⟨⟨j + 1, by omega, by go_num, ?_, HJ.out.more nq⟩, by simp [intOf]; omega⟩
                  intro b hb'
                  by_cases e : b = j
                  · subst e; exact NB.out
                  · exact NJ.out b (by omega)
                · have t2 : (s1.toList == s2.toList) = false := by rw [beq_eq_false_iff_ne]; exact G1.out ht
                  clear hd ht h1 h2 h3 h4 BB
                  clear PX PO SX S2 hx hy hdx' hdy' hpx hpy hqx hqy ex ey fx fy hcx hcy hdx hdy hb2 key n1 n2 hnj hq
                  go_wp2_with fail
                  go_quiet (fail)
                  go_wp2_with fail
                  go_ret
                  exact ⟨rfl, HB.out.trans ((HJ.out.more nq).below.mono HB.out.size)⟩
              · have t1 : (s3.toList == s4.toList) = false := by rw [beq_eq_false_iff_ne]; exact G2.out hd
                have NB := Lib.hid (show ¬ bad (con P) i j from fun h => hd (BB.out.1 h).1)
                clear hd h1 h2 h3 h4 BB
                clear PX PO SX S2 hx hy hdx' hdy' hpx hpy hqx hqy ex ey fx fy hcx hcy hdx hdy hb2 key n1 n2 hnj hq
                go_wp2_with fail
                go_quiet (fail)
                go_wp2_with fail
                refine ⟨⟨j + 1, by omega, by go_num, ?_, HJ.out.more nq⟩, by simp [intOf]; omega⟩
                intro b hb'
                by_cases e : b = j
                · subst e; exact NB.out
                · exact NJ.out b (by omega)
            · obtain rfl : j = i := by omega
              clear hnj hq
              go_wp2_with fail
              refine ⟨⟨j + 1, by omega, by go_num, ?_, HJ.out⟩, by simp [intOf]; omega⟩
              intro a b h1 h2
              by_cases e : a = j
              · subst e; exact NJ.out b h2
              · exact NO.out a b (by omega) h2
        · exfalso
          obtain ⟨a, b, h1, h2, h3⟩ := BAD.out
          rw [con_len, PL.out] at h2
          exact hno a b (by omega) h1 h3
end Go.Proofs.YtnnfpmebopgogaaDoor.Mk
