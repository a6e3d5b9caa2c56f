/- Joined texts. -/
import Derived.Test.YtmfpckbahgpojaaDoorQmMkCuts
set_option linter.unusedVariables false
namespace Go.Proofs.YtmfpckbahgpojaaDoor.Mk
open Go.RowKit Go.Proofs.YtmfpckbahgpojaaDoor.Gn Go.Proofs.YtmfpckbahgpojaaDoor.Fd Go.Deep
theorem ck_cat(l:List Nat)(q k:Nat):l.take (k*q) ++ ck l q k=l.take ((k+1)*q):=by
 unfold ck
 rw[Nat.succ_mul,List.take_add]
def WhRel(m:Nat)(l:List Nat)(q:Nat)(w:World)(a i:Value)(wr:World):Prop :=
 ∃k n,k≤m∧i=.int .i64 (k:Int)∧(l.take (k*q)).length=n∧wr.ownsRow w.heap.size 5 1 a n (bl (l.take (k*q)))∧Below w.heap.size w wr
set_option maxRecDepth 100000 in
set_option maxHeartbeats 8000000 in
theorem whole_ok {w : World} (ts : Sh.Tab w) {A : Option Addr} {L c : Nat} {l : List Nat} (h : Pc w (A, L, c, l)) (hL : L ≤ 5000) (q : Nat) (h64 : 64 ≤ q) (hq : q ≤ 1024) :
    Calls Tryd.prog 5 #[.slice A L c, .int .i64 (q : Int)] w fun e w' => e = .returned (.bool true) ∧ Below w.heap.size w w' := by
  obtain ⟨i0, hi, hz0, hz1, hz2⟩ := info_parts infob
  obtain ⟨m, hm⟩ : ∃ m, m = (L + q - 1) / q := ⟨_, rfl⟩
  have hm9 : m ≤ 131072 := by have := Nat.div_le_self (L + q - 1) q; omega
  have hmL : L ≤ m * q := by rw [hm]; have := Nat.lt_div_mul_add (a := L + q - 1) (b := q) (by omega); omega
  have hlt : ∀ i, i < m → i * q < L := by
    intro i hi
    rw [hm] at hi
    have := (Nat.lt_div_iff_mul_lt (by omega)).1 hi
    omega
  have C1 := Lib.hid (Cut_ok h q h64 hq (by omega) m hm)
  have C2 := fun w => Count_ok (L : Int) (q : Int) (by omega) (by omega) w
  rw [show ((L : Int) + (q : Int) - 1) / (q : Int) = (m : Int) by rw [hm, Int.natCast_ediv, show ((L + q - 1 : Nat) : Int) = (L : Int) + (q : Int) - 1 by omega]] at C2
  have C2 := Lib.hid C2
  have HL := Lib.hid (show l.length = L from h.len.symm)
  have HP := Lib.hid h
  have HLT := Lib.hid hlt
  have TS := Lib.hid ts
  clear h ts hm hlt
  go_enter Tryd.func5, Tryd.ntmps5
  go_wp2_with (go_at_call 10; (with_reducible refine C1.out.mono ?_); rintro e w1 ⟨rows, rfl, s1, c1, p1, b1⟩; have S1 := Lib.hid s1; have K1 := Lib.hid c1; have P1 := Lib.hid (fun r hr => (p1 r hr).pc); have B1 := Lib.hid b1; clear s1 c1 p1 b1 C1)
  have RL := Lib.hid (show rows.length = m by have := S1.out.1; rwa [List.length_map] at this)
  have R0 := Lib.hid (show WhRel m l q w1 (.slice none 0 0) (.int .i64 0) w1 from ⟨0, 0, Nat.zero_le _, rfl, by simp, by rw [Nat.zero_mul]; exact own_nil _ _ _, Below.refl _ _⟩)
  go_loopw [7, 8] (fun a i wr => WhRel m l q w1 a i wr) (fun _ i _ => m - (intOf i).toNat)
  case atStart => exact R0.out
  case round =>
    obtain ⟨k, n, hk, rfl, hn, hown, hb⟩ := hrel
    have HB := Lib.hid hb
    have OW := Lib.hid hown
    by_cases hlt : k < m
    · obtain ⟨r, hr⟩ : ∃ r, rows[k]? = some r := ⟨rows[k]'(by have := RL.out; omega), List.getElem?_eq_getElem _⟩
      have hc0 := S1.out.2 k (rwv r) (by rw [List.getElem?_map, hr]; rfl)
      obtain ⟨ad, hA, hcell⟩ := hc0
      cases hA
      have hpr := (P1.out r (List.mem_of_getElem? hr)).below hb
      have hxc : r.2.2.2 = ck l q k := by
        have := congrArg (fun z => z[k]?) K1.out
        rw [ck_fin] at this
        simpa [hr, hlt] using this
      obtain ⟨A1, n1, c1, x⟩ := r
      have hxc : x = ck l q k := hxc
      subst hxc
      have hcl : wr.cell? ⟨w.heap.size, k, none⟩ = some (.slice A1 n1 c1) := by
        have h9 := (hb.cell (cell_lt hcell)).trans hcell
        rw [Addr.add_lit, Nat.zero_add] at h9
        exact h9
      have e1 : (ck l q k).length = n1 := hpr.len.symm
      have e2 : n1 = ckl L q k := by rw [← e1, ck_len, HL.out]
      have hkq := HLT.out k hlt
      have hn1 : 0 < n1 := by rw [e2]; unfold ckl; omega
      have hn2 : n1 ≤ q := by rw [e2]; unfold ckl; exact Nat.min_le_left _ _
      have HCT := Lib.hid (ck_cat l q k)
      have hnn : n ≤ 5000 := by rw [← hn, List.length_take, HL.out]; omega
      have HN := Lib.hid hn
      have HE1 := Lib.hid e1
      have SR := Lib.hid (show Sl wr A1 n1 (bl (ck l q k)) from by have := hpr.row; rwa [show ((A1, n1, c1, ck l q k) : Rw).2.2.2.length = n1 from e1] at this)
      have NIL := Lib.hid hpr.nil
      have t1 : ((n1 : Int) == 0) = false := by rw [beq_eq_false_iff_ne]; omega
      have t3 : decide (q < n1) = false := decide_eq_false (by omega)
      have hbs := hb.size
      by_cases hl : k + 1 < m
      · have hn3 : n1 = q := by
          have h2 := HLT.out (k + 1) hl
          rw [Nat.succ_mul] at h2
          rw [e2]; unfold ckl; omega
        have t2 : decide ((k : Int) < (m : Int) - 1) = true := decide_eq_true (by omega)
        have t4 : ((n1 : Int) != (q : Int)) = false := by rw [hn3]; simp
        clear hr hcell hpr e1 e2 hkq hown hb hn hn3
        go_wp2_with (at_builtin; refine wpList_append_sl rfl (.tmp 66) (.tmp 70) 22 rfl w1.heap.size 5 i0 _ (8 / 8) Tryd.underlying22 hi hz0 hz1 hz2 rfl _ n (bl (l.take (k * q))) rfl OW.out A1 n1 c1 (bl (ck l q k)) rfl NIL.out SR.out (bl_one _) (by unfold maxLen; omega) (by omega) hbs ?_; intro v2 w2 hown2 hgr2; have O2 := Lib.hid hown2; have D2 := Lib.hid (HB.out.grown hgr2 hbs (fun x e => (World.ownsRow.lt OW.out x e).1)); clear hown2 hgr2)
        refine ⟨⟨k + 1, n + n1, by omega, by go_num, ?_, ?_, D2.out⟩, by simp [intOf]; omega⟩
        · rw [← HCT.out, List.length_append, HN.out, HE1.out]
        · rw [← HCT.out, bl_append]; exact O2.out
      · have t2 : decide ((k : Int) < (m : Int) - 1) = false := decide_eq_false (by omega)
        clear hr hcell hpr e1 e2 hkq hown hb hn
        go_wp2_with (at_builtin; refine wpList_append_sl rfl (.tmp 66) (.tmp 70) 22 rfl w1.heap.size 5 i0 _ (8 / 8) Tryd.underlying22 hi hz0 hz1 hz2 rfl _ n (bl (l.take (k * q))) rfl OW.out A1 n1 c1 (bl (ck l q k)) rfl NIL.out SR.out (bl_one _) (by unfold maxLen; omega) (by omega) hbs ?_; intro v2 w2 hown2 hgr2; have O2 := Lib.hid hown2; have D2 := Lib.hid (HB.out.grown hgr2 hbs (fun x e => (World.ownsRow.lt OW.out x e).1)); clear hown2 hgr2)
        refine ⟨⟨k + 1, n + n1, by omega, by go_num, ?_, ?_, D2.out⟩, by simp [intOf]; omega⟩
        · rw [← HCT.out, List.length_append, HN.out, HE1.out]
        · rw [← HCT.out, bl_append]; exact O2.out
    · obtain rfl : k = m := by omega
      have hl : l.take (k * q) = l := List.take_of_length_le (by rw [HL.out]; exact hmL)
      rw [hl] at hown hn
      rw [HL.out] at hn
      subst hn
      obtain ⟨A2, c2, rfl, hpc⟩ := own_any hown HL.out (HP.out.lt)
      have SB := Lib.hid ((same_pc hpc ((HP.out.below B1.out).below hb)).mono (R' := fun e w' => e = .returned (.bool true) ∧ wr = w') fun e w' h => ⟨by rw [h.1, decide_eq_true rfl], h.2⟩)
      have F8 := Lib.hid (known_any wr (TS.out.below (B1.out.trans (hb.mono B1.out.size))))
      have D9 := Lib.hid (B1.out.trans (hb.mono B1.out.size))
      clear hown hb hpc hl
      go_wp2_with (go_at_call 8; (with_reducible refine (C2.out _).mono ?_); rintro e w5 ⟨rfl, rfl⟩)
      go_wp2_with (go_at_call 19; (with_reducible refine SB.out.mono ?_); rintro e w6 ⟨rfl, rfl⟩)
      go_wp2_with (go_at_call 7; (with_reducible refine F8.out.mono ?_); rintro e w8 ⟨rfl, b8⟩; have D8 := Lib.hid (D9.out.trans (b8.mono D9.out.size)); clear b8)
      go_ret
      exact ⟨rfl, D8.out⟩
set_option maxRecDepth 100000 in
set_option maxHeartbeats 4000000 in
theorem whole_no{w:World}(ts:Sh.Tab w)(A:Option Addr)(L c:Nat)(hL:L≤5000)(q:Int)(hq : -9223372036854775808≤q∧q≤9223372036854775807)(h:q < 64∨1024 < q) :
  Calls Tryd.prog 5 #[.slice A L c,.int .i64 q] w fun e w'=>e=.returned (.bool true)∧Below w.heap.size w w':=by
 have C1:=Lib.hid (Cut_no A L c q 1 (.inl rfl) w (fun w=>Count_arg (L:Int) q (by omega) (by omega) hq w))
 have F8:=Lib.hid (known_any w ts)
 clear ts h hq
 go_enter Tryd.func5,Tryd.ntmps5
 go_wp2_with (go_at_call 10;(with_reducible refine C1.out.mono ?_);rintro e w1 ⟨rfl,rfl⟩)
 go_wp2_with (go_at_call 7;(with_reducible refine F8.out.mono ?_);rintro e w8 ⟨rfl,b8⟩;have D8:=Lib.hid b8;clear b8)
 go_ret
 exact⟨rfl,D8.out⟩
set_option maxRecDepth 100000 in
theorem whole_long{w:World}(ts:Sh.Tab w)(A:Option Addr)(m c:Nat)(hm:5000 < m)(q:Int) :
  Calls Tryd.prog 5 #[.slice A m c,.int .i64 q] w fun e w'=>e=.returned (.bool true)∧Below w.heap.size w w':=by
 have F8:=Lib.hid (known_any w ts)
 clear ts
 go_enter Tryd.func5,Tryd.ntmps5
 go_wp2_with (go_at_call 7;(with_reducible refine F8.out.mono ?_);rintro e w13 ⟨rfl,b13⟩;have D13:=Lib.hid b13;clear b13)
 go_ret
 exact⟨rfl,D13.out⟩
theorem walk_merkleWhole{w:World}(ts:Sh.Tab w)(A:Option Addr)(m c:Nat)(l:List Nat)(hl:BL w A m c l)(q:Int)(wp:(Lit.int .i64 q).wf) :
  Calls Tryd.prog 5 #[.slice A m c,.int .i64 q] w fun e w'=>e=.returned (.bool true)∧Below w.heap.size w w':=by
 by_cases hm:m≤5000
 ·by_cases h:q < 64∨1024 < q
  ·exact whole_no ts A m c hm q (wf_i64 wp) h
  ·obtain⟨b,rfl⟩:∃b:Nat,q=(b:Int):=⟨q.toNat,by omega⟩
   exact whole_ok ts (pc_bl hl) hm b (by omega) (by omega)
 ·exact whole_long ts A m c (by omega) q
end Go.Proofs.YtmfpckbahgpojaaDoor.Mk
