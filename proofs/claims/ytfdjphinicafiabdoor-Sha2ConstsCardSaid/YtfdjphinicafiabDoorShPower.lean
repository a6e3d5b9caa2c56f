/-
  The document's package's own arithmetic: powers.
-/
import Derived.Test.YtfdjphinicafiabDoorShAbove
namespace Go.Proofs.YtfdjphinicafiabDoor.Sh
open Go.RowKit Go.Proofs.YtfdjphinicafiabDoor.Gn Go.Deep
set_option linter.unusedVariables false
attribute [local go_sem ↓] Go.wp_at_zero Go.wp_at_succ

def PW (x0 x1 x2 : Nat) (g : Nat) (w0 : World) (i : Value) (wr : World) : Prop :=
  ∃ k : Nat, i = .int .i64 (k : Int) ∧ w0.grownBy wr (some g) ∧
    ((k = 0 ∧ Bl wr g 22 (nl [x0, x1, x2]).toArray) ∨ (k = 1 ∧ ¬ x0 + 1 < 4294967296 ∧ Bl wr g 22 (nl [0, x1, x2]).toArray) ∨ (k = 2 ∧ ¬ x0 + 1 < 4294967296 ∧ ¬ x1 + 1 < 4294967296 ∧ Bl wr g 22 (nl [0, 0, x2]).toArray))
theorem bl_sl {w : World} {g n : Nat} {l : List Nat} (h : Bl w g 22 (nl l).toArray) (hn : l.length = n) : Sl w (some ⟨g, 0, none⟩) n (nl l) :=
  Sl.of_bl h 0 n _ (by rw [nl_length, hn]) (fun k v hk => by rw [Nat.zero_add]; simpa using hk)
theorem times_n (a b : List Nat) (n m L : Nat) (hn : a.length = n) (hm : b.length = m) (hL : n + m = L) (A B : Option Addr) (c d : Nat) (w : World) (hn1 : n ≤ 12) (hm1 : m ≤ 12) (ha : Sl w A n (nl a)) (hb : Sl w B m (nl b)) :
    Calls Tryd.prog 51 #[.slice A n c, .slice B m d] w fun e w' => ∃ g, e = .returned (.slice (some ⟨g, 0, none⟩) L L) ∧ w.heap.size ≤ g ∧ Bl w' g 22 (nl (tm a b)).toArray ∧ Below w.heap.size w w' := by
  subst hL; exact times_any a b n m hn hm A B c d w hn1 hm1 ha hb
set_option maxRecDepth 100000 in
set_option maxHeartbeats 2000000 in
theorem power2_false (h c : Nat) (w : World) (hh : h ≤ 21) (hc : c < 18446744073709551616) :
    Calls Tryd.prog 38 #[.int .u64 (h : Int), .int .u64 (c : Int), .int .i64 2, .bool false] w fun e w' => ∃ g L : Nat, e = .returned (.slice (some ⟨g, 0, none⟩) L L) ∧ (pw h c 2 false).length = L ∧ L ≤ 9 ∧ Bl w' g 22 (nl (pw h c 2 false)).toArray ∧ Below w.heap.size w w' := by
  obtain ⟨c0, hc0⟩ : ∃ x, x = c % 4294967296 := ⟨_, rfl⟩
  obtain ⟨c1, hc1⟩ : ∃ x, x = c / 4294967296 := ⟨_, rfl⟩
  have e0 : (c : Int) % 4294967296 = (c0 : Int) := by omega
  have e1 : (c : Int) / 4294967296 = (c1 : Int) := by omega
  have e0' : IntKind.u64.wrap (c0 : Int) = (c0 : Int) := by rw [IntKind.wrap_u64]; omega
  have e1' : IntKind.u64.wrap (c1 : Int) = (c1 : Int) := by rw [IntKind.wrap_u64]; omega
  have b0 := Lib.hid (show c0 < 4294967296 ∧ c1 < 4294967296 from by omega)
  obtain ⟨R, hR⟩ : ∃ R : List Nat, R = pr0 h c false := ⟨_, rfl⟩
  have PWE := Lib.hid (show pw h c 2 false = tm R R by rw [hR]; rfl)
  have HR := Lib.hid (show R = [c0, c1, h] by rw [hR, hc0, hc1]; rfl)
  clear hc hc0 hc1 hR
  go_enter Tryd.func38, Tryd.ntmps38
  go_upto_region 2 with fail
  have C0 := Lib.hid (show Bl (w.alloc (.cells #[.int .u64 (c0 : Int), .int .u64 (c1 : Int), .int .u64 (h : Int)] 22)) w.heap.size 22 (nl [c0, c1, h]).toArray from Bl.new_ _ _ _)
  have D0' := Lib.hid (show Below w.heap.size w (w.alloc (.cells #[.int .u64 (c0 : Int), .int .u64 (c1 : Int), .int .u64 (h : Int)] 22)) from (Below.refl _ _).alloc (Nat.le_refl _) _)
  obtain ⟨g, hg⟩ : ∃ g, g = w.heap.size := ⟨_, rfl⟩
  have HG := Lib.hid hg
  rw [← hg] at C0 ⊢
  generalize w.alloc _ = w0 at C0 D0' ⊢
  clear hg e0 e1 e0' e1'
  have D0 := Lib.hid D0'.out
  have R3 := Lib.hid (show R.length = 3 by rw [HR.out]; rfl)
  have S := Lib.hid (show Sl w0 (some ⟨g, 0, none⟩) 3 (nl R) by rw [HR.out]; exact bl_sl C0.out rfl)
  go_wp2_with (go_at_call 51; (with_reducible refine (times_n R R 3 3 6 R3.out R3.out rfl _ _ 3 3 w0 (by decide) (by decide) S.out S.out).mono ?_); rintro e w1 ⟨g1, rfl, -, hb1, hd1⟩; have B1 := Lib.hid hb1; have D1 := Lib.hid hd1; clear hb1 hd1)
  go_ret
  exact ⟨g1, 6, rfl, by rw [PWE.out, tm_len, R3.out], by decide, by rw [PWE.out]; exact B1.out, D0.out.trans (D1.out.mono D0.out.size)⟩
set_option maxRecDepth 100000 in
set_option maxHeartbeats 2000000 in
theorem power2_true (h c : Nat) (w : World) (hh : h ≤ 21) (hc : c < 18446744073709551616) :
    Calls Tryd.prog 38 #[.int .u64 (h : Int), .int .u64 (c : Int), .int .i64 2, .bool true] w fun e w' => ∃ g L : Nat, e = .returned (.slice (some ⟨g, 0, none⟩) L L) ∧ (pw h c 2 true).length = L ∧ L ≤ 9 ∧ Bl w' g 22 (nl (pw h c 2 true)).toArray ∧ Below w.heap.size w w' := by
  obtain ⟨c0, hc0⟩ : ∃ x, x = c % 4294967296 := ⟨_, rfl⟩
  obtain ⟨c1, hc1⟩ : ∃ x, x = c / 4294967296 := ⟨_, rfl⟩
  have e0 : (c : Int) % 4294967296 = (c0 : Int) := by omega
  have e1 : (c : Int) / 4294967296 = (c1 : Int) := by omega
  have e0' : IntKind.u64.wrap (c0 : Int) = (c0 : Int) := by rw [IntKind.wrap_u64]; omega
  have e1' : IntKind.u64.wrap (c1 : Int) = (c1 : Int) := by rw [IntKind.wrap_u64]; omega
  have b0 := Lib.hid (show c0 < 4294967296 ∧ c1 < 4294967296 from by omega)
  obtain ⟨R, hR⟩ : ∃ R : List Nat, R = pr0 h c true := ⟨_, rfl⟩
  have PWE := Lib.hid (show pw h c 2 true = tm R R by rw [hR]; rfl)
  have HR := Lib.hid (show R = incl [c0, c1, h] by rw [hR, hc0, hc1]; rfl)
  clear hc hc0 hc1 hR
  go_enter Tryd.func38, Tryd.ntmps38
  go_upto_region 2 with fail
  have C0 := Lib.hid (show Bl (w.alloc (.cells #[.int .u64 (c0 : Int), .int .u64 (c1 : Int), .int .u64 (h : Int)] 22)) w.heap.size 22 (nl [c0, c1, h]).toArray from Bl.new_ _ _ _)
  have D0' := Lib.hid (show Below w.heap.size w (w.alloc (.cells #[.int .u64 (c0 : Int), .int .u64 (c1 : Int), .int .u64 (h : Int)] 22)) from (Below.refl _ _).alloc (Nat.le_refl _) _)
  obtain ⟨g, hg⟩ : ∃ g, g = w.heap.size := ⟨_, rfl⟩
  have HG := Lib.hid hg
  rw [← hg] at C0 ⊢
  generalize w.alloc _ = w0 at C0 D0' ⊢
  clear hg e0 e1 e0' e1'
  go_wp2_with fail
  go_loopw [10] (fun i wr => PW c0 c1 h g w0 i wr) (fun i _ => 3 - (intOf i).toNat)
  case atStart => exact ⟨0, rfl, World.grownBy.refl _ _, .inl ⟨rfl, C0.out⟩⟩
  case round =>
    obtain ⟨k, rfl, hgr, hcs⟩ := hrel
    have GR := Lib.hid hgr
    clear hgr
    rcases hcs with ⟨rfl, hbl⟩ | ⟨rfl, n0, hbl⟩ | ⟨rfl, n0, n1, hbl⟩
    · have BB := Lib.hid hbl
      clear hbl
      have co : wr.cell? ⟨g, 0, none⟩ = some (.int .u64 (c0 : Int)) := BB.out.cell_ rfl
      have fz := BB.out.frozen 0
      obtain ⟨X, hX⟩ : ∃ X, X = c0 + 1 := ⟨_, rfl⟩
      have eX : IntKind.u64.wrap ((c0 : Int) + 1) = (X : Int) := by rw [IntKind.wrap_u64]; have := b0.out; omega
      have B2 := Lib.hid (show Bl (wr.setCell ⟨g, 0, none⟩ (.int .u64 (X : Int))) g 22 (nl [X, c1, h]).toArray by have := BB.out.set_ 0 (.int .u64 (X : Int)); rw [nl_set] at this; exact this)
      have G2 := Lib.hid (show w0.grownBy (wr.setCell ⟨g, 0, none⟩ (.int .u64 (X : Int))) (some g) from only_set GR.out (.inl rfl) _)
      have c2 : (wr.setCell ⟨g, 0, none⟩ (.int .u64 (X : Int))).cell? ⟨g, 0, none⟩ = some (.int .u64 (X : Int)) := B2.out.cell_ rfl
      have f2 := B2.out.frozen 0
      by_cases hlt : X < 4294967296
      · have HV := Lib.hid (show R = [X, c1, h] by rw [HR.out]; simp only [incl]; rw [if_pos (by omega), ← hX])
        have ht : decide ((X : Int) < 4294967296) = true := decide_eq_true (by omega)
        clear hlt hX
        have D0 := Lib.hid (D0'.out.grown G2.out D0'.out.size (fun x e => by injection e with e; have := HG.out; omega))
        have R3 := Lib.hid (show R.length = 3 by rw [HV.out]; rfl)
        have S := Lib.hid (show Sl (wr.setCell ⟨g, 0, none⟩ (.int .u64 (X : Int))) (some ⟨g, 0, none⟩) 3 (nl R) by rw [HV.out]; exact bl_sl B2.out rfl)
        go_wp2_with (go_at_call 51; (with_reducible refine (times_n R R 3 3 6 R3.out R3.out rfl _ _ 3 3 _ (by decide) (by decide) S.out S.out).mono ?_); rintro e w1 ⟨g1, rfl, -, hb1, hd1⟩; have B1 := Lib.hid hb1; have D1 := Lib.hid hd1; clear hb1 hd1)
        go_ret
        exact ⟨g1, 6, rfl, by rw [PWE.out, tm_len, R3.out], by decide, by rw [PWE.out]; exact B1.out, D0.out.trans (D1.out.mono D0.out.size)⟩
      · have ht : decide ((X : Int) < 4294967296) = false := decide_eq_false (by omega)
        have NN := Lib.hid (show ¬ c0 + 1 < 4294967296 by omega)
        clear hlt hX
        go_wp2_with fail
        go_roundw
        case rel =>
          refine ⟨1, rfl, only_set G2.out (.inl rfl) _, .inr (.inl ⟨rfl, NN.out, ?_⟩)⟩
          have := B2.out.set_ 0 (.int .u64 ((0 : Nat) : Int))
          rw [nl_set] at this
          exact this
        case measure => simp [intOf] <;> omega
    · have BB := Lib.hid hbl
      have N0 := Lib.hid n0
      clear hbl n0
      have co : wr.cell? ⟨g, 1, none⟩ = some (.int .u64 (c1 : Int)) := BB.out.cell_ rfl
      have fz := BB.out.frozen 1
      obtain ⟨X, hX⟩ : ∃ X, X = c1 + 1 := ⟨_, rfl⟩
      have eX : IntKind.u64.wrap ((c1 : Int) + 1) = (X : Int) := by rw [IntKind.wrap_u64]; have := b0.out; omega
      have B2 := Lib.hid (show Bl (wr.setCell ⟨g, 1, none⟩ (.int .u64 (X : Int))) g 22 (nl [0, X, h]).toArray by have := BB.out.set_ 1 (.int .u64 (X : Int)); rw [nl_set] at this; exact this)
      have G2 := Lib.hid (show w0.grownBy (wr.setCell ⟨g, 1, none⟩ (.int .u64 (X : Int))) (some g) from only_set GR.out (.inl rfl) _)
      have c2 : (wr.setCell ⟨g, 1, none⟩ (.int .u64 (X : Int))).cell? ⟨g, 1, none⟩ = some (.int .u64 (X : Int)) := B2.out.cell_ rfl
      have f2 := B2.out.frozen 1
      by_cases hlt : X < 4294967296
      · have HV := Lib.hid (show R = [0, X, h] by rw [HR.out]; simp only [incl]; rw [if_neg N0.out, if_pos (by omega), ← hX])
        have ht : decide ((X : Int) < 4294967296) = true := decide_eq_true (by omega)
        clear hlt hX
        have D0 := Lib.hid (D0'.out.grown G2.out D0'.out.size (fun x e => by injection e with e; have := HG.out; omega))
        have R3 := Lib.hid (show R.length = 3 by rw [HV.out]; rfl)
        have S := Lib.hid (show Sl (wr.setCell ⟨g, 1, none⟩ (.int .u64 (X : Int))) (some ⟨g, 0, none⟩) 3 (nl R) by rw [HV.out]; exact bl_sl B2.out rfl)
        go_wp2_with (go_at_call 51; (with_reducible refine (times_n R R 3 3 6 R3.out R3.out rfl _ _ 3 3 _ (by decide) (by decide) S.out S.out).mono ?_); rintro e w1 ⟨g1, rfl, -, hb1, hd1⟩; have B1 := Lib.hid hb1; have D1 := Lib.hid hd1; clear hb1 hd1)
        go_ret
        exact ⟨g1, 6, rfl, by rw [PWE.out, tm_len, R3.out], by decide, by rw [PWE.out]; exact B1.out, D0.out.trans (D1.out.mono D0.out.size)⟩
      · have ht : decide ((X : Int) < 4294967296) = false := decide_eq_false (by omega)
        have NN := Lib.hid (show ¬ c1 + 1 < 4294967296 by omega)
        clear hlt hX
        go_wp2_with fail
        go_roundw
        case rel =>
          refine ⟨2, rfl, only_set G2.out (.inl rfl) _, .inr (.inr ⟨rfl, N0.out, NN.out, ?_⟩)⟩
          have := B2.out.set_ 1 (.int .u64 ((0 : Nat) : Int))
          rw [nl_set] at this
          exact this
        case measure => simp [intOf] <;> omega
    · have BB := Lib.hid hbl
      have N0 := Lib.hid n0
      have N1 := Lib.hid n1
      clear hbl n0 n1
      have co : wr.cell? ⟨g, 2, none⟩ = some (.int .u64 (h : Int)) := BB.out.cell_ rfl
      have fz := BB.out.frozen 2
      obtain ⟨X, hX⟩ : ∃ X, X = h + 1 := ⟨_, rfl⟩
      have eX : IntKind.u64.wrap ((h : Int) + 1) = (X : Int) := by rw [IntKind.wrap_u64]; have := b0.out; omega
      have B2 := Lib.hid (show Bl (wr.setCell ⟨g, 2, none⟩ (.int .u64 (X : Int))) g 22 (nl [0, 0, X]).toArray by have := BB.out.set_ 2 (.int .u64 (X : Int)); rw [nl_set] at this; exact this)
      have G2 := Lib.hid (show w0.grownBy (wr.setCell ⟨g, 2, none⟩ (.int .u64 (X : Int))) (some g) from only_set GR.out (.inl rfl) _)
      have c2 : (wr.setCell ⟨g, 2, none⟩ (.int .u64 (X : Int))).cell? ⟨g, 2, none⟩ = some (.int .u64 (X : Int)) := B2.out.cell_ rfl
      have f2 := B2.out.frozen 2
      have hlt : X < 4294967296 := by omega
      have HV := Lib.hid (show R = [0, 0, X] by rw [HR.out]; simp only [incl]; rw [if_neg N0.out, if_neg N1.out, if_pos (by omega), ← hX])
      have ht : decide ((X : Int) < 4294967296) = true := decide_eq_true (by omega)
      clear hlt hX
      have D0 := Lib.hid (D0'.out.grown G2.out D0'.out.size (fun x e => by injection e with e; have := HG.out; omega))
      have R3 := Lib.hid (show R.length = 3 by rw [HV.out]; rfl)
      have S := Lib.hid (show Sl (wr.setCell ⟨g, 2, none⟩ (.int .u64 (X : Int))) (some ⟨g, 0, none⟩) 3 (nl R) by rw [HV.out]; exact bl_sl B2.out rfl)
      go_wp2_with (go_at_call 51; (with_reducible refine (times_n R R 3 3 6 R3.out R3.out rfl _ _ 3 3 _ (by decide) (by decide) S.out S.out).mono ?_); rintro e w1 ⟨g1, rfl, -, hb1, hd1⟩; have B1 := Lib.hid hb1; have D1 := Lib.hid hd1; clear hb1 hd1)
      go_ret
      exact ⟨g1, 6, rfl, by rw [PWE.out, tm_len, R3.out], by decide, by rw [PWE.out]; exact B1.out, D0.out.trans (D1.out.mono D0.out.size)⟩
set_option maxRecDepth 100000 in
set_option maxHeartbeats 2000000 in
theorem power3_false (h c : Nat) (w : World) (hh : h ≤ 21) (hc : c < 18446744073709551616) :
    Calls Tryd.prog 38 #[.int .u64 (h : Int), .int .u64 (c : Int), .int .i64 3, .bool false] w fun e w' => ∃ g L : Nat, e = .returned (.slice (some ⟨g, 0, none⟩) L L) ∧ (pw h c 3 false).length = L ∧ L ≤ 9 ∧ Bl w' g 22 (nl (pw h c 3 false)).toArray ∧ Below w.heap.size w w' := by
  obtain ⟨c0, hc0⟩ : ∃ x, x = c % 4294967296 := ⟨_, rfl⟩
  obtain ⟨c1, hc1⟩ : ∃ x, x = c / 4294967296 := ⟨_, rfl⟩
  have e0 : (c : Int) % 4294967296 = (c0 : Int) := by omega
  have e1 : (c : Int) / 4294967296 = (c1 : Int) := by omega
  have e0' : IntKind.u64.wrap (c0 : Int) = (c0 : Int) := by rw [IntKind.wrap_u64]; omega
  have e1' : IntKind.u64.wrap (c1 : Int) = (c1 : Int) := by rw [IntKind.wrap_u64]; omega
  have b0 := Lib.hid (show c0 < 4294967296 ∧ c1 < 4294967296 from by omega)
  obtain ⟨R, hR⟩ : ∃ R : List Nat, R = pr0 h c false := ⟨_, rfl⟩
  have PWE := Lib.hid (show pw h c 3 false = tm (tm R R) R by rw [hR]; rfl)
  have HR := Lib.hid (show R = [c0, c1, h] by rw [hR, hc0, hc1]; rfl)
  clear hc hc0 hc1 hR
  go_enter Tryd.func38, Tryd.ntmps38
  go_upto_region 2 with fail
  have C0 := Lib.hid (show Bl (w.alloc (.cells #[.int .u64 (c0 : Int), .int .u64 (c1 : Int), .int .u64 (h : Int)] 22)) w.heap.size 22 (nl [c0, c1, h]).toArray from Bl.new_ _ _ _)
  have D0' := Lib.hid (show Below w.heap.size w (w.alloc (.cells #[.int .u64 (c0 : Int), .int .u64 (c1 : Int), .int .u64 (h : Int)] 22)) from (Below.refl _ _).alloc (Nat.le_refl _) _)
  obtain ⟨g, hg⟩ : ∃ g, g = w.heap.size := ⟨_, rfl⟩
  have HG := Lib.hid hg
  rw [← hg] at C0 ⊢
  generalize w.alloc _ = w0 at C0 D0' ⊢
  clear hg e0 e1 e0' e1'
  have D0 := Lib.hid D0'.out
  have R3 := Lib.hid (show R.length = 3 by rw [HR.out]; rfl)
  have S := Lib.hid (show Sl w0 (some ⟨g, 0, none⟩) 3 (nl R) by rw [HR.out]; exact bl_sl C0.out rfl)
  go_wp2_with (go_at_call 51; (with_reducible refine (times_n R R 3 3 6 R3.out R3.out rfl _ _ 3 3 w0 (by decide) (by decide) S.out S.out).mono ?_); rintro e w1 ⟨g1, rfl, -, hb1, hd1⟩; have B1 := Lib.hid (bl_sl hb1 (show (tm R R).length = 6 by rw [tm_len, R3.out])); have D1 := Lib.hid hd1; have S1 := Lib.hid (S.out.below hd1); clear hb1 hd1)
  go_wp2_with (go_at_call 51; (with_reducible refine (times_n (tm R R) R 6 3 9 (by rw [tm_len, R3.out]) R3.out rfl _ _ 6 3 w1 (by decide) (by decide) B1.out S1.out).mono ?_); rintro e w2 ⟨g2, rfl, -, hb2, hd2⟩; have B2 := Lib.hid hb2; have D2 := Lib.hid hd2; clear hb2 hd2)
  go_ret
  exact ⟨g2, 9, rfl, by rw [PWE.out, tm_len, tm_len, R3.out], by decide, by rw [PWE.out]; exact B2.out, (D0.out.trans (D1.out.mono D0.out.size)).trans (D2.out.mono (Nat.le_trans D0.out.size D1.out.size))⟩
set_option maxRecDepth 100000 in
set_option maxHeartbeats 2000000 in
theorem power3_true (h c : Nat) (w : World) (hh : h ≤ 21) (hc : c < 18446744073709551616) :
    Calls Tryd.prog 38 #[.int .u64 (h : Int), .int .u64 (c : Int), .int .i64 3, .bool true] w fun e w' => ∃ g L : Nat, e = .returned (.slice (some ⟨g, 0, none⟩) L L) ∧ (pw h c 3 true).length = L ∧ L ≤ 9 ∧ Bl w' g 22 (nl (pw h c 3 true)).toArray ∧ Below w.heap.size w w' := by
  obtain ⟨c0, hc0⟩ : ∃ x, x = c % 4294967296 := ⟨_, rfl⟩
  obtain ⟨c1, hc1⟩ : ∃ x, x = c / 4294967296 := ⟨_, rfl⟩
  have e0 : (c : Int) % 4294967296 = (c0 : Int) := by omega
  have e1 : (c : Int) / 4294967296 = (c1 : Int) := by omega
  have e0' : IntKind.u64.wrap (c0 : Int) = (c0 : Int) := by rw [IntKind.wrap_u64]; omega
  have e1' : IntKind.u64.wrap (c1 : Int) = (c1 : Int) := by rw [IntKind.wrap_u64]; omega
  have b0 := Lib.hid (show c0 < 4294967296 ∧ c1 < 4294967296 from by omega)
  obtain ⟨R, hR⟩ : ∃ R : List Nat, R = pr0 h c true := ⟨_, rfl⟩
  have PWE := Lib.hid (show pw h c 3 true = tm (tm R R) R by rw [hR]; rfl)
  have HR := Lib.hid (show R = incl [c0, c1, h] by rw [hR, hc0, hc1]; rfl)
  clear hc hc0 hc1 hR
  go_enter Tryd.func38, Tryd.ntmps38
  go_upto_region 2 with fail
  have C0 := Lib.hid (show Bl (w.alloc (.cells #[.int .u64 (c0 : Int), .int .u64 (c1 : Int), .int .u64 (h : Int)] 22)) w.heap.size 22 (nl [c0, c1, h]).toArray from Bl.new_ _ _ _)
  have D0' := Lib.hid (show Below w.heap.size w (w.alloc (.cells #[.int .u64 (c0 : Int), .int .u64 (c1 : Int), .int .u64 (h : Int)] 22)) from (Below.refl _ _).alloc (Nat.le_refl _) _)
  obtain ⟨g, hg⟩ : ∃ g, g = w.heap.size := ⟨_, rfl⟩
  have HG := Lib.hid hg
  rw [← hg] at C0 ⊢
  generalize w.alloc _ = w0 at C0 D0' ⊢
  clear hg e0 e1 e0' e1'
  go_wp2_with fail
  go_loopw [10] (fun i wr => PW c0 c1 h g w0 i wr) (fun i _ => 3 - (intOf i).toNat)
  case atStart => exact ⟨0, rfl, World.grownBy.refl _ _, .inl ⟨rfl, C0.out⟩⟩
  case round =>
    obtain ⟨k, rfl, hgr, hcs⟩ := hrel
    have GR := Lib.hid hgr
    clear hgr
    rcases hcs with ⟨rfl, hbl⟩ | ⟨rfl, n0, hbl⟩ | ⟨rfl, n0, n1, hbl⟩
    · have BB := Lib.hid hbl
      clear hbl
      have co : wr.cell? ⟨g, 0, none⟩ = some (.int .u64 (c0 : Int)) := BB.out.cell_ rfl
      have fz := BB.out.frozen 0
      obtain ⟨X, hX⟩ : ∃ X, X = c0 + 1 := ⟨_, rfl⟩
      have eX : IntKind.u64.wrap ((c0 : Int) + 1) = (X : Int) := by rw [IntKind.wrap_u64]; have := b0.out; omega
      have B2 := Lib.hid (show Bl (wr.setCell ⟨g, 0, none⟩ (.int .u64 (X : Int))) g 22 (nl [X, c1, h]).toArray by have := BB.out.set_ 0 (.int .u64 (X : Int)); rw [nl_set] at this; exact this)
      have G2 := Lib.hid (show w0.grownBy (wr.setCell ⟨g, 0, none⟩ (.int .u64 (X : Int))) (some g) from only_set GR.out (.inl rfl) _)
      have c2 : (wr.setCell ⟨g, 0, none⟩ (.int .u64 (X : Int))).cell? ⟨g, 0, none⟩ = some (.int .u64 (X : Int)) := B2.out.cell_ rfl
      have f2 := B2.out.frozen 0
      by_cases hlt : X < 4294967296
      · have HV := Lib.hid (show R = [X, c1, h] by rw [HR.out]; simp only [incl]; rw [if_pos (by omega), ← hX])
        have ht : decide ((X : Int) < 4294967296) = true := decide_eq_true (by omega)
        clear hlt hX
        have D0 := Lib.hid (D0'.out.grown G2.out D0'.out.size (fun x e => by injection e with e; have := HG.out; omega))
        have R3 := Lib.hid (show R.length = 3 by rw [HV.out]; rfl)
        have S := Lib.hid (show Sl (wr.setCell ⟨g, 0, none⟩ (.int .u64 (X : Int))) (some ⟨g, 0, none⟩) 3 (nl R) by rw [HV.out]; exact bl_sl B2.out rfl)
        go_wp2_with (go_at_call 51; (with_reducible refine (times_n R R 3 3 6 R3.out R3.out rfl _ _ 3 3 _ (by decide) (by decide) S.out S.out).mono ?_); rintro e w1 ⟨g1, rfl, -, hb1, hd1⟩; have B1 := Lib.hid (bl_sl hb1 (show (tm R R).length = 6 by rw [tm_len, R3.out])); have D1 := Lib.hid hd1; have S1 := Lib.hid (S.out.below hd1); clear hb1 hd1)
        go_wp2_with (go_at_call 51; (with_reducible refine (times_n (tm R R) R 6 3 9 (by rw [tm_len, R3.out]) R3.out rfl _ _ 6 3 w1 (by decide) (by decide) B1.out S1.out).mono ?_); rintro e w2 ⟨g2, rfl, -, hb2, hd2⟩; have B2 := Lib.hid hb2; have D2 := Lib.hid hd2; clear hb2 hd2)
        go_ret
        exact ⟨g2, 9, rfl, by rw [PWE.out, tm_len, tm_len, R3.out], by decide, by rw [PWE.out]; exact B2.out, (D0.out.trans (D1.out.mono D0.out.size)).trans (D2.out.mono (Nat.le_trans D0.out.size D1.out.size))⟩
      · have ht : decide ((X : Int) < 4294967296) = false := decide_eq_false (by omega)
        have NN := Lib.hid (show ¬ c0 + 1 < 4294967296 by omega)
        clear hlt hX
        go_wp2_with fail
        go_roundw
        case rel =>
          refine ⟨1, rfl, only_set G2.out (.inl rfl) _, .inr (.inl ⟨rfl, NN.out, ?_⟩)⟩
          have := B2.out.set_ 0 (.int .u64 ((0 : Nat) : Int))
          rw [nl_set] at this
          exact this
        case measure => simp [intOf] <;> omega
    · have BB := Lib.hid hbl
      have N0 := Lib.hid n0
      clear hbl n0
      have co : wr.cell? ⟨g, 1, none⟩ = some (.int .u64 (c1 : Int)) := BB.out.cell_ rfl
      have fz := BB.out.frozen 1
      obtain ⟨X, hX⟩ : ∃ X, X = c1 + 1 := ⟨_, rfl⟩
      have eX : IntKind.u64.wrap ((c1 : Int) + 1) = (X : Int) := by rw [IntKind.wrap_u64]; have := b0.out; omega
      have B2 := Lib.hid (show Bl (wr.setCell ⟨g, 1, none⟩ (.int .u64 (X : Int))) g 22 (nl [0, X, h]).toArray by have := BB.out.set_ 1 (.int .u64 (X : Int)); rw [nl_set] at this; exact this)
      have G2 := Lib.hid (show w0.grownBy (wr.setCell ⟨g, 1, none⟩ (.int .u64 (X : Int))) (some g) from only_set GR.out (.inl rfl) _)
      have c2 : (wr.setCell ⟨g, 1, none⟩ (.int .u64 (X : Int))).cell? ⟨g, 1, none⟩ = some (.int .u64 (X : Int)) := B2.out.cell_ rfl
      have f2 := B2.out.frozen 1
      by_cases hlt : X < 4294967296
      · have HV := Lib.hid (show R = [0, X, h] by rw [HR.out]; simp only [incl]; rw [if_neg N0.out, if_pos (by omega), ← hX])
        have ht : decide ((X : Int) < 4294967296) = true := decide_eq_true (by omega)
        clear hlt hX
        have D0 := Lib.hid (D0'.out.grown G2.out D0'.out.size (fun x e => by injection e with e; have := HG.out; omega))
        have R3 := Lib.hid (show R.length = 3 by rw [HV.out]; rfl)
        have S := Lib.hid (show Sl (wr.setCell ⟨g, 1, none⟩ (.int .u64 (X : Int))) (some ⟨g, 0, none⟩) 3 (nl R) by rw [HV.out]; exact bl_sl B2.out rfl)
        go_wp2_with (go_at_call 51; (with_reducible refine (times_n R R 3 3 6 R3.out R3.out rfl _ _ 3 3 _ (by decide) (by decide) S.out S.out).mono ?_); rintro e w1 ⟨g1, rfl, -, hb1, hd1⟩; have B1 := Lib.hid (bl_sl hb1 (show (tm R R).length = 6 by rw [tm_len, R3.out])); have D1 := Lib.hid hd1; have S1 := Lib.hid (S.out.below hd1); clear hb1 hd1)
        go_wp2_with (go_at_call 51; (with_reducible refine (times_n (tm R R) R 6 3 9 (by rw [tm_len, R3.out]) R3.out rfl _ _ 6 3 w1 (by decide) (by decide) B1.out S1.out).mono ?_); rintro e w2 ⟨g2, rfl, -, hb2, hd2⟩; have B2 := Lib.hid hb2; have D2 := Lib.hid hd2; clear hb2 hd2)
        go_ret
        exact ⟨g2, 9, rfl, by rw [PWE.out, tm_len, tm_len, R3.out], by decide, by rw [PWE.out]; exact B2.out, (D0.out.trans (D1.out.mono D0.out.size)).trans (D2.out.mono (Nat.le_trans D0.out.size D1.out.size))⟩
      · have ht : decide ((X : Int) < 4294967296) = false := decide_eq_false (by omega)
        have NN := Lib.hid (show ¬ c1 + 1 < 4294967296 by omega)
        clear hlt hX
        go_wp2_with fail
        go_roundw
        case rel =>
          refine ⟨2, rfl, only_set G2.out (.inl rfl) _, .inr (.inr ⟨rfl, N0.out, NN.out, ?_⟩)⟩
          have := B2.out.set_ 1 (.int .u64 ((0 : Nat) : Int))
          rw [nl_set] at this
          exact this
        case measure => simp [intOf] <;> omega
    · have BB := Lib.hid hbl
      have N0 := Lib.hid n0
      have N1 := Lib.hid n1
      clear hbl n0 n1
      have co : wr.cell? ⟨g, 2, none⟩ = some (.int .u64 (h : Int)) := BB.out.cell_ rfl
      have fz := BB.out.frozen 2
      obtain ⟨X, hX⟩ : ∃ X, X = h + 1 := ⟨_, rfl⟩
      have eX : IntKind.u64.wrap ((h : Int) + 1) = (X : Int) := by rw [IntKind.wrap_u64]; have := b0.out; omega
      have B2 := Lib.hid (show Bl (wr.setCell ⟨g, 2, none⟩ (.int .u64 (X : Int))) g 22 (nl [0, 0, X]).toArray by have := BB.out.set_ 2 (.int .u64 (X : Int)); rw [nl_set] at this; exact this)
      have G2 := Lib.hid (show w0.grownBy (wr.setCell ⟨g, 2, none⟩ (.int .u64 (X : Int))) (some g) from only_set GR.out (.inl rfl) _)
      have c2 : (wr.setCell ⟨g, 2, none⟩ (.int .u64 (X : Int))).cell? ⟨g, 2, none⟩ = some (.int .u64 (X : Int)) := B2.out.cell_ rfl
      have f2 := B2.out.frozen 2
      have hlt : X < 4294967296 := by omega
      have HV := Lib.hid (show R = [0, 0, X] by rw [HR.out]; simp only [incl]; rw [if_neg N0.out, if_neg N1.out, if_pos (by omega), ← hX])
      have ht : decide ((X : Int) < 4294967296) = true := decide_eq_true (by omega)
      clear hlt hX
      have D0 := Lib.hid (D0'.out.grown G2.out D0'.out.size (fun x e => by injection e with e; have := HG.out; omega))
      have R3 := Lib.hid (show R.length = 3 by rw [HV.out]; rfl)
      have S := Lib.hid (show Sl (wr.setCell ⟨g, 2, none⟩ (.int .u64 (X : Int))) (some ⟨g, 0, none⟩) 3 (nl R) by rw [HV.out]; exact bl_sl B2.out rfl)
      go_wp2_with (go_at_call 51; (with_reducible refine (times_n R R 3 3 6 R3.out R3.out rfl _ _ 3 3 _ (by decide) (by decide) S.out S.out).mono ?_); rintro e w1 ⟨g1, rfl, -, hb1, hd1⟩; have B1 := Lib.hid (bl_sl hb1 (show (tm R R).length = 6 by rw [tm_len, R3.out])); have D1 := Lib.hid hd1; have S1 := Lib.hid (S.out.below hd1); clear hb1 hd1)
      go_wp2_with (go_at_call 51; (with_reducible refine (times_n (tm R R) R 6 3 9 (by rw [tm_len, R3.out]) R3.out rfl _ _ 6 3 w1 (by decide) (by decide) B1.out S1.out).mono ?_); rintro e w2 ⟨g2, rfl, -, hb2, hd2⟩; have B2 := Lib.hid hb2; have D2 := Lib.hid hd2; clear hb2 hd2)
      go_ret
      exact ⟨g2, 9, rfl, by rw [PWE.out, tm_len, tm_len, R3.out], by decide, by rw [PWE.out]; exact B2.out, (D0.out.trans (D1.out.mono D0.out.size)).trans (D2.out.mono (Nat.le_trans D0.out.size D1.out.size))⟩
end Go.Proofs.YtfdjphinicafiabDoor.Sh
