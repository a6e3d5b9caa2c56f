/- Joined texts. -/
import Derived.Test.YtbgkdbjineennaaQkDkTh
set_option linter.unusedVariables false
namespace Go.Proofs.Ytbgkdbjineennaa.Dk
open Go.IntWalk Go.RowKit Go.Proofs.Ytbgkdbjineennaa.Gn Go.Proofs.Ytbgkdbjineennaa.Fd Go.Deep
set_option maxRecDepth 100000 in
set_option maxHeartbeats 8000000 in
theorem walk_diskKeeps {w : World} (B : Option Addr) (mm cap : Nat) (bs : List Nat) (hB : Sl w B mm (bl bs)) (hB0 : B = none → cap = 0) (hcap : mm ≤ cap) (s : Int) {L : Option Addr} {l : List Od} (lc : Nat) (hl : Ol w w.heap.size L l) (A : Option Addr) (n c : Nat) (cl : List Bool) (hs : Sl w A n (cl.map Value.bool)) (hA : A = none → c = 0) (hc : n ≤ c) (hc9 : c ≤ maxLen) (hin : ∀ ad, A = some ad → ad.block < w.heap.size) :
    Calls Try.prog 3 #[.slice B mm cap, .int .i64 s, .slice L l.length lc, .slice A n c] w fun e w' => e = .returned (.bool true) ∧ Below w.heap.size w w' := by
  have MC := Lib.hid (made_any lc hl B mm cap bs hB hB0 hcap s)
  have KN := Lib.hid known_any
  have HS := Lib.hid hs
  have HA := Lib.hid (And.intro hA (And.intro hc (And.intro hc9 hin)))
  obtain ⟨K, hK⟩ : ∃ K, l.length = K := ⟨_, rfl⟩
  rw [hK] at MC ⊢
  clear hl hB hB0 hcap hs hA hc hc9 hin hK
  go_enter Try.func3, Try.ntmps3
  go_upto_region 2 with (go_at_call 8; (with_reducible refine MC.out.mono ?_); rintro e w1 ⟨p, rfl, hp, hb1⟩; have B1 := Lib.hid hb1; have HP := Lib.hid hp; clear hb1 hp)
  have hp := HP.out
  clear HP
  rcases hp with rfl | ⟨g, gb, H, cs, cw, ch, m, rfl, d1, h1, h2, h3, -, -⟩
  · go_wp2_with (go_at_call 10; (with_reducible refine (KN.out _).mono ?_); rintro e w2 ⟨rfl, hb2⟩; have B2 := Lib.hid hb2; clear hb2)
    go_ret
    exact ⟨rfl, B1.out.trans (B2.out.mono B1.out.size)⟩
  have D1 := Lib.hid d1
  have UP := up_dd d1
  clear d1
  cases hu : m.up with
  | false =>
    rw [hu] at UP
    have UP := Lib.hid UP
    clear hu
    go_wp2_with (first
      | (go_at_call 9; (with_reducible refine UP.out.mono ?_); rintro e w3 ⟨rfl, rfl⟩)
      | (go_at_call 10; (with_reducible refine (KN.out _).mono ?_); rintro e w2 ⟨rfl, hb2⟩; have B2 := Lib.hid hb2; clear hb2))
    go_ret
    exact ⟨rfl, B1.out.trans (B2.out.mono B1.out.size)⟩
  | true =>
    rw [hu] at UP
    have UP := Lib.hid UP
    clear hu
    by_cases hn : (5000 : Int) < (n : Int)
    · go_wp2_with (first
        | (go_at_call 9; (with_reducible refine UP.out.mono ?_); rintro e w3 ⟨rfl, rfl⟩)
        | (go_at_call 10; (with_reducible refine (KN.out _).mono ?_); rintro e w2 ⟨rfl, hb2⟩; have B2 := Lib.hid hb2; clear hb2))
      go_ret
      exact ⟨rfl, B1.out.trans (B2.out.mono B1.out.size)⟩
    have ST := Lib.hid (Start_dd D1.out)
    have HM := Lib.hid (And.intro h1 (And.intro h2 h3))
    clear h1 h2 h3
    go_upto_region 7 with (first
      | (go_at_call 9; (with_reducible refine UP.out.mono ?_); rintro e w3 ⟨rfl, rfl⟩)
      | (go_at_call 11; (with_reducible refine ST.out.mono ?_); rintro e w2 ⟨⟨v2, rfl⟩, d2, g2⟩; have D2 := Lib.hid d2; have G2 := Lib.hid g2; clear d2 g2)
      | (go_at_call 12; (with_reducible refine (flush_started D2.out (by have := HM.out.2.1; omega) (by have := HM.out.2.2; omega)).mono ?_); rintro e w3 ⟨rfl, H3, cw3, d3, o3, g3⟩; have D3 := Lib.hid d3; have G3 := Lib.hid g3; clear d3 o3 g3))
    have B3 := Lib.hid (B1.out.trans ((g_below D1.out G2.out).trans (ts_below D2.out G3.out)))
    obtain ⟨m3, hm3⟩ : ∃ m3, m.start.flush.2 = m3 := ⟨_, rfl⟩
    have E3 := Lib.hid (show m3.ss.length ≤ 100 ∧ m3.hd.length < 1000000 from by
      rw [← hm3, M.flush_size]
      have := M.flush_hs m.start
      exact ⟨HM.out.1, by have h := HM.out.2.1; have e : m.start.hd.length = m.hd.length := rfl; omega⟩)
    have KA := keep_all m cl
    rw [hm3] at KA D3
    have KA := Lib.hid KA
    clear hm3
    obtain ⟨X, hX⟩ : ∃ X, m3.ss.flatten = X := ⟨_, rfl⟩
    have BC3 := bytes_new D3.out (by have := E3.out.1; omega)
    rw [hX] at BC3
    have BC3 := Lib.hid BC3
    go_upto_region 8 with (go_at_call 13; (with_reducible refine BC3.out.mono ?_); rintro e w4 ⟨q4, c4, rfl, k1, k2, -, k3⟩; have S4 := Lib.hid k1; have Q4 := Lib.hid k2; have B4 := Lib.hid k3; clear k1 k2 k3)
    have D4 := Lib.hid (D3.out.below B4.out)
    have BB4 := Lib.hid (B3.out.trans (B4.out.mono B3.out.size))
    have LC := Lib.hid (Lose_dd D4.out E3.out.2 A n c cl (HS.out.below BB4.out) HA.out.2.1 HA.out.2.2.1 HA.out.1 (fun ad e _ => by have := HA.out.2.2.2 ad e; have := D4.out.b2; omega))
    go_upto_region 9 with (go_at_call 14; (with_reducible refine LC.out.mono ?_); rintro e w5 ⟨⟨v5, rfl⟩, H5, d5, o5, g5⟩; have D5 := Lib.hid d5; have G5 := Lib.hid g5; clear d5 o5 g5)
    have S5 := Lib.hid (sl_gx G5.out (fun ad e => by cases e; exact D3.out.fresh Q4.out) S4.out)
    have Q5 := Lib.hid (show q4 < w5.heap.size → True from fun _ => trivial)
    have ST5 := Lib.hid (Start_dd D5.out)
    go_upto_region 10 with (go_at_call 11; (with_reducible refine ST5.out.mono ?_); rintro e w6 ⟨⟨v6, rfl⟩, d6, g6⟩; have D6 := Lib.hid d6; have G6 := Lib.hid g6; clear d6 g6)
    have S6 := Lib.hid (sl_gx G6.out (fun ad e => by cases e; intro hm; have hm : q4 = g := List.mem_singleton.1 hm; have := Q4.out; have := D3.out.glt; omega) S5.out)
    have BC6 := bytes_new D6.out (by rw [KA.out.1]; have := E3.out.1; omega)
    have UP6 := up_dd D6.out
    have HE6 := held_dd D6.out
    rw [KA.out.1, hX] at BC6
    rw [KA.out.2] at HE6
    have BC6 := Lib.hid BC6
    have BB6 := Lib.hid (BB4.out.trans ((ts_below D4.out G5.out).trans (g_below D5.out G6.out)))
    clear hX UP6 HE6
    go_wp2_with (first
      | (go_at_call 13; (with_reducible refine BC6.out.mono ?_); rintro e w7 ⟨q7, c7, rfl, k1, k2, -, k3⟩; have S7 := Lib.hid k1; have B7 := Lib.hid k3; have D7 := Lib.hid (D6.out.below k3); have SB := (same_any (some ⟨q7, 0, none⟩) (some ⟨q4, 0, none⟩) X.length X.length c7 c4 X X w7 k1 (S6.out.below k3)); rw [decide_eq_true rfl] at SB; have SB := Lib.hid SB; have UP7 := Lib.hid ((up_dd D7.out).mono fun e w' h => show e = .returned (.bool true) ∧ w7 = w' from h); have HE7 := Lib.hid ((held_dd D7.out).mono fun e w' h => show e = .returned (.int .i64 0) ∧ w7 = w' from ⟨by rw [h.1, KA.out.2]; rfl, h.2⟩); clear k1 k2 k3)
      | (go_at_call 15; (with_reducible refine SB.out.mono ?_); rintro e w8 ⟨rfl, rfl⟩)
      | (go_at_call 16; (with_reducible refine HE7.out.mono ?_); rintro e w9 ⟨rfl, rfl⟩)
      | (go_at_call 9; (with_reducible refine UP7.out.mono ?_); rintro e w9 ⟨rfl, rfl⟩)
      | (go_at_call 10; (with_reducible refine (KN.out _).mono ?_); rintro e w10 ⟨rfl, hb2⟩; have B10 := Lib.hid hb2; clear hb2))
    go_ret
    exact ⟨rfl, BB6.out.trans ((B7.out.trans (B10.out.mono B7.out.size)).mono BB6.out.size)⟩
end Go.Proofs.Ytbgkdbjineennaa.Dk
