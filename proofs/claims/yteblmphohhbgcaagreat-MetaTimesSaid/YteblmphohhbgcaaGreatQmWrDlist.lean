/- Joined texts. -/
import Derived.Deep.LoopGhost
import Derived.Test.YteblmphohhbgcaaGreatQmWrDvalE
import Derived.Test.YteblmphohhbgcaaGreatQmMtA
import Derived.Test.YteblmphohhbgcaaGreatQmWrGo
set_option linter.unusedVariables false
namespace Go.Proofs.YteblmphohhbgcaaGreat.Wr
open Go.RowKit Go.Proofs.YteblmphohhbgcaaGreat.Gn Go.Proofs.YteblmphohhbgcaaGreat.Fd Go.Deep
def DvQ(res:Rr Nd)(w:World)(g:Nat)(a b c d:Int)(r:Rw)(e:Ending)(w':World):Prop :=
 match res with
 |.bad q en=>DbQ q en w g a b c d r e w'
 |.good v p' k'=>DgQ v p' w g a b c d k' r e w'
def DlQ(res:Rr (List Nd))(w:World)(g:Nat)(a b c d:Int)(r:Rw)(e:Ending)(w':World):Prop :=
 match res with
 |.bad q en=>DbQ q en w g a b c d r e w'
 |.good vs p' k'=>DgQ (.mk 3 0 [] vs) p' w g a b c d k' r e w'
def Df(f:Nat):Prop:=∀(w:World) (g:Nat) (a b c d zb zc zd k:Int) (r:Rw) (p:Nat) (deep:Int),Di w g a b c d k r p 0 0→max b 0=zb→max c 0=zc→max d 0=zd→zd≤9223372036854775807→0≤k→k≤zc→k+((r.2.2.2.length - p:Nat):Int)≤1000000→r.2.1≤1000000→0≤deep→deep+((r.2.2.2.length - p:Nat):Int)≤3000000→r.2.2.2.length - p+2≤f →
 Calls Tryz.prog 115 #[.pointer (some ⟨g,0,none⟩),.int .i64 deep] w (DvQ (rdv zb zc zd r.2.2.2 f deep p k) w g a b c d r)
theorem Di.grown{w u:World}{g:Nat}{a b c d k:Int}{r:Rw}{p:Nat}{E B:Int}{row:Option Nat}(h:Di w g a b c d k r p E B)(hg:w.grownBy u row)(h1:row≠some g)(h2:∀ad,r.1=some ad→0 < r.2.2.2.length→row≠some ad.block):Di u g a b c d k r p E B :=
 ⟨h.row.grown hg h1,⟨h.pc.len,Sl.kept h.pc.row (fun ad e hn hlt=>hg.block ad.block hlt (fun e2=>h2 ad e hn e2.symm)),h.pc.lt,h.pc.cap,h.pc.nil⟩,h.le,h.apart⟩
set_option maxHeartbeats 4000000 in
set_option maxRecDepth 100000 in
theorem dval_list {w : World} {g : Nat} {a b c d zb zc zd k : Int} {r : Rw} {p : Nat} (h : Di w g a b c d k r p 0 0) (hzb : max b 0 = zb) (hzc : max c 0 = zc) (hzd : max d 0 = zd) (deep : Int) (hp : ¬ p = r.2.2.2.length) (hd : ¬ zb < deep) (hk : k < zc) (k0 : 0 ≤ k) (k1 : k ≤ 1000000) (hl9 : r.2.1 ≤ 1000000) (hx : r.2.2.2[p]? = some 3) {n m : Nat} (hr : rcl (r.2.2.2.drop (p + 1)) = (n, m, 0)) (hn64 : n < 18446744073709551616) (d1 : zd ≤ 9223372036854775807) (hkz : k + 1 ≤ zc) (dp0 : 0 ≤ deep) {F : Nat} {R : Rr (List Nd)} (hR : rds zb zc zd r.2.2.2 F n (deep + 1) (p + 1 + m) (k + 1) [] = R) (hV : ∀ f, f < F → Df f) (kb : k + 1 + ((r.2.2.2.length - (p + 1 + m) : Nat) : Int) ≤ 1000000) (db : deep + 1 + ((r.2.2.2.length - (p + 1 + m) : Nat) : Int) ≤ 3000000) (hF : r.2.2.2.length - (p + 1 + m) + 3 ≤ F) :
    Calls Tryz.prog 115 #[.pointer (some ⟨g, 0, none⟩), .int .i64 deep] w (DlQ R w g a b c d r) := by
  obtain ⟨A, L, cp, l⟩ := r
  have hL : L = l.length := h.pc.len
  have hple : p ≤ l.length := h.le
  have A0 := Lib.hid (below_one w nod0)
  have H0 := Lib.hid (h.below A0.out)
  have N0 := Lib.hid (Bl.new_ w 75 #[.int .i64 0, .int .u64 0, .slice none 0 0, .slice none 0 0])
  have c0 : (w.alloc nod0).cell? ⟨g, 0, none⟩ = some (.slice A L cp) := H0.out.row.cell_ rfl
  have c1 : (w.alloc nod0).cell? ⟨g, 1, none⟩ = some (.int .i64 (p : Int)) := H0.out.row.cell_ rfl
  have c2 : (w.alloc nod0).cell? ⟨g, 2, none⟩ = some (.int .i64 k) := H0.out.row.cell_ rfl
  have c4 : (w.alloc nod0).cell? ⟨g, 4, none⟩ = some (.int .i64 b) := H0.out.row.cell_ rfl
  have c5 : (w.alloc nod0).cell? ⟨g, 5, none⟩ = some (.int .i64 c) := H0.out.row.cell_ rfl
  have c6 : (w.alloc nod0).cell? ⟨g, 6, none⟩ = some (.int .i64 d) := H0.out.row.cell_ rfl
  have c7 : (w.alloc nod0).cell? ⟨g, 7, none⟩ = some (.int .i64 0) := H0.out.row.cell_ rfl
  have CZb := Lib.hid (fun u => show Calls _ _ #[.int .i64 b] u (fun e w' => e = .returned (.int .i64 zb) ∧ u = w') from hzb ▸ zero_any b u)
  have CZc := Lib.hid (fun u => show Calls _ _ #[.int .i64 c] u (fun e w' => e = .returned (.int .i64 zc) ∧ u = w') from hzc ▸ zero_any c u)
  have CZd := Lib.hid (fun u => show Calls _ _ #[.int .i64 d] u (fun e w' => e = .returned (.int .i64 zd) ∧ u = w') from hzd ▸ zero_any d u)
  have glt : g < w.heap.size := h.row.lt
  have HP := Lib.hid h.pc
  have HL := Lib.hid hL
  have ZB := Lib.hid hzb
  have ZC := Lib.hid hzc
  have ZD := Lib.hid hzd
  clear h hzb hzc hzd
  have hpl : p < L := by have : ¬ p = l.length := hp; omega
  clear hp hL
  have QZc := Lib.hid (fun u => show Calls _ _ #[.int .i64 c] u (fun e w' => e = .returned (.int .i64 zc) ∧ w' = u) from (CZc.out u).mono fun e w' hh => ⟨hh.1, hh.2.symm⟩)
  obtain ⟨ad, rfl, hc0, -, hx8⟩ := pc_at H0.out.pc hx
  have hc : (w.alloc nod0).cell? (ad.add p) = some (.int .u8 3) := hc0
  have fg2 := H0.out.row.frozen 2
  have fg1 := H0.out.row.frozen 1
  have lad : ad.block < (w.alloc nod0).heap.size := by have := cell_lt hc0; rwa [add_block] at this
  have apg : ad.block ≠ g := H0.out.apart ad rfl
  have hx9 := Lib.hid hx
  clear hc0 hx
  go_enter Tryz.func115, Tryz.ntmps115
  go_wp2_with (go_at_call 107; (first | (with_reducible refine (CZb.out _).mono ?_) | (with_reducible refine (CZc.out _).mono ?_) | (with_reducible refine (CZd.out _).mono ?_)); rintro e w1 ⟨rfl, rfl⟩)
  go_quiet ((go_at_call 107; exact Calls.quiet_of_same (QZc.out _)))
  go_upto_region 13 with fail
  have D1 := Lib.hid (show Di (((w.alloc nod0).drewN nq).setCell ⟨g, 2, none⟩ (.int .i64 (k + 1))) g a b c d (k + 1) (some ad, L, cp, l) p 0 0 from ⟨(H0.out.row.drewN nq).set_ 2 _, rt_pc (H0.out.pc.below (below_drewN (Below.refl _ _) nq)) H0.out.apart _, H0.out.le, H0.out.apart⟩)
  have G1 := Lib.hid (show w.grownBy (((w.alloc nod0).drewN nq).setCell ⟨g, 2, none⟩ (.int .i64 (k + 1))) (some g) from only_set (only_drewN (only_below A0.out (some g)) nq) (p := ⟨g, 2, none⟩) (Or.inl rfl) _)
  have N1 := Lib.hid (show Bl (((w.alloc nod0).drewN nq).setCell ⟨g, 2, none⟩ (.int .i64 (k + 1))) w.heap.size 75 #[.int .i64 0, .int .u64 0, .slice none 0 0, .slice none 0 0] from (N0.out.drewN nq).other (p := ⟨g, 2, none⟩) (by show w.heap.size ≠ g; omega) _)
  have S1 := Lib.hid (show (((w.alloc nod0).drewN nq).setCell ⟨g, 2, none⟩ (.int .i64 (k + 1))).heap.size = w.heap.size + 1 from by rw [setc_size]; show (w.alloc nod0).heap.size = _; simp)
  have hc1 : (((w.alloc nod0).drewN nq).setCell ⟨g, 2, none⟩ (.int .i64 (k + 1))).cell? (ad.add p) = some (.int .u8 3) := by
    obtain ⟨ad', e', h1, -, -⟩ := pc_at D1.out.pc hx9.out
    cases e'; exact h1
  clear hc c0 c1 c2 c4 c5 c6 c7 fg1 fg2 N0 H0 A0 QZc
  generalize (((w.alloc nod0).drewN nq).setCell ⟨g, 2, none⟩ (.int .i64 (k + 1))) = w1 at *
  have c0 : w1.cell? ⟨g, 0, none⟩ = some (.slice (some ad) L cp) := D1.out.row.cell_ rfl
  have c1 : w1.cell? ⟨g, 1, none⟩ = some (.int .i64 (p : Int)) := D1.out.row.cell_ rfl
  have fg1 := D1.out.row.frozen 1
  have lg1 : g < w1.heap.size := D1.out.row.lt
  go_upto_region 16 with fail
  have D2 := Lib.hid (show Di ((w1.setCell ⟨g, 1, none⟩ (.int .i64 ((p : Int) + 1))).alloc (.cells #[.int .i64 3, .int .u64 0, .slice none 0 0, .slice none 0 0] 75)) g a b c d (k + 1) (some ad, L, cp, l) (p + 1) 0 0 from Di.below ⟨D1.out.row.set_ 1 _, rt_pc D1.out.pc D1.out.apart _, by have := HL.out; show p + 1 ≤ l.length; omega, D1.out.apart⟩ (below_one _ _))
  have G2 := Lib.hid (show w.grownBy ((w1.setCell ⟨g, 1, none⟩ (.int .i64 ((p : Int) + 1))).alloc (.cells #[.int .i64 3, .int .u64 0, .slice none 0 0, .slice none 0 0] 75)) (some g) from only_alloc (only_set G1.out (p := ⟨g, 1, none⟩) (Or.inl rfl) _) _)
  have N2 := Lib.hid (show Bl ((w1.setCell ⟨g, 1, none⟩ (.int .i64 ((p : Int) + 1))).alloc (.cells #[.int .i64 3, .int .u64 0, .slice none 0 0, .slice none 0 0] 75)) w.heap.size 75 #[.int .i64 0, .int .u64 0, .slice none 0 0, .slice none 0 0] from (N1.out.other (p := ⟨g, 1, none⟩) (by show w.heap.size ≠ g; omega) _).alloc _)
  have T2 := Lib.hid (show Bl ((w1.setCell ⟨g, 1, none⟩ (.int .i64 ((p : Int) + 1))).alloc (.cells #[.int .i64 3, .int .u64 0, .slice none 0 0, .slice none 0 0] 75)) (w.heap.size + 1) 75 #[.int .i64 3, .int .u64 0, .slice none 0 0, .slice none 0 0] from Bl.new' _ _ (by rw [setc_size]; exact S1.out))
  rw [S1.out]
  clear c0 c1 fg1 lg1 hc1 N1 G1 D1
  generalize ((w1.setCell ⟨g, 1, none⟩ (.int .i64 ((p : Int) + 1))).alloc (.cells #[.int .i64 3, .int .u64 0, .slice none 0 0, .slice none 0 0] 75)) = w2 at *
  clear S1
  clear w1
  have CT := Lib.hid (dcount_ok D2.out (by show L ≤ 1000000000; have : L ≤ 1000000 := hl9; omega) hr)
  have PQ := Lib.hid (show p + 1 + m ≤ l.length from by have h1 := rcl_le hr; rw [List.length_drop] at h1; have h2 := HL.out; have h3 : m ≤ l.length - (p + 1) := h1; omega)
  have HR := Lib.hid (show rds zb zc zd l F n (deep + 1) (p + 1 + m) (k + 1) [] = R from hR)
  have HV := Lib.hid hV
  have D1 := Lib.hid d1
  have KZ := Lib.hid hkz
  have K0 := Lib.hid k0
  have KB := Lib.hid (show k + 1 + ((l.length - (p + 1 + m) : Nat) : Int) ≤ 1000000 from kb)
  have DB := Lib.hid (show deep + 1 + ((l.length - (p + 1 + m) : Nat) : Int) ≤ 3000000 from db)
  have HF := Lib.hid (show l.length - (p + 1 + m) + 3 ≤ F from hF)
  have L9 := Lib.hid (show L ≤ 1000000 from hl9)
  have HN := Lib.hid hn64
  have dw : IntKind.i64.wrap (deep + 1) = deep + 1 := by have h1 : deep + 1 + ((l.length - (p + 1 + m) : Nat) : Int) ≤ 3000000 := db; simp only [IntKind.wrap_i64]; omega
  obtain ⟨i0, hi, hz0, hz1, hz2⟩ := info_parts infoN
  obtain ⟨F', hF'⟩ : ∃ F', F = F' + 1 := ⟨F - 1, by have := HF.out; omega⟩
  subst hF'
  clear hr hl9 hn64 d1 hkz hR hV kb db hF k0 k1 hk
  go_wp2_with (first | (go_at_call 131; (refine CT.out.mono ?_); rintro e w4 ⟨rfl, h1, h2⟩; have D4 := Lib.hid h1; have G4 := Lib.hid h2; have N4 := Lib.hid (show Bl w4 w.heap.size 75 _ from N2.out.grown h2 (by intro e; injection e with e; omega)); have T4 := Lib.hid (show Bl w4 (w.heap.size + 1) 75 _ from T2.out.grown h2 (by intro e; injection e with e; omega)); have e7 : w4.cell? ⟨g, 7, none⟩ = some (.int .i64 0) := h1.row.cell_ rfl; have y0 : w4.cell? ⟨w.heap.size, 0, none⟩ = some (.int .i64 0) := N4.out.cell_ rfl; have f0 := N4.out.frozen 0; have y1 : w4.cell? ⟨w.heap.size, 1, none⟩ = some (.int .u64 0) := N4.out.cell_ rfl; have f1 := N4.out.frozen 1; have y2 : w4.cell? ⟨w.heap.size, 2, none⟩ = some (.slice none 0 0) := N4.out.cell_ rfl; have f2 := N4.out.frozen 2; have y3 : w4.cell? ⟨w.heap.size, 3, none⟩ = some (.slice none 0 0) := N4.out.cell_ rfl; have f3 := N4.out.frozen 3; have x0 : w4.cell? ⟨w.heap.size + 1, 0, none⟩ = some (.int .i64 3) := T4.out.cell_ rfl; have g0 := T4.out.frozen 0; have x1 : w4.cell? ⟨w.heap.size + 1, 1, none⟩ = some (.int .u64 0) := T4.out.cell_ rfl; have g1 := T4.out.frozen 1; have x2 : w4.cell? ⟨w.heap.size + 1, 2, none⟩ = some (.slice none 0 0) := T4.out.cell_ rfl; have g2 := T4.out.frozen 2; have x3 : w4.cell? ⟨w.heap.size + 1, 3, none⟩ = some (.slice none 0 0) := T4.out.cell_ rfl; have g3 := T4.out.frozen 3; have LT4 := Lib.hid (show w.heap.size + 1 < w4.heap.size from T4.out.lt); clear h1 h2))
  have HPQ := Lib.hid (show ∀ ad_, (some ad : Option Addr) = some ad_ → 0 < l.length → ad_.block < w.heap.size from fun ad_ e hn => pc_lt HP.out ad_ e hn)
  have HLL := Lib.hid (show L = l.length from HL.out)
  go_loopg [9] (l.length + 1) (fun g1 vi wr => ∃ (i pi : Nat) (ki : Int) (ks : List Tv) (E Bq : Int) (A : Option Addr) (cap : Nat), vi = .int .u64 (i : Int) ∧ i ≤ n ∧ i ≤ 1000001 ∧ ks.length ≤ 1000001 ∧ Hid (Bl wr (w.heap.size + 1) 75 #[.int .i64 3, .int .u64 0, .slice none 0 0, .slice A ks.length cap]) ∧ Hid (wr.ownsRow (w.heap.size + 2) 75 4 (.slice A ks.length cap) ks.length (flat ks)) ∧ Hid (Di wr g a b c d ki (some ad, L, cp, l) pi E Bq) ∧ Hid (w.grownBy wr (some g)) ∧ Hid (Bl wr w.heap.size 75 #[.int .i64 0, .int .u64 0, .slice none 0 0, .slice none 0 0]) ∧ Hid ((E = 0 ∧ Bq = 0 ∧ ks.length = i ∧ 0 ≤ ki ∧ ki ≤ zc ∧ ki + ((l.length - pi : Nat) : Int) ≤ k + 1 + ((l.length - (p + 1 + m) : Nat) : Int) ∧ p + 1 + m + 2 * i ≤ pi ∧ pi ≤ l.length ∧ l.length - pi + 1 ≤ g1 ∧ ∃ f, f < F' + 1 ∧ l.length - pi + 3 ≤ f + 1 ∧ R = rds zb zc zd l (f + 1) (n - i) (deep + 1) pi ki (nds ks) ∧ (∀ t ∈ ks, Ok wr t) ∧ liess (fun k => w.heap.size + 2 ≤ k ∧ (Value.slice A ks.length cap).ownBlock ≠ some k) ks) ∨ (E ≠ 0 ∧ ∃ q en : Nat, R = .bad q en ∧ E = (en : Int) ∧ Bq = (q : Int))))
  case atStart => exact ⟨0, p + 1 + m, k + 1, [], 0, 0, none, 0, rfl, Nat.zero_le _, Nat.zero_le _, Nat.zero_le _, T4, Lib.hid ⟨rfl, .inl ⟨rfl, rfl⟩⟩, D4, Lib.hid (only_trans G2.out G4.out), N4, Lib.hid (.inl ⟨rfl, rfl, rfl, by have := K0.out; omega, KZ.out, Int.le_refl _, Nat.le_refl _, PQ.out, by omega, F', Nat.lt_succ_self _, HF.out, HR.out.symm, (fun t ht => (List.not_mem_nil ht).elim), by rw [liess]; trivial⟩)⟩
  case round =>
    obtain ⟨i, pi, ki, ks, E, Bq, A, cap, rfl, hin, hi9, hk9, TJ, OW, DJ, GW, NJ, MO⟩ := hrel
    have e7 : wr.cell? ⟨g, 7, none⟩ = some (.int .i64 E) := DJ.out.row.cell_ rfl
    have x0 : wr.cell? ⟨w.heap.size + 1, 0, none⟩ = some (.int .i64 3) := TJ.out.cell_ rfl
    have x1 : wr.cell? ⟨w.heap.size + 1, 1, none⟩ = some (.int .u64 0) := TJ.out.cell_ rfl
    have x2 : wr.cell? ⟨w.heap.size + 1, 2, none⟩ = some (.slice none 0 0) := TJ.out.cell_ rfl
    have x3 : wr.cell? ⟨w.heap.size + 1, 3, none⟩ = some (.slice A ks.length cap) := TJ.out.cell_ rfl
    have y0 : wr.cell? ⟨w.heap.size, 0, none⟩ = some (.int .i64 0) := NJ.out.cell_ rfl
    have y1 : wr.cell? ⟨w.heap.size, 1, none⟩ = some (.int .u64 0) := NJ.out.cell_ rfl
    have y2 : wr.cell? ⟨w.heap.size, 2, none⟩ = some (.slice none 0 0) := NJ.out.cell_ rfl
    have y3 : wr.cell? ⟨w.heap.size, 3, none⟩ = some (.slice none 0 0) := NJ.out.cell_ rfl
    have f0 := NJ.out.frozen 0
    have f1 := NJ.out.frozen 1
    have f2 := NJ.out.frozen 2
    have f3 := NJ.out.frozen 3
    have wg : g < w.heap.size := glt
    have gsz := GW.out.size
    have ltj := TJ.out.lt
    by_cases hlt : i < n
    · have q0 : (i : Int) < (n : Int) := by omega
      rcases MO.out with ⟨rfl, rfl, hki, m1, m2, m3, m4, m5, m6, f, m7, m8, ER, OK, LI⟩ | ⟨hE, q, en, hq1, hq2, hq3⟩
      · clear MO
        have i9 : ks.length ≤ 1000000 := by have h1 := L9.out; have h2 := HLL.out; omega
        have i10 : i ≤ 1000000 := by omega
        have HKI := Lib.hid hki
        clear hki
        have CV := Lib.hid (HV.out f m7 wr g a b c d zb zc zd ki (some ad, L, cp, l) pi (deep + 1) DJ.out ZB.out ZC.out ZD.out D1.out m1 m2 (by have := KB.out; show ki + ((l.length - pi : Nat) : Int) ≤ 1000000; omega) L9.out (by omega) (by have := DB.out; show deep + 1 + ((l.length - pi : Nat) : Int) ≤ 3000000; omega) (by show l.length - pi + 2 ≤ f; omega))
        have ES : R = match rdv zb zc zd l f (deep + 1) pi ki with | .bad q e => .bad q e | .good v q k' => rds zb zc zd l f (n - i - 1) (deep + 1) q k' (nds ks ++ [v]) := ER.trans (by rw [rds, if_neg (by omega)]; cases rdv zb zc zd l f (deep + 1) pi ki <;> rfl)
        have OKH := Lib.hid OK
        have LIH := Lib.hid LI
        cases hres : rdv zb zc zd l f (deep + 1) pi ki with
        | bad q en =>
          rw [hres] at CV ES
          have CX := Lib.hid (show Calls _ _ _ _ (DbQ q en wr g a b c d (some ad, L, cp, l)) from CV.out)
          have E2 := Lib.hid (show R = .bad q en from ES)
          have EN := Lib.hid (rdv_bad zb zc zd l f (deep + 1) pi ki hres)
          clear CV ES hres
          go_wp2_with (first
          | (go_at_call 115; (refine CX.out.mono ?_); rintro e w5 ⟨h1, ⟨t, rfl⟩, p5, k5, hd⟩; have D5 := Lib.hid hd; obtain ⟨K, N, rr, BB, cc, us⟩ := t; simp only [Tv.val, Tv.row]; have A1 := Lib.hid (below_one w5 (.cells #[.int .i64 K, .int .u64 (N : Int), .slice rr.1 rr.2.1 rr.2.2.1, .slice BB us.length cc] 75)); have A2 := Lib.hid (below_one (w5.alloc (.cells #[.int .i64 K, .int .u64 (N : Int), .slice rr.1 rr.2.1 rr.2.2.1, .slice BB us.length cc] 75)) (.cells #[.int .i64 K, .int .u64 (N : Int), .slice rr.1 rr.2.1 rr.2.2.1, .slice BB us.length cc] 75)); have AX := Lib.hid (A1.out.trans (A2.out.mono A1.out.size)); have O1 := Lib.hid (own_belowg (OW.out.kept h1 (.inr (fun e => by have := own_ltg OW.out _ e; omega))) AX.out); have SA := Lib.hid (show Sl ((w5.alloc (.cells #[.int .i64 K, .int .u64 (N : Int), .slice rr.1 rr.2.1 rr.2.2.1, .slice BB us.length cc] 75)).alloc (.cells #[.int .i64 K, .int .u64 (N : Int), .slice rr.1 rr.2.1 rr.2.2.1, .slice BB us.length cc] 75)) (some ⟨w5.heap.size + 1, 0, none⟩) (1 * 4) [.int .i64 K, .int .u64 (N : Int), .slice rr.1 rr.2.1 rr.2.2.1, .slice BB us.length cc] from by have h := Sl.new_ (w5.alloc (.cells #[.int .i64 K, .int .u64 (N : Int), .slice rr.1 rr.2.1 rr.2.2.1, .slice BB us.length cc] 75)) 75 [.int .i64 K, .int .u64 (N : Int), .slice rr.1 rr.2.1 rr.2.2.1, .slice BB us.length cc]; simpa using h); have T5 := Lib.hid (show Bl w5 (w.heap.size + 1) 75 _ from TJ.out.grown h1 (by intro e; injection e with e; omega)); have T6 := Lib.hid (T5.out.below' A1.out); have T7 := Lib.hid (T5.out.below' AX.out); have u3 : (w5.alloc (.cells #[.int .i64 K, .int .u64 (N : Int), .slice rr.1 rr.2.1 rr.2.2.1, .slice BB us.length cc] 75)).cell? ⟨w.heap.size + 1, 3, none⟩ = some (.slice A ks.length cap) := T6.out.cell_ rfl; have G5 := Lib.hid h1; have sz1 := GW.out.size; have sz2 := h1.size; have N5 := Lib.hid (show Bl w5 w.heap.size 75 _ from NJ.out.grown h1 (by intro e; injection e with e; omega)); clear h1 hd)
          | (at_builtin; refine wpList_append_at _ rfl _ _ 72 rfl (w.heap.size + 2) 75 i0 _ 4 64 Tryz.underlying72 hi hz0 hz1 hz2 (by kernel_rfl) (by decide) (.slice A ks.length cap) ks.length (flat ks) rfl O1.out (some ⟨w5.heap.size + 1, 0, none⟩) 1 1 [.int .i64 K, .int .u64 (N : Int), .slice rr.1 rr.2.1 rr.2.2.1, .slice BB us.length cc] rfl (fun e => by cases e) SA.out (row_one (.mk K N rr BB cc us)) (by unfold maxLen; omega) (by omega) (by have h3 := AX.out.size; have h4 := T5.out.lt; omega) ?_))
          intro v8 w8 hown8 hgrow8 hat8
          have O8 := Lib.hid hown8
          have G8 := Lib.hid hgrow8
          have H8 := Lib.hid hat8
          clear hown8 hgrow8 hat8
          obtain ⟨A8, cap8, rfl, -, -, -, -⟩ := own_form O8.out
          have bl8 := own_ltg OW.out
          have T8 := Lib.hid (show Bl w8 (w.heap.size + 1) 75 _ from T7.out.grown G8.out (fun e => by have := bl8 _ e; omega))
          have x3 : w8.cell? ⟨w.heap.size + 1, 3, none⟩ = some (.slice A ks.length cap) := T8.out.cell_ rfl
          have fx3 := T8.out.frozen 3
          have iw : IntKind.u64.wrap ((i : Int) + 1) = ((i + 1 : Nat) : Int) := by simp only [IntKind.wrap_u64]; omega
          go_wp2_with fail
          go_roundg 0
          case measure => omega
          case rel =>
            have sz3 := AX.out.size
            have sz8 := G8.out.size
            have lt5 := T5.out.lt
            have lx : ∀ ad_, (some ad : Option Addr) = some ad_ → 0 < l.length → ad_.block < w.heap.size := fun ad_ e hn => pc_lt HP.out ad_ e hn
            have OS : (w8.setCell ⟨w.heap.size + 1, 3, none⟩ (.slice A8 (ks.length + 1) cap8)).ownsRow (w.heap.size + 2) 75 4 (.slice A8 (ks ++ [Tv.mk K N rr BB cc us]).length cap8) (ks ++ [Tv.mk K N rr BB cc us]).length (flat (ks ++ [Tv.mk K N rr BB cc us])) := by
              have h := O8.out.kept (w' := w8.setCell ⟨w.heap.size + 1, 3, none⟩ (.slice A8 (ks.length + 1) cap8)) (row := some (w.heap.size + 1)) (only_set (World.grownBy.refl w8 _) (p := ⟨w.heap.size + 1, 3, none⟩) (Or.inl rfl) _) (.inr (fun e => by have := own_ltg O8.out _ e; omega))
              rw [flat_snoc, List.length_append]; exact h
            have TS : Bl (w8.setCell ⟨w.heap.size + 1, 3, none⟩ (.slice A8 (ks.length + 1) cap8)) (w.heap.size + 1) 75 #[.int .i64 3, .int .u64 0, .slice none 0 0, .slice A8 (ks ++ [Tv.mk K N rr BB cc us]).length cap8] := by rw [List.length_append]; exact T8.out.set_ 3 _
            have NS : Bl (w8.setCell ⟨w.heap.size + 1, 3, none⟩ (.slice A8 (ks.length + 1) cap8)) w.heap.size 75 #[.int .i64 0, .int .u64 0, .slice none 0 0, .slice none 0 0] := ((N5.out.below' AX.out).grown G8.out (fun e => by have := bl8 _ e; omega)).other (p := ⟨w.heap.size + 1, 3, none⟩) (by show w.heap.size ≠ w.heap.size + 1; omega) _
            have GS : w.grownBy (w8.setCell ⟨w.heap.size + 1, 3, none⟩ (.slice A8 (ks.length + 1) cap8)) (some g) := only_set (only_own (only_then (only_trans GW.out G5.out) (AX.out.mono (by omega))) G8.out (fun j e => by have := bl8 j e; omega)) (p := ⟨w.heap.size + 1, 3, none⟩) (Or.inr (Nat.le_succ _)) _
            have DS : ∀ {ki' : Int} {pi' : Nat} {E' B' : Int}, Di w5 g a b c d ki' (some ad, L, cp, l) pi' E' B' → Di (w8.setCell ⟨w.heap.size + 1, 3, none⟩ (.slice A8 (ks.length + 1) cap8)) g a b c d ki' (some ad, L, cp, l) pi' E' B' := fun hd => set_di ((hd.below AX.out).grown G8.out (fun e => by have := bl8 _ e; omega) (fun ad_ e hn e2 => by have h1 := bl8 _ e2; have h2 := lx ad_ e hn; omega)) (by omega) (fun ad_ e hn => by have := lx ad_ e hn; omega) 3 _
            exact ⟨i + 1, p5, k5, ks ++ [.mk K N rr BB cc us], (en : Int), (q : Int), A8, cap8, by go_num, by omega, by omega, by rw [List.length_append]; show ks.length + 1 ≤ 1000001; omega, Lib.hid TS, Lib.hid OS, Lib.hid (DS D5.out), Lib.hid GS, Lib.hid NS, Lib.hid (.inr ⟨by have := EN.out; omega, q, en, E2.out, rfl, rfl⟩)⟩
        | good v p2 k2 =>
          rw [hres] at CV ES
          have HG := Lib.hid (rdv_good zb zc zd l f (deep + 1) pi ki m5 hres)
          have KC := Lib.hid (rdv_in zb zc zd l (by have := ZD.out; omega) f (deep + 1) pi ki m2 hres).2.2.1
          have CX := Lib.hid (show Calls _ _ _ _ (DgQ v p2 wr g a b c d k2 (some ad, L, cp, l)) from CV.out)
          have E2 := Lib.hid (show R = rds zb zc zd l f (n - i - 1) (deep + 1) p2 k2 (nds ks ++ [v]) from ES)
          clear CV ES hres
          go_wp2_with (first
          | (go_at_call 115; (refine CX.out.mono ?_); rintro e w5 ⟨h1, t, rfl, hv, ho, hl, hd⟩; have D5 := Lib.hid hd; have V5 := Lib.hid hv; have K5 := Lib.hid ho; have L5 := Lib.hid hl; obtain ⟨K, N, rr, BB, cc, us⟩ := t; simp only [Tv.val, Tv.row]; have A1 := Lib.hid (below_one w5 (.cells #[.int .i64 K, .int .u64 (N : Int), .slice rr.1 rr.2.1 rr.2.2.1, .slice BB us.length cc] 75)); have A2 := Lib.hid (below_one (w5.alloc (.cells #[.int .i64 K, .int .u64 (N : Int), .slice rr.1 rr.2.1 rr.2.2.1, .slice BB us.length cc] 75)) (.cells #[.int .i64 K, .int .u64 (N : Int), .slice rr.1 rr.2.1 rr.2.2.1, .slice BB us.length cc] 75)); have AX := Lib.hid (A1.out.trans (A2.out.mono A1.out.size)); have O1 := Lib.hid (own_belowg (OW.out.kept h1 (.inr (fun e => by have := own_ltg OW.out _ e; omega))) AX.out); have SA := Lib.hid (show Sl ((w5.alloc (.cells #[.int .i64 K, .int .u64 (N : Int), .slice rr.1 rr.2.1 rr.2.2.1, .slice BB us.length cc] 75)).alloc (.cells #[.int .i64 K, .int .u64 (N : Int), .slice rr.1 rr.2.1 rr.2.2.1, .slice BB us.length cc] 75)) (some ⟨w5.heap.size + 1, 0, none⟩) (1 * 4) [.int .i64 K, .int .u64 (N : Int), .slice rr.1 rr.2.1 rr.2.2.1, .slice BB us.length cc] from by have h := Sl.new_ (w5.alloc (.cells #[.int .i64 K, .int .u64 (N : Int), .slice rr.1 rr.2.1 rr.2.2.1, .slice BB us.length cc] 75)) 75 [.int .i64 K, .int .u64 (N : Int), .slice rr.1 rr.2.1 rr.2.2.1, .slice BB us.length cc]; simpa using h); have T5 := Lib.hid (show Bl w5 (w.heap.size + 1) 75 _ from TJ.out.grown h1 (by intro e; injection e with e; omega)); have T6 := Lib.hid (T5.out.below' A1.out); have T7 := Lib.hid (T5.out.below' AX.out); have u3 : (w5.alloc (.cells #[.int .i64 K, .int .u64 (N : Int), .slice rr.1 rr.2.1 rr.2.2.1, .slice BB us.length cc] 75)).cell? ⟨w.heap.size + 1, 3, none⟩ = some (.slice A ks.length cap) := T6.out.cell_ rfl; have G5 := Lib.hid h1; have sz1 := GW.out.size; have sz2 := h1.size; have N5 := Lib.hid (show Bl w5 w.heap.size 75 _ from NJ.out.grown h1 (by intro e; injection e with e; omega)); clear h1 hd hv ho hl)
          | (at_builtin; refine wpList_append_at _ rfl _ _ 72 rfl (w.heap.size + 2) 75 i0 _ 4 64 Tryz.underlying72 hi hz0 hz1 hz2 (by kernel_rfl) (by decide) (.slice A ks.length cap) ks.length (flat ks) rfl O1.out (some ⟨w5.heap.size + 1, 0, none⟩) 1 1 [.int .i64 K, .int .u64 (N : Int), .slice rr.1 rr.2.1 rr.2.2.1, .slice BB us.length cc] rfl (fun e => by cases e) SA.out (row_one (.mk K N rr BB cc us)) (by unfold maxLen; omega) (by omega) (by have h3 := AX.out.size; have h4 := T5.out.lt; omega) ?_))
          intro v8 w8 hown8 hgrow8 hat8
          have O8 := Lib.hid hown8
          have G8 := Lib.hid hgrow8
          have H8 := Lib.hid hat8
          clear hown8 hgrow8 hat8
          obtain ⟨A8, cap8, rfl, -, -, -, -⟩ := own_form O8.out
          have bl8 := own_ltg OW.out
          have T8 := Lib.hid (show Bl w8 (w.heap.size + 1) 75 _ from T7.out.grown G8.out (fun e => by have := bl8 _ e; omega))
          have x3 : w8.cell? ⟨w.heap.size + 1, 3, none⟩ = some (.slice A ks.length cap) := T8.out.cell_ rfl
          have fx3 := T8.out.frozen 3
          have iw : IntKind.u64.wrap ((i : Int) + 1) = ((i + 1 : Nat) : Int) := by simp only [IntKind.wrap_u64]; omega
          go_wp2_with fail
          have pg := HG.out
          go_roundg (l.length - p2 + 1)
          case measure => omega
          case rel =>
            have sz3 := AX.out.size
            have sz8 := G8.out.size
            have lt5 := T5.out.lt
            have lx : ∀ ad_, (some ad : Option Addr) = some ad_ → 0 < l.length → ad_.block < w.heap.size := fun ad_ e hn => pc_lt HP.out ad_ e hn
            have OS : (w8.setCell ⟨w.heap.size + 1, 3, none⟩ (.slice A8 (ks.length + 1) cap8)).ownsRow (w.heap.size + 2) 75 4 (.slice A8 (ks ++ [Tv.mk K N rr BB cc us]).length cap8) (ks ++ [Tv.mk K N rr BB cc us]).length (flat (ks ++ [Tv.mk K N rr BB cc us])) := by
              have h := O8.out.kept (w' := w8.setCell ⟨w.heap.size + 1, 3, none⟩ (.slice A8 (ks.length + 1) cap8)) (row := some (w.heap.size + 1)) (only_set (World.grownBy.refl w8 _) (p := ⟨w.heap.size + 1, 3, none⟩) (Or.inl rfl) _) (.inr (fun e => by have := own_ltg O8.out _ e; omega))
              rw [flat_snoc, List.length_append]; exact h
            have TS : Bl (w8.setCell ⟨w.heap.size + 1, 3, none⟩ (.slice A8 (ks.length + 1) cap8)) (w.heap.size + 1) 75 #[.int .i64 3, .int .u64 0, .slice none 0 0, .slice A8 (ks ++ [Tv.mk K N rr BB cc us]).length cap8] := by rw [List.length_append]; exact T8.out.set_ 3 _
            have NS : Bl (w8.setCell ⟨w.heap.size + 1, 3, none⟩ (.slice A8 (ks.length + 1) cap8)) w.heap.size 75 #[.int .i64 0, .int .u64 0, .slice none 0 0, .slice none 0 0] := ((N5.out.below' AX.out).grown G8.out (fun e => by have := bl8 _ e; omega)).other (p := ⟨w.heap.size + 1, 3, none⟩) (by show w.heap.size ≠ w.heap.size + 1; omega) _
            have GS : w.grownBy (w8.setCell ⟨w.heap.size + 1, 3, none⟩ (.slice A8 (ks.length + 1) cap8)) (some g) := only_set (only_own (only_then (only_trans GW.out G5.out) (AX.out.mono (by omega))) G8.out (fun j e => by have := bl8 j e; omega)) (p := ⟨w.heap.size + 1, 3, none⟩) (Or.inr (Nat.le_succ _)) _
            have DS : ∀ {ki' : Int} {pi' : Nat} {E' B' : Int}, Di w5 g a b c d ki' (some ad, L, cp, l) pi' E' B' → Di (w8.setCell ⟨w.heap.size + 1, 3, none⟩ (.slice A8 (ks.length + 1) cap8)) g a b c d ki' (some ad, L, cp, l) pi' E' B' := fun hd => set_di ((hd.below AX.out).grown G8.out (fun e => by have := bl8 _ e; omega) (fun ad_ e hn e2 => by have h1 := bl8 _ e2; have h2 := lx ad_ e hn; omega)) (by omega) (fun ad_ e hn => by have := lx ad_ e hn; omega) 3 _
            have bl := own_ltg OW.out
            have KW : ∀ t ∈ ks, Ok w5 t := fun t ht => (OKH.out t ht).kept (liess_mem.1 LIH.out t ht) (fun k hk hlt => G5.out.block k hlt (fun e => by have h1 : k = g := Option.some.inj e; omega))
            have LW := liess.lt OKH.out LIH.out
            have LT := lies.lt K5.out L5.out
            have sz5 := G5.out.size
            have nb : ∀ k, (w.heap.size + 2 ≤ k ∧ (Value.slice A ks.length cap).ownBlock ≠ some k) ∧ k < wr.heap.size → w.heap.size + 2 ≤ k ∧ (Value.slice A8 (ks.length + 1) cap8).ownBlock ≠ some k := fun k hk => ⟨hk.1.1, fun e => by
              rcases H8.out k e with e1 | e1
              · exact hk.1.2 e1
              · omega⟩
            have nt : ∀ k, wr.heap.size ≤ k ∧ k < w5.heap.size → w.heap.size + 2 ≤ k ∧ (Value.slice A8 (ks.length + 1) cap8).ownBlock ≠ some k := fun k hk => ⟨by omega, fun e => by
              rcases H8.out k e with e1 | e1
              · have := bl k e1; omega
              · omega⟩
            have LL8 : liess (fun k => w.heap.size + 2 ≤ k ∧ (Value.slice A8 (ks.length + 1) cap8).ownBlock ≠ some k) (ks ++ [Tv.mk K N rr BB cc us]) := by
              rw [liess_mem]
              intro t ht
              rcases List.mem_append.1 ht with ht | ht
              · exact lies.mono nb (liess_mem.1 LW t ht)
              · rw [List.mem_singleton.1 ht]; exact lies.mono nt LT
            have KA : ∀ t ∈ ks ++ [Tv.mk K N rr BB cc us], Ok w8 t ∧ True := fun t ht => by
              rcases List.mem_append.1 ht with ht | ht
              · exact ⟨((KW t ht).keep AX.out).kept (liess_mem.1 LIH.out t ht) (fun k hk hlt => G8.out.block k hlt (fun e => hk.2 e.symm)), trivial⟩
              · rw [List.mem_singleton.1 ht]
                exact ⟨(K5.out.keep AX.out).kept LT (fun k hk hlt => G8.out.block k hlt (fun e => by have := bl k e.symm; omega)), trivial⟩
            have KS : ∀ t ∈ ks ++ [Tv.mk K N rr BB cc us], Ok (w8.setCell ⟨w.heap.size + 1, 3, none⟩ (.slice A8 (ks.length + 1) cap8)) t := fun t ht => (KA t ht).1.kept (liess_mem.1 LL8 t ht) (fun k hk _ => Below.heap_setCell w8 ⟨w.heap.size + 1, 3, none⟩ _ k (by show k ≠ w.heap.size + 1; omega))
            refine ⟨i + 1, p2, k2, ks ++ [Tv.mk K N rr BB cc us], 0, 0, A8, cap8, by go_num, by omega, by omega, by rw [List.length_append]; show ks.length + 1 ≤ 1000001; omega, Lib.hid TS, Lib.hid OS, Lib.hid (DS D5.out), Lib.hid GS, Lib.hid NS, Lib.hid (.inl ⟨rfl, rfl, by rw [List.length_append]; show ks.length + 1 = i + 1; have := HKI.out; omega, by omega, KC.out, by omega, by omega, pg.2.1, Nat.le_refl _, f - 1, by omega, by omega, ?_, KS, by rw [List.length_append]; exact LL8⟩)⟩
            rw [E2.out, nds_map, nds_map, List.map_append, List.map_cons, List.map_nil, V5.out, show f - 1 + 1 = f by omega, show n - (i + 1) = n - i - 1 by omega]
      · clear MO
        go_wp2_with fail
        have hf : DlQ R w g a b c d (some ad, L, cp, l) (.returned (.agg #[.int .i64 3, .int .u64 0, .slice none 0 0, .slice A ks.length cap])) (st4 wr w.heap.size (.int .i64 3) (.int .u64 0) (.slice none 0 0) (.slice A ks.length cap)) := by
          rw [hq1]; subst hq2 hq3
          exact ⟨st4_only GW.out (Nat.le_refl _) _ _ _ _, ⟨.mk 3 0 (none, 0, 0, []) A cap ks, rfl⟩, pi, ki, st4_di DJ.out (by omega) (fun ad_ e hn => by have := HPQ.out ad_ e hn; omega) _ _ _ _⟩
        have HL4 := Lib.hid (st4_bl NJ.out (.int .i64 3) (.int .u64 0) (.slice none 0 0) (.slice A ks.length cap))
        exact ⟨rfl, _, results_c rfl _ _ _ ⟨w.heap.size, 0, none⟩ _ (by kernel_rfl) (run_loadVar_row _ w.heap.size 75 75 _ (0, 0) _ HL4.out Tryz.underlying75 rfl size34), hf⟩
    · obtain rfl : i = n := by omega
      have q0 : ¬ (i : Int) < (i : Int) := by omega
      go_wp2_with fail
      rcases MO.out with ⟨rfl, rfl, hki, m1, m2, m3, m4, m5, m6, f, m7, m8, ER, OK, LI⟩ | ⟨hE, q, en, hq1, hq2, hq3⟩
      · have hf : DlQ R w g a b c d (some ad, L, cp, l) (.returned (.agg #[.int .i64 3, .int .u64 0, .slice none 0 0, .slice A ks.length cap])) (st4 wr w.heap.size (.int .i64 3) (.int .u64 0) (.slice none 0 0) (.slice A ks.length cap)) := by
          have ER2 : R = .good (nds ks) pi ki := ER.trans (by rw [rds, if_pos (by omega)])
          rw [ER2]
          obtain ⟨A', cap', e', s1, s2, s3, s4⟩ := own_form OW.out
          cases e'
          have e4 : 4 * ks.length = ks.length * 4 := by omega
          exact dfin (t := .mk 3 0 (none, 0, 0, []) A cap ks) rfl (by rw [nd]) HP.out GW.out DJ.out (.mk (by decide) (nil_pc _) (by rw [e4]; exact s1) (by have h1 := L9.out; have h2 := HLL.out; omega) (by omega) s2 OK) (by rw [lies]; exact ⟨fun ad e => (by cases e), fun ad e _ => (by have h1 := (s4 ad e).1; omega), liess.mono (fun k hk => by omega) LI⟩) glt
        have HL4 := Lib.hid (st4_bl NJ.out (.int .i64 3) (.int .u64 0) (.slice none 0 0) (.slice A ks.length cap))
        exact ⟨rfl, _, results_c rfl _ _ _ ⟨w.heap.size, 0, none⟩ _ (by kernel_rfl) (run_loadVar_row _ w.heap.size 75 75 _ (0, 0) _ HL4.out Tryz.underlying75 rfl size34), hf⟩
      · have hf : DlQ R w g a b c d (some ad, L, cp, l) (.returned (.agg #[.int .i64 3, .int .u64 0, .slice none 0 0, .slice A ks.length cap])) (st4 wr w.heap.size (.int .i64 3) (.int .u64 0) (.slice none 0 0) (.slice A ks.length cap)) := by
          rw [hq1]; subst hq2 hq3
          exact ⟨st4_only GW.out (Nat.le_refl _) _ _ _ _, ⟨.mk 3 0 (none, 0, 0, []) A cap ks, rfl⟩, pi, ki, st4_di DJ.out (by omega) (fun ad_ e hn => by have := HPQ.out ad_ e hn; omega) _ _ _ _⟩
        have HL4 := Lib.hid (st4_bl NJ.out (.int .i64 3) (.int .u64 0) (.slice none 0 0) (.slice A ks.length cap))
        exact ⟨rfl, _, results_c rfl _ _ _ ⟨w.heap.size, 0, none⟩ _ (by kernel_rfl) (run_loadVar_row _ w.heap.size 75 75 _ (0, 0) _ HL4.out Tryz.underlying75 rfl size34), hf⟩
end Go.Proofs.YteblmphohhbgcaaGreat.Wr
