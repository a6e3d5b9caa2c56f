/- Joined texts. -/
import Derived.Test.YteblmphohhbgcaaQaWrWrite
set_option linter.unusedVariables false
namespace Go.Proofs.Yteblmphohhbgcaa.Wr
open Go.RowKit Go.Proofs.Yteblmphohhbgcaa.Gn Go.Proofs.Yteblmphohhbgcaa.Fd Go.Deep
set_option maxHeartbeats 4000000 in
set_option maxRecDepth 100000 in
theorem Write1_any {w0 : World} {v : Tv} (hv : Ok w0 v) {u : World} {g p q : Nat} {a b c d : Int} {T : Value} (hg : w0.heap.size ≤ g) (hb : Below w0.heap.size w0 u) (h : Wt u g a b c d 0 [] T) (d0 : 0 ≤ d) (d1 : d ≤ 9223372036854775807) (hz : sz v ≤ 70000) (hp : u.cell? ⟨p, 0, none⟩ = some (.pointer (some ⟨g, 0, none⟩))) (hq : Bl u q 80 v.row.toArray) :
    Calls Try.prog 59 #[.pointer (some ⟨p, 0, none⟩), .pointer (some ⟨q, 0, none⟩)] u (WoQ (wer a b c d v) u g a b c d T (wb v)) := by
  have CW := Lib.hid (wwhole_any hv hg hb h d0 d1 hz)
  generalize wer a b c d v = er at *
  generalize wb v = bs at *
  clear hv hb h d0 d1 hz
  cases v with
  | mk K n r A cc ks =>
  obtain ⟨m, hm⟩ : ∃ m, ks.length = m := ⟨_, rfl⟩
  simp only [Tv.val, Tv.row, hm] at CW hq
  have z0 : u.cell? ⟨q, 0, none⟩ = some (.int .i64 K) := hq.cell_ rfl
  have z1 : u.cell? ⟨q, 1, none⟩ = some (.int .u64 (n : Int)) := hq.cell_ rfl
  have z2 : u.cell? ⟨q, 2, none⟩ = some (.slice r.1 r.2.1 r.2.2.1) := hq.cell_ rfl
  have z3 : u.cell? ⟨q, 3, none⟩ = some (.slice A m cc) := hq.cell_ rfl
  clear hq hm
  by_cases her : er = 0
  · have CO := Lib.hid (CW.out.mono fun e w' ⟨T', h1, h2, h3⟩ => (show e = Ending.returned (.tuple #[]) ∧ WoQ er u g a b c d T bs (.returned (.tuple #[])) w' from by
      rcases h3 with ⟨h3, rfl, h4⟩ | ⟨h3, -⟩
      · exact ⟨rfl, T', h1, h2, .inl ⟨h3, rfl, h4⟩⟩
      · exact (h3 her).elim))
    clear her CW
    go_enter Try.func59, Try.ntmps59
    go_wp2_with (go_at_call 60; (refine CO.out.mono ?_); rintro e w1 ⟨rfl, h1⟩; have H1 := Lib.hid h1; clear h1)
    first | go_end0 | refine bodyPost_ret (results_none rfl _ _ _) rfl ?_
    exact H1.out
  · have CO := Lib.hid (CW.out.mono fun e w' ⟨T', h1, h2, h3⟩ => (show ∃ x, e = pan x er ∧ WoQ er u g a b c d T bs (pan x er) w' from by
      rcases h3 with ⟨h3, -⟩ | ⟨h3, x, rfl⟩
      · exact (her h3).elim
      · exact ⟨x, rfl, T', h1, h2, .inr ⟨h3, x, rfl⟩⟩))
    clear her CW
    go_enter Try.func59, Try.ntmps59
    go_wp2_with (go_at_call 60; (refine CO.out.mono ?_); rintro e w1 ⟨x, rfl, h1⟩; have H1 := Lib.hid h1; clear h1)
    exact ⟨rfl, H1.out⟩
theorem A1x(w:World)(o o':Obj)(B:Nat):Below w.heap.size (w.alloc o) ((w.alloc o).alloc o'):=(below_one (w.alloc o) o').mono (by simp)
theorem own_nil'{w:World}{base:Nat}{e:TypeId}:w.ownsRow base e 1 (.slice none 0 0) ([]:List Nat).length (bl []):=⟨rfl,.inl ⟨rfl,rfl⟩⟩
theorem faultOf_some(caps:Array Value)(w:World)(b:Int)(R:World→Prop)(hR:∀w2,R w2→w2.heap[w.heap.size]?=some (.cells #[.int .i64 0,.int .i64 0] 123 (0,0)))
  (hc:Calls Try.prog 59 caps (w.alloc (.cells #[.int .i64 0,.int .i64 0] 123)) fun e w2=>(∃a,e=.panicked [{ v:=.iface 123 (flt a b),recovered:=false }])∧R w2) :
  Calls Try.prog 58 #[.func (.func 59) #[] caps] w fun e w'=>(∃a,e=.returned (flt a b))∧∃w2,R w2∧w2.grownBy w' (some w.heap.size):=by
 have hmf:∀(fn:Fn) (first cap:Array Value) (w:World),(Instr.makeFunc fn first cap).run Try.prog w=.ok (.func fn first cap) w:=fun _ _ _ _=>rfl
 have HC:=Lib.hid hc
 have HR:=Lib.hid hR
 clear hc hR
 go_enter_defers Try.func58,Try.ntmps58
 go_wp2_with (go_at_call 59;(refine HC.out.mono ?_);rintro e w2 ⟨⟨a,rfl⟩,hr⟩;have R2:=Lib.hid hr;have hh:=Lib.hid (HR.out w2 hr);clear hr)
 have HL:=Lib.hid (show Bl (((w2.setCell ⟨w.heap.size,0,none⟩ (.int .i64 a)).setCell ⟨w.heap.size,1,none⟩ (.int .i64 b)).alloc (.cells #[.int .i64 a,.int .i64 b] 123)) w.heap.size 123 #[.int .i64 a,.int .i64 b] from(((show Bl w2 w.heap.size 123 #[.int .i64 0,.int .i64 0] from hh.out).set_ 0 (.int .i64 a)).set_ 1 (.int .i64 b)).alloc _)
 have HG:=Lib.hid (show w2.grownBy (((w2.setCell ⟨w.heap.size,0,none⟩ (.int .i64 a)).setCell ⟨w.heap.size,1,none⟩ (.int .i64 b)).alloc (.cells #[.int .i64 a,.int .i64 b] 123)) (some w.heap.size) from(only_set (only_set (World.grownBy.refl w2 (some w.heap.size)) (p:=⟨w.heap.size,0,none⟩) (Or.inl rfl) (.int .i64 a)) (p:=⟨w.heap.size,1,none⟩) (Or.inl rfl) (.int .i64 b)).alloc_ _)
 refine leaves_cons (f:=78) (args:=#[.pointer (some ⟨w.heap.size,0,none⟩)]) (by simp) (by simp[go_sem]) ?_
 refine(catch_panicking w.heap.size 0 0 a b [] _ ?_ ?_ ?_ ?_ ?_).mono ?_
 ·rw[cell_of_row _ _ _ _ _ _ hh.out];rfl
 ·rw[cell_of_row _ _ _ _ _ _ hh.out];rfl
 ·simp[World.frozen?,hh.out]
 ·simp[World.frozen?,hh.out]
 ·exact Bl.lt (t:=123) hh.out
 rintro e u' w'' ⟨rfl,rfl,rfl⟩
 refine⟨_,results_c rfl _ _ _ ⟨w.heap.size,0,none⟩ _ (by kernel_rfl) (run_loadVar_row _ w.heap.size 123 123 #[.int .i64 a,.int .i64 b] (0,0) _ HL.out Try.underlying123 rfl size97),⟨a,rfl⟩,w2,R2.out,HG.out⟩
def WtQ(er:Int)(bs:List Nat)(w:World)(e:Ending)(w':World):Prop :=
 Below w.heap.size w w'∧((er=0∧∃T',e=.returned (.tuple #[T',.int .i64 0])∧w'.ownsRow w.heap.size 5 1 T' bs.length (bl bs))∨(er≠0∧e=.returned (.tuple #[.slice none 0 0,.int .i64 er])))
set_option maxHeartbeats 4000000 in
set_option maxRecDepth 100000 in
theorem Write_any {w : World} {v : Tv} (hv : Ok w v) (a b c d : Int) (d1 : d ≤ 9223372036854775807) (hz : sz v ≤ 70000) :
    Calls Try.prog 33 #[v.val, lim a b c d] w (WtQ (wer (max a 0) (max b 0) (max c 0) (max d 0) v) (wb v) w) := by
  have C1 := Lib.hid (fun (u : World) (g p : Nat) (T : Value) (hg : w.heap.size ≤ g) (hb : Below w.heap.size w u) (h : Wt u g (max a 0) (max b 0) (max c 0) (max d 0) 0 [] T) hp hq => Write1_any hv (p := p) (q := w.heap.size) hg hb h (by omega) (by omega) hz hp hq)
  have CRo := Lib.hid (fun u => roomOf_any a b c d u)
  generalize wer (max a 0) (max b 0) (max c 0) (max d 0) v = er at *
  generalize wb v = bs at *
  generalize max a 0 = a1 at *
  generalize max b 0 = b1 at *
  generalize max c 0 = c1 at *
  generalize max d 0 = d1 at *
  clear hv hz
  cases v with
  | mk K n r A cc ks =>
  obtain ⟨m, hm⟩ : ∃ m, ks.length = m := ⟨_, rfl⟩
  simp only [Tv.val, Tv.row, hm] at C1 ⊢
  clear hm
  have A0 := Lib.hid (below_one w (.cells #[.int .i64 K, .int .u64 (n : Int), .slice r.1 r.2.1 r.2.2.1, .slice A m cc] 80))
  have N0 := Lib.hid (Bl.new_ w 80 #[.int .i64 K, .int .u64 (n : Int), .slice r.1 r.2.1 r.2.2.1, .slice A m cc])
  go_enter Try.func33, Try.ntmps33
  go_wp2_with (go_at_call 57; (refine (CRo.out _).mono ?_); rintro e w1 ⟨rfl, hb⟩; have B1 := Lib.hid hb; clear hb)
  have BW := Lib.hid (show Below w.heap.size w w1 from A0.out.trans ((A1x w _ _ 0).trans (B1.out.mono (by simp; omega))))
  have NW := Lib.hid (show Bl w1 w.heap.size 80 _ from ((N0.out.alloc _).below' B1.out))
  obtain ⟨U, hU⟩ : ∃ U, ((w1.alloc (.cells #[.int .i64 a1, .int .i64 b1, .int .i64 c1, .int .i64 d1, .int .i64 0, .slice none 0 0] 121)).alloc (.cells #[.pointer (some ⟨w1.heap.size, 0, none⟩)] 116)) = U := ⟨_, rfl⟩
  have BU := Lib.hid (show Below w1.heap.size w1 U from by rw [← hU]; exact ((Below.refl _ w1).alloc (Nat.le_refl _) _).alloc (by simp) _)
  have GU := Lib.hid (show Bl U w1.heap.size 121 #[.int .i64 a1, .int .i64 b1, .int .i64 c1, .int .i64 d1, .int .i64 0, .slice none 0 0] from by rw [← hU]; exact (Bl.new_ w1 _ _).alloc _)
  have PU := Lib.hid (show Bl U (w1.heap.size + 1) 116 #[.pointer (some ⟨w1.heap.size, 0, none⟩)] from by rw [← hU]; exact Bl.new' (g := w1.heap.size + 1) _ _ (by simp))
  have SU := Lib.hid (show U.heap.size = w1.heap.size + 2 from by rw [← hU]; simp)
  have NU := Lib.hid (show Bl U w.heap.size 80 _ from NW.out.below' BU.out)
  have BF := Lib.hid (below_one U (.cells #[.int .i64 0, .int .i64 0] 123))
  have SF := Lib.hid (show (U.alloc (.cells #[.int .i64 0, .int .i64 0] 123)).heap.size = U.heap.size + 1 from by simp)
  have W0 := Lib.hid (show Wt (U.alloc (.cells #[.int .i64 0, .int .i64 0] 123)) w1.heap.size a1 b1 c1 d1 0 [] (.slice none 0 0) from ⟨GU.out.alloc _, own_nil'⟩)
  have CX := Lib.hid (C1.out (U.alloc (.cells #[.int .i64 0, .int .i64 0] 123)) w1.heap.size (w1.heap.size + 1) (.slice none 0 0) BW.out.size ((BW.out.trans (BU.out.mono BW.out.size)).trans (BF.out.mono (Nat.le_trans BW.out.size BU.out.size))) W0.out ((PU.out.alloc _).cell_ rfl) (NU.out.alloc _))
  have FX := Lib.hid (show ∀ T' w2, Fr (U.alloc (.cells #[.int .i64 0, .int .i64 0] 123)) w2 w1.heap.size (.slice none 0 0) T' → w2.heap[U.heap.size]? = some (.cells #[.int .i64 0, .int .i64 0] 123 (0, 0)) from fun T' w2 h => (h.keep U.heap.size (by rw [SF.out]; omega) (by rw [SU.out]; omega) (by simp [Value.ownBlock])).trans (Bl.new_ U _ _))
  have PX := Lib.hid (show ∀ T' w2, Fr (U.alloc (.cells #[.int .i64 0, .int .i64 0] 123)) w2 w1.heap.size (.slice none 0 0) T' → Bl w2 (w1.heap.size + 1) 116 #[.pointer (some ⟨w1.heap.size, 0, none⟩)] from fun T' w2 h => h.bl (PU.out.alloc _) (by omega) (by simp [Value.ownBlock]))
  rw [hU]
  clear hU C1
  by_cases her : er = 0
  · have CF := Lib.hid (faultOf_ret #[.pointer (some ⟨w1.heap.size + 1, 0, none⟩), .pointer (some ⟨w.heap.size, 0, none⟩)] U (fun w2 => ∃ T', Fr (U.alloc (.cells #[.int .i64 0, .int .i64 0] 123)) w2 w1.heap.size (.slice none 0 0) T' ∧ Below w1.heap.size (U.alloc (.cells #[.int .i64 0, .int .i64 0] 123)) w2 ∧ ∃ k, Wt w2 w1.heap.size a1 b1 c1 d1 k bs T') (fun w2 ⟨T', h1, _⟩ => FX.out T' w2 h1) (CX.out.mono fun e w2 ⟨T', h1, h2, h3⟩ => by
      rcases h3 with ⟨-, rfl, h4⟩ | ⟨h3, -⟩
      · exact ⟨rfl, T', h1, h2, h4⟩
      · exact (h3 her).elim))
    have HE := Lib.hid her
    clear her CX
    refine CF.out.mono ?_
    rintro e w3 ⟨rfl, w2, ⟨T', h1, h2, k, h3⟩, h4⟩
    have F2 := Lib.hid h1
    have B2 := Lib.hid h2
    have W2 := Lib.hid h3
    have G3 := Lib.hid h4
    clear h1 h2 h3 h4
    have P3 := Lib.hid (show Bl w3 (w1.heap.size + 1) 116 _ from (PX.out _ _ F2.out).grown G3.out (by rw [SU.out]; intro e; injection e with e; omega))
    have R3 := Lib.hid (show Bl w3 w1.heap.size 121 _ from W2.out.row.grown G3.out (by rw [SU.out]; intro e; injection e with e; omega))
    have p0 : w3.cell? ⟨w1.heap.size + 1, 0, none⟩ = some (.pointer (some ⟨w1.heap.size, 0, none⟩)) := P3.out.cell_ rfl
    have p5 : w3.cell? ⟨w1.heap.size, 5, none⟩ = some T' := R3.out.cell_ rfl
    have O3 := Lib.hid (W2.out.own.kept G3.out (.inr (fun e => by
      rcases F2.out.own _ e with h | h
      · simp [Value.ownBlock] at h
      · rw [SF.out] at h; omega)))
    have lt3 : w1.heap.size < w3.heap.size := R3.out.lt
    have lt4 : w1.heap.size + 1 < w3.heap.size := P3.out.lt
    have B3 := Lib.hid (show Below w.heap.size w w3 from (BW.out.trans ((BU.out.mono BW.out.size).trans ((BF.out.mono (Nat.le_trans BW.out.size BU.out.size)).trans (B2.out.mono BW.out.size)))).grown G3.out (by have h1 := BW.out.size; have h2 := BU.out.size; have h3 := B2.out.size; rw [SF.out] at h3; omega) (fun k e => by cases e; have h1 := BW.out.size; have h2 := BU.out.size; omega))
    clear CF F2 B2 W2 G3 P3 R3 FX PX W0 SF BF NU SU PU GU BU N0 A0 B1 NW
    generalize hq1 : w1.heap.size = s1 at *
    go_wp2_with fail
    go_ret2
    exact ⟨B3.out.trans ((below_one w3 _).mono B3.out.size), .inl ⟨HE.out, T', rfl, own_base (own_below O3.out (below_one w3 _)) (by have := BW.out.size; omega)⟩⟩
  · have CF := Lib.hid (faultOf_some #[.pointer (some ⟨w1.heap.size + 1, 0, none⟩), .pointer (some ⟨w.heap.size, 0, none⟩)] U er (fun w2 => ∃ T', Fr (U.alloc (.cells #[.int .i64 0, .int .i64 0] 123)) w2 w1.heap.size (.slice none 0 0) T' ∧ Below w1.heap.size (U.alloc (.cells #[.int .i64 0, .int .i64 0] 123)) w2) (fun w2 ⟨T', h1, _⟩ => FX.out T' w2 h1) (CX.out.mono fun e w2 ⟨T', h1, h2, h3⟩ => by
      rcases h3 with ⟨h3, -⟩ | ⟨-, x, rfl⟩
      · exact (her h3).elim
      · exact ⟨⟨x, rfl⟩, T', h1, h2⟩))
    have HE := Lib.hid her
    have her' : ¬ er = 0 := her
    clear CX
    refine CF.out.mono ?_
    rintro e w3 ⟨⟨x, rfl⟩, w2, ⟨T', h1, h2⟩, h4⟩
    have F2 := Lib.hid h1
    have B2 := Lib.hid h2
    have G3 := Lib.hid h4
    clear h1 h2 h4
    have B3 := Lib.hid (show Below w.heap.size w w3 from (BW.out.trans ((BU.out.mono BW.out.size).trans ((BF.out.mono (Nat.le_trans BW.out.size BU.out.size)).trans (B2.out.mono BW.out.size)))).grown G3.out (by have h1 := BW.out.size; have h2 := BU.out.size; have h3 := B2.out.size; rw [SF.out] at h3; omega) (fun k e => by cases e; have h1 := BW.out.size; have h2 := BU.out.size; omega))
    clear CF F2 B2 G3 FX PX W0 SF BF NU SU PU GU BU N0 A0 B1 NW
    generalize hq1 : w1.heap.size = s1 at *
    go_wp2_with fail
    go_quiet (fail)
    go_wp2_with fail
    go_ret2
    exact ⟨below_drewN (B3.out.trans ((below_one w3 _).mono B3.out.size)) _, .inr ⟨HE.out, rfl⟩⟩
end Go.Proofs.Yteblmphohhbgcaa.Wr
