/- Joined texts. -/
import Derived.Deep.DeepCutAuto
import Derived.Laws.AppendOwnNone
import Derived.LaidMore
import Derived.Lib.LaidTab
import Derived.Stop.LaidErr
import Derived.Deep.DeepHandedRow
import Derived.Test.YtoibhnpmemnlfaaGreatDoorQtFaD
import Derived.Test.YtoibhnpmemnlfaaGreatDoorCards
set_option linter.unusedVariables false
namespace Go.Proofs.YtoibhnpmemnlfaaGreatDoor.Fd
open Go.RowKit Go.Proofs.YtoibhnpmemnlfaaGreatDoor.Gn Go.Deep
def NewE(lo:Nat)(W:World)(r:E5)(s:Value)(wx:World):Prop :=
 ∃g:Nat,s=.pointer (some ⟨g,0,none⟩)∧Bl wx g 31 r.v∧lo < g∧Below W.heap.size W wx
theorem c5_below{w w':World}{g:Nat}{x:E5}(h:C5 w g x)(hb:Below w.heap.size w w'):C5 w' g x:=⟨keepc hb h.1,keepc hb h.2.1,keepc hb h.2.2.1,keepc hb h.2.2.2.1,keepc hb h.2.2.2.2⟩
structure RtW (w:World) (x y:E5) (W:World):Prop where
 bx:Bl W w.heap.size 31 x.v
 by':Bl W (w.heap.size+1) 31 y.v
 bz:Bl W (w.heap.size+1+1) 31 z5
 bw:Below w.heap.size w W
theorem RtW.below{w:World}{x y:E5}{W W':World}(h:RtW w x y W)(hb:Below W.heap.size W W'):RtW w x y W' :=
 ⟨h.bx.below' hb,h.by'.below' hb,h.bz.below' hb,below_nx h.bw (Nat.le_refl _) hb⟩
theorem Bl.others5{w:World}{g g' o:Nat}{t:TypeId}{cs:Array Value}(h:Bl w g t cs)(hne:g≠g'){a b c d e:Value} :
  Bl (((((w.setCell ⟨g',o,none⟩ a).setCell ⟨g',o+1,none⟩ b).setCell ⟨g',o+2,none⟩ c).setCell ⟨g',o+3,none⟩ d).setCell ⟨g',o+4,none⟩ e) g t cs :=
 ((((h.other (p:=⟨g',o,none⟩) hne a).other (p:=⟨g',o+1,none⟩) hne b).other (p:=⟨g',o+2,none⟩) hne c).other (p:=⟨g',o+3,none⟩) hne d).other (p:=⟨g',o+4,none⟩) hne e
theorem RtW.others5{w:World}{x y:E5}{W:World}{g:Nat}(h:RtW w x y W)(hg:w.heap.size+1+1 < g)(a b c d e:Value) :
  RtW w x y (((((W.setCell ⟨g,0,none⟩ a).setCell ⟨g,1,none⟩ b).setCell ⟨g,2,none⟩ c).setCell ⟨g,3,none⟩ d).setCell ⟨g,4,none⟩ e) :=
 ⟨Fd.Bl.others5 (o:=0) h.bx (by omega),Fd.Bl.others5 (o:=0) h.by' (by omega),Fd.Bl.others5 (o:=0) h.bz (by omega),set5_below h.bw (by omega) _ _ _ _ _⟩
theorem results_cell_tmp{fn:Func}{a b:Tmp}{t:TypeId}(h:fn.results = #[.cell a t,.tmp b])(tmps:Array Value)(P:Program)(w:World)(ad:Addr)(v u:Value)(ha:tmps.getD a undef=.pointer (some ad))(hb:tmps.getD b undef=u)(hl:(loadVar t ad).run P w=.ok v w) :
  (results fn tmps).run P w=.ok (.tuple #[v,u]) w:=by
 have ha':tmps[a]?.getD undef=.pointer (some ad):=by simpa using ha
 have hb':tmps[b]?.getD undef=u:=by simpa using hb
 simp[results,h,ha',hb',hl,asAddr]
def RootQ(r:Option Nat)(e:Ending):Prop :=
 match r with
 |some r=>e=.returned (.tuple #[.agg (el r).v,.bool true])
 |none=>e=.returned (.tuple #[.agg z5,.bool false])
set_option maxRecDepth 100000 in
set_option maxHeartbeats 16000000 in
theorem Root_walk (x y s1 v3 s3 v7 xa xb pw rn s8 qg ngx : E5) (n q : Nat) (o : Option Nat) (w : World) (ht : C5 w 4 (el im))
    (lr : o = if q = ng x.val then some (ev (n * im % pp)) else if q = x.val % pp then some (ev n) else none) (h9 : el n = rn) (hnl : n < pp) (hql : q < pp)
    (A1 : ∀ w, Calls Tryz.prog 58 #[.agg y.v] w fun e w' => e = .returned (.agg s1.v) ∧ Below w.heap.size w w')
    (A2 : ∀ w, Calls Tryz.prog 38 #[.agg s1.v, .agg y.v] w fun e w' => e = .returned (.agg v3.v) ∧ Below w.heap.size w w')
    (A3 : ∀ w, Calls Tryz.prog 58 #[.agg v3.v] w fun e w' => e = .returned (.agg s3.v) ∧ Below w.heap.size w w')
    (A4 : ∀ w, Calls Tryz.prog 38 #[.agg s3.v, .agg y.v] w fun e w' => e = .returned (.agg v7.v) ∧ Below w.heap.size w w')
    (A5 : ∀ w, Calls Tryz.prog 38 #[.agg x.v, .agg v3.v] w fun e w' => e = .returned (.agg xa.v) ∧ Below w.heap.size w w')
    (A6 : ∀ w, Calls Tryz.prog 38 #[.agg x.v, .agg v7.v] w fun e w' => e = .returned (.agg xb.v) ∧ Below w.heap.size w w')
    (A7 : ∀ w, Calls Tryz.prog 67 #[.agg xb.v, .int .u8 253, .int .u8 15] w fun e w' => e = .returned (.agg pw.v) ∧ Below w.heap.size w w')
    (A8 : ∀ w, Calls Tryz.prog 38 #[.agg xa.v, .agg pw.v] w fun e w' => e = .returned (.agg rn.v) ∧ Below w.heap.size w w')
    (A9 : ∀ w, Calls Tryz.prog 58 #[.agg rn.v] w fun e w' => e = .returned (.agg s8.v) ∧ Below w.heap.size w w')
    (A10 : ∀ w, Calls Tryz.prog 38 #[.agg s8.v, .agg y.v] w fun e w' => e = .returned (.agg qg.v) ∧ Below w.heap.size w w')
    (A11 : ∀ w, Calls Tryz.prog 31 #[.agg x.v] w fun e w' => e = .returned (.agg ngx.v) ∧ Below w.heap.size w w')
    (A12 : ∀ w, Calls Tryz.prog 37 #[.agg qg.v, .agg ngx.v] w fun e w' => e = .returned (.bool (decide (q % pp = ng x.val % pp))) ∧ Below w.heap.size w w')
    (A13 : ∀ w, Calls Tryz.prog 38 #[.agg rn.v, .agg (el im).v] w fun e w' => e = .returned (.agg (el (n * im % pp)).v) ∧ Below w.heap.size w w')
    (A14 : ∀ w, Calls Tryz.prog 37 #[.agg qg.v, .agg x.v] w fun e w' => e = .returned (.bool (decide (q % pp = x.val % pp))) ∧ Below w.heap.size w w') :
    Calls Tryz.prog 59 #[.agg x.v, .agg y.v] w fun e w' => RootQ o e ∧ Below w.heap.size w w' := by
  have LR := Lib.hid lr
  have HN := Lib.hid h9
  have HNL := Lib.hid hnl
  have HQL := Lib.hid hql
  clear lr h9 hnl hql
  have A1 := Lib.hid (show ∀ w, Calls Tryz.prog 58 #[(.agg #[.int .u64 (y.a : Int), .int .u64 (y.b : Int), .int .u64 (y.c : Int), .int .u64 (y.d : Int), .int .u64 (y.e : Int)])] w fun e w' => e = .returned (.agg #[.int .u64 (s1.a : Int), .int .u64 (s1.b : Int), .int .u64 (s1.c : Int), .int .u64 (s1.d : Int), .int .u64 (s1.e : Int)]) ∧ Below w.heap.size w w' from A1)
  have A2 := Lib.hid (show ∀ w, Calls Tryz.prog 38 #[(.agg #[.int .u64 (s1.a : Int), .int .u64 (s1.b : Int), .int .u64 (s1.c : Int), .int .u64 (s1.d : Int), .int .u64 (s1.e : Int)]), (.agg #[.int .u64 (y.a : Int), .int .u64 (y.b : Int), .int .u64 (y.c : Int), .int .u64 (y.d : Int), .int .u64 (y.e : Int)])] w fun e w' => e = .returned (.agg #[.int .u64 (v3.a : Int), .int .u64 (v3.b : Int), .int .u64 (v3.c : Int), .int .u64 (v3.d : Int), .int .u64 (v3.e : Int)]) ∧ Below w.heap.size w w' from A2)
  have A3 := Lib.hid (show ∀ w, Calls Tryz.prog 58 #[(.agg #[.int .u64 (v3.a : Int), .int .u64 (v3.b : Int), .int .u64 (v3.c : Int), .int .u64 (v3.d : Int), .int .u64 (v3.e : Int)])] w fun e w' => e = .returned (.agg #[.int .u64 (s3.a : Int), .int .u64 (s3.b : Int), .int .u64 (s3.c : Int), .int .u64 (s3.d : Int), .int .u64 (s3.e : Int)]) ∧ Below w.heap.size w w' from A3)
  have A4 := Lib.hid (show ∀ w, Calls Tryz.prog 38 #[(.agg #[.int .u64 (s3.a : Int), .int .u64 (s3.b : Int), .int .u64 (s3.c : Int), .int .u64 (s3.d : Int), .int .u64 (s3.e : Int)]), (.agg #[.int .u64 (y.a : Int), .int .u64 (y.b : Int), .int .u64 (y.c : Int), .int .u64 (y.d : Int), .int .u64 (y.e : Int)])] w fun e w' => e = .returned (.agg #[.int .u64 (v7.a : Int), .int .u64 (v7.b : Int), .int .u64 (v7.c : Int), .int .u64 (v7.d : Int), .int .u64 (v7.e : Int)]) ∧ Below w.heap.size w w' from A4)
  have A5 := Lib.hid (show ∀ w, Calls Tryz.prog 38 #[(.agg #[.int .u64 (x.a : Int), .int .u64 (x.b : Int), .int .u64 (x.c : Int), .int .u64 (x.d : Int), .int .u64 (x.e : Int)]), (.agg #[.int .u64 (v3.a : Int), .int .u64 (v3.b : Int), .int .u64 (v3.c : Int), .int .u64 (v3.d : Int), .int .u64 (v3.e : Int)])] w fun e w' => e = .returned (.agg #[.int .u64 (xa.a : Int), .int .u64 (xa.b : Int), .int .u64 (xa.c : Int), .int .u64 (xa.d : Int), .int .u64 (xa.e : Int)]) ∧ Below w.heap.size w w' from A5)
  have A6 := Lib.hid (show ∀ w, Calls Tryz.prog 38 #[(.agg #[.int .u64 (x.a : Int), .int .u64 (x.b : Int), .int .u64 (x.c : Int), .int .u64 (x.d : Int), .int .u64 (x.e : Int)]), (.agg #[.int .u64 (v7.a : Int), .int .u64 (v7.b : Int), .int .u64 (v7.c : Int), .int .u64 (v7.d : Int), .int .u64 (v7.e : Int)])] w fun e w' => e = .returned (.agg #[.int .u64 (xb.a : Int), .int .u64 (xb.b : Int), .int .u64 (xb.c : Int), .int .u64 (xb.d : Int), .int .u64 (xb.e : Int)]) ∧ Below w.heap.size w w' from A6)
  have A7 := Lib.hid (show ∀ w, Calls Tryz.prog 67 #[(.agg #[.int .u64 (xb.a : Int), .int .u64 (xb.b : Int), .int .u64 (xb.c : Int), .int .u64 (xb.d : Int), .int .u64 (xb.e : Int)]), .int .u8 253, .int .u8 15] w fun e w' => e = .returned (.agg #[.int .u64 (pw.a : Int), .int .u64 (pw.b : Int), .int .u64 (pw.c : Int), .int .u64 (pw.d : Int), .int .u64 (pw.e : Int)]) ∧ Below w.heap.size w w' from A7)
  have A8 := Lib.hid (show ∀ w, Calls Tryz.prog 38 #[(.agg #[.int .u64 (xa.a : Int), .int .u64 (xa.b : Int), .int .u64 (xa.c : Int), .int .u64 (xa.d : Int), .int .u64 (xa.e : Int)]), (.agg #[.int .u64 (pw.a : Int), .int .u64 (pw.b : Int), .int .u64 (pw.c : Int), .int .u64 (pw.d : Int), .int .u64 (pw.e : Int)])] w fun e w' => e = .returned (.agg #[.int .u64 (rn.a : Int), .int .u64 (rn.b : Int), .int .u64 (rn.c : Int), .int .u64 (rn.d : Int), .int .u64 (rn.e : Int)]) ∧ Below w.heap.size w w' from A8)
  have A9 := Lib.hid (show ∀ w, Calls Tryz.prog 58 #[(.agg #[.int .u64 (rn.a : Int), .int .u64 (rn.b : Int), .int .u64 (rn.c : Int), .int .u64 (rn.d : Int), .int .u64 (rn.e : Int)])] w fun e w' => e = .returned (.agg #[.int .u64 (s8.a : Int), .int .u64 (s8.b : Int), .int .u64 (s8.c : Int), .int .u64 (s8.d : Int), .int .u64 (s8.e : Int)]) ∧ Below w.heap.size w w' from A9)
  have A10 := Lib.hid (show ∀ w, Calls Tryz.prog 38 #[(.agg #[.int .u64 (s8.a : Int), .int .u64 (s8.b : Int), .int .u64 (s8.c : Int), .int .u64 (s8.d : Int), .int .u64 (s8.e : Int)]), (.agg #[.int .u64 (y.a : Int), .int .u64 (y.b : Int), .int .u64 (y.c : Int), .int .u64 (y.d : Int), .int .u64 (y.e : Int)])] w fun e w' => e = .returned (.agg #[.int .u64 (qg.a : Int), .int .u64 (qg.b : Int), .int .u64 (qg.c : Int), .int .u64 (qg.d : Int), .int .u64 (qg.e : Int)]) ∧ Below w.heap.size w w' from A10)
  have A11 := Lib.hid (show ∀ w, Calls Tryz.prog 31 #[(.agg #[.int .u64 (x.a : Int), .int .u64 (x.b : Int), .int .u64 (x.c : Int), .int .u64 (x.d : Int), .int .u64 (x.e : Int)])] w fun e w' => e = .returned (.agg #[.int .u64 (ngx.a : Int), .int .u64 (ngx.b : Int), .int .u64 (ngx.c : Int), .int .u64 (ngx.d : Int), .int .u64 (ngx.e : Int)]) ∧ Below w.heap.size w w' from A11)
  obtain ⟨b1, hb1⟩ : ∃ b, decide (q % pp = ng x.val % pp) = b := ⟨_, rfl⟩
  rw [hb1] at A12
  obtain ⟨b2, hb2⟩ : ∃ b, decide (q % pp = x.val % pp) = b := ⟨_, rfl⟩
  rw [hb2] at A14
  have HB1 := Lib.hid hb1
  have HB2 := Lib.hid hb2
  clear hb1 hb2
  have A12 := Lib.hid (show ∀ w, Calls Tryz.prog 37 #[(.agg #[.int .u64 (qg.a : Int), .int .u64 (qg.b : Int), .int .u64 (qg.c : Int), .int .u64 (qg.d : Int), .int .u64 (qg.e : Int)]), (.agg #[.int .u64 (ngx.a : Int), .int .u64 (ngx.b : Int), .int .u64 (ngx.c : Int), .int .u64 (ngx.d : Int), .int .u64 (ngx.e : Int)])] w fun e w' => e = .returned (.bool b1) ∧ Below w.heap.size w w' from A12)
  have A14 := Lib.hid (show ∀ w, Calls Tryz.prog 37 #[(.agg #[.int .u64 (qg.a : Int), .int .u64 (qg.b : Int), .int .u64 (qg.c : Int), .int .u64 (qg.d : Int), .int .u64 (qg.e : Int)]), (.agg #[.int .u64 (x.a : Int), .int .u64 (x.b : Int), .int .u64 (x.c : Int), .int .u64 (x.d : Int), .int .u64 (x.e : Int)])] w fun e w' => e = .returned (.bool b2) ∧ Below w.heap.size w w' from A14)
  have A13 := Lib.hid A13
  obtain ⟨B1, B2, B3, B4⟩ := box3 w x y
  have HT := Lib.hid (c5_below ht B4)
  have HW := Lib.hid (show RtW w x y (((w.alloc (.cells x.v 31)).alloc (.cells y.v 31)).alloc (.cells z5 31)) from ⟨B1, B2, B3, B4⟩)
  have hWl : w.heap.size + 1 + 1 < (((w.alloc (.cells x.v 31)).alloc (.cells y.v 31)).alloc (.cells z5 31)).heap.size := by simp
  clear B1 B2 B3 B4 ht
  go_enter Tryz.func59, Tryz.ntmps59
  go_upto_region 1 with fail
  change Code.wp _ _ _ _ (((w.alloc (.cells x.v 31)).alloc (.cells y.v 31)).alloc (.cells z5 31))
  generalize ((w.alloc (.cells x.v 31)).alloc (.cells y.v 31)).alloc (.cells z5 31) = W1 at *
  have SK := Lib.hid (show ∀ z : World, Below W1.heap.size W1 z → C5 z (w.heap.size + 1) y from fun z h => c5_of (Bl.below' HW.out.by' h))
  go_cut [6] (fun s wx => NewE (w.heap.size + 1 + 1) W1 v3 s wx)
  case first =>
    go_region_held3 (fun z => C5 z (w.heap.size + 1) y)
      (first | (refine SK.out _ ?_; first | (with_reducible exact Below.refl _ _) | (with_reducible exact (Below.refl _ _).drew) | (with_reducible exact ((Below.refl _ _).drew).alloc (Nat.le_refl _) _) | (with_reducible exact ((Below.refl _ _).alloc (Nat.le_refl _) _).drew) | (with_reducible exact K1) | (with_reducible exact K1.alloc K1.size _) | (with_reducible exact K2) | (with_reducible exact K2.alloc K2.size _) | ((iterate 5 (refine Below.setCell ?_ (by first | exact Nat.le_refl _ | exact K1.size | exact K2.size) _)); with_reducible exact K2)))
      (first | (go_at_call 58; (with_reducible refine (Hid.out A1 _).mono ?_); rintro e w1 ⟨rfl, hb1⟩; (first | (with_reducible (have K1 := k_alloc_drew hb1)) | (with_reducible (have K1 := k_drew_alloc hb1)) | (with_reducible (have K1 := k_drew hb1))); (try (first | (with_reducible (have m1 := m_alloc_drew hb1)) | (with_reducible (have m1 := m_drew_alloc hb1))))) | (go_at_call 38; (with_reducible refine (Hid.out A2 _).mono ?_); rintro e w2 ⟨rfl, hb2⟩; (first | (with_reducible (have K2 := K1.trans (hb2.mono K1.size))) | (with_reducible (have K2 := K1.trans ((k_alloc' hb2).mono K1.size)))); (first | (with_reducible (have m2 := m_alloc' hb2)) | (with_reducible (have m2 := m1.below' hb2)) | skip); (try (have z0 := (cells5 m2).1.1)); (try (have z1 := (cells5 m2).1.2.1)); (try (have z2 := (cells5 m2).1.2.2.1)); (try (have z3 := (cells5 m2).1.2.2.2.1)); (try (have z4 := (cells5 m2).1.2.2.2.2)); (try (have f0 := (cells5 m2).2.1)); (try (have f1 := (cells5 m2).2.2.1)); (try (have f2 := (cells5 m2).2.2.2.1)); (try (have f3 := (cells5 m2).2.2.2.2.1)); (try (have f4 := (cells5 m2).2.2.2.2.2))))
    all_goals go_wp2_with fail
    all_goals go_meet
    all_goals trace "WAY"
    · (exact ⟨_, rfl, Bl.new_ w2 _ v3.v, by have := K2.size; omega, K2.alloc K2.size _⟩)
    · (exact ⟨_, rfl, set5_bl m2 rfl _ _ _ _ _, by have := K1.size; omega, set5_below K2 K1.size _ _ _ _ _⟩)
    · (exact ⟨_, rfl, set5_bl m2 rfl _ _ _ _ _, by omega, set5_below K2 (Nat.le_refl _) _ _ _ _ _⟩)
  case rest =>
    obtain ⟨g6, rfl, hbl, hg6, hbw⟩ := hcut
    have HE6 := Lib.hid hbl
    have HW1 := Lib.hid (HW.out.below hbw)
    have HT1 := Lib.hid (c5_below HT.out hbw)
    have hWl1 : w.heap.size + 1 + 1 < wc.heap.size := HW1.out.bz.lt
    clear hbl hbw SK HW HT hWl
    obtain ⟨W2, rfl⟩ : ∃ W, W = wc := ⟨_, rfl⟩
    go_upto_region 2 with fail
    have SK := Lib.hid (show ∀ z : World, Below W2.heap.size W2 z → C5 z (w.heap.size + 1) y ∧ C5 z (g6) v3 from fun z h => ⟨c5_of (Bl.below' HW1.out.by' h), c5_of (Bl.below' HE6.out h)⟩)
    go_cut [7] (fun s wx => NewE (w.heap.size + 1 + 1) W2 v7 s wx)
    case first =>
      go_region_held3 (fun z => C5 z (w.heap.size + 1) y ∧ C5 z (g6) v3)
        (first | (refine SK.out _ ?_; first | (with_reducible exact Below.refl _ _) | (with_reducible exact (Below.refl _ _).drew) | (with_reducible exact ((Below.refl _ _).drew).alloc (Nat.le_refl _) _) | (with_reducible exact ((Below.refl _ _).alloc (Nat.le_refl _) _).drew) | (with_reducible exact K1) | (with_reducible exact K1.alloc K1.size _) | (with_reducible exact K2) | (with_reducible exact K2.alloc K2.size _) | ((iterate 5 (refine Below.setCell ?_ (by first | exact Nat.le_refl _ | exact K1.size | exact K2.size) _)); with_reducible exact K2)))
        (first | (go_at_call 58; (with_reducible refine (Hid.out A3 _).mono ?_); rintro e w1 ⟨rfl, hb1⟩; (first | (with_reducible (have K1 := k_alloc_drew hb1)) | (with_reducible (have K1 := k_drew_alloc hb1)) | (with_reducible (have K1 := k_drew hb1))); (try (first | (with_reducible (have m1 := m_alloc_drew hb1)) | (with_reducible (have m1 := m_drew_alloc hb1))))) | (go_at_call 38; (with_reducible refine (Hid.out A4 _).mono ?_); rintro e w2 ⟨rfl, hb2⟩; (first | (with_reducible (have K2 := K1.trans (hb2.mono K1.size))) | (with_reducible (have K2 := K1.trans ((k_alloc' hb2).mono K1.size)))); (first | (with_reducible (have m2 := m_alloc' hb2)) | (with_reducible (have m2 := m1.below' hb2)) | skip); (try (have z0 := (cells5 m2).1.1)); (try (have z1 := (cells5 m2).1.2.1)); (try (have z2 := (cells5 m2).1.2.2.1)); (try (have z3 := (cells5 m2).1.2.2.2.1)); (try (have z4 := (cells5 m2).1.2.2.2.2)); (try (have f0 := (cells5 m2).2.1)); (try (have f1 := (cells5 m2).2.2.1)); (try (have f2 := (cells5 m2).2.2.2.1)); (try (have f3 := (cells5 m2).2.2.2.2.1)); (try (have f4 := (cells5 m2).2.2.2.2.2))))
      all_goals go_wp2_with fail
      all_goals go_meet
      all_goals trace "WAY"
      · (exact ⟨_, rfl, Bl.new_ w2 _ v7.v, by have := K2.size; omega, K2.alloc K2.size _⟩)
      · (exact ⟨_, rfl, set5_bl m2 rfl _ _ _ _ _, by have := K1.size; omega, set5_below K2 K1.size _ _ _ _ _⟩)
      · (exact ⟨_, rfl, set5_bl m2 rfl _ _ _ _ _, by omega, set5_below K2 (Nat.le_refl _) _ _ _ _ _⟩)
    case rest =>
      obtain ⟨g7, rfl, hbl, hg7, hbw⟩ := hcut
      have HE7 := Lib.hid hbl
      have HE6b := Lib.hid (HE6.out.below' hbw)
      have HW2 := Lib.hid (HW1.out.below hbw)
      have HT2 := Lib.hid (c5_below HT1.out hbw)
      have hWl2 : w.heap.size + 1 + 1 < wc.heap.size := HW2.out.bz.lt
      clear hbl hbw SK HW1 HT1 hWl1 HE6
      obtain ⟨W3, rfl⟩ : ∃ W, W = wc := ⟨_, rfl⟩
      go_upto_region 3 with fail
      have SK := Lib.hid (show ∀ z : World, Below W3.heap.size W3 z → C5 z (w.heap.size) x ∧ C5 z (g6) v3 ∧ C5 z (g7) v7 from fun z h => ⟨c5_of (Bl.below' HW2.out.bx h), c5_of (Bl.below' HE6b.out h), c5_of (Bl.below' HE7.out h)⟩)
      go_cut [8] (fun s wx => NewE (w.heap.size + 1 + 1) W3 rn s wx)
      case first =>
        go_region_held3 (fun z => C5 z (w.heap.size) x ∧ C5 z (g6) v3 ∧ C5 z (g7) v7)
          (first | (refine SK.out _ ?_; first | (with_reducible exact Below.refl _ _) | (with_reducible exact (Below.refl _ _).drew) | (with_reducible exact ((Below.refl _ _).drew).alloc (Nat.le_refl _) _) | (with_reducible exact ((Below.refl _ _).alloc (Nat.le_refl _) _).drew) | (with_reducible exact K1) | (with_reducible exact K1.alloc K1.size _) | (with_reducible exact K2) | (with_reducible exact K2.alloc K2.size _) | (with_reducible exact K3) | (with_reducible exact K3.alloc K3.size _) | (with_reducible exact K4) | (with_reducible exact K4.alloc K4.size _) | ((iterate 5 (refine Below.setCell ?_ (by first | exact Nat.le_refl _ | exact K1.size | exact K2.size | exact K3.size | exact K4.size) _)); with_reducible exact K4)))
          (first | (go_at_call 38; (with_reducible refine (Hid.out A5 _).mono ?_); rintro e w1 ⟨rfl, hb1⟩; (first | (with_reducible (have K1 := k_alloc_drew hb1)) | (with_reducible (have K1 := k_drew_alloc hb1)) | (with_reducible (have K1 := k_drew hb1))); (try (first | (with_reducible (have m1 := m_alloc_drew hb1)) | (with_reducible (have m1 := m_drew_alloc hb1))))) | (go_at_call 38; (with_reducible refine (Hid.out A6 _).mono ?_); rintro e w2 ⟨rfl, hb2⟩; (first | (with_reducible (have K2 := K1.trans (hb2.mono K1.size))) | (with_reducible (have K2 := K1.trans ((k_alloc' hb2).mono K1.size)))); (first | (with_reducible (have m2 := m_alloc' hb2)) | (with_reducible (have m2 := m1.below' hb2)) | skip)) | (go_at_call 67; (with_reducible refine (Hid.out A7 _).mono ?_); rintro e w3 ⟨rfl, hb3⟩; (first | (with_reducible (have K3 := K2.trans (hb3.mono K2.size))) | (with_reducible (have K3 := K2.trans ((k_alloc' hb3).mono K2.size)))); (first | (with_reducible (have m3 := m_alloc' hb3)) | (with_reducible (have m3 := m2.below' hb3)) | skip)) | (go_at_call 38; (with_reducible refine (Hid.out A8 _).mono ?_); rintro e w4 ⟨rfl, hb4⟩; (first | (with_reducible (have K4 := K3.trans (hb4.mono K3.size))) | (with_reducible (have K4 := K3.trans ((k_alloc' hb4).mono K3.size)))); (first | (with_reducible (have m4 := m_alloc' hb4)) | (with_reducible (have m4 := m3.below' hb4)) | skip); (try (have z0 := (cells5 m4).1.1)); (try (have z1 := (cells5 m4).1.2.1)); (try (have z2 := (cells5 m4).1.2.2.1)); (try (have z3 := (cells5 m4).1.2.2.2.1)); (try (have z4 := (cells5 m4).1.2.2.2.2)); (try (have f0 := (cells5 m4).2.1)); (try (have f1 := (cells5 m4).2.2.1)); (try (have f2 := (cells5 m4).2.2.2.1)); (try (have f3 := (cells5 m4).2.2.2.2.1)); (try (have f4 := (cells5 m4).2.2.2.2.2))))
        all_goals go_wp2_with fail
        all_goals go_meet
        all_goals trace "WAY"
        · (exact ⟨_, rfl, Bl.new_ w4 _ rn.v, by have := K4.size; omega, K4.alloc K4.size _⟩)
        · (exact ⟨_, rfl, set5_bl m4 rfl _ _ _ _ _, by have := K3.size; omega, set5_below K4 K3.size _ _ _ _ _⟩)
        · (exact ⟨_, rfl, set5_bl m4 rfl _ _ _ _ _, by have := K2.size; omega, set5_below K4 K2.size _ _ _ _ _⟩)
        · (exact ⟨_, rfl, set5_bl m4 rfl _ _ _ _ _, by have := K1.size; omega, set5_below K4 K1.size _ _ _ _ _⟩)
        · (exact ⟨_, rfl, set5_bl m4 rfl _ _ _ _ _, by omega, set5_below K4 (Nat.le_refl _) _ _ _ _ _⟩)
      case rest =>
        obtain ⟨g8, rfl, hbl, hg8, hbw⟩ := hcut
        have HE8 := Lib.hid hbl
        have HW3 := Lib.hid (HW2.out.below hbw)
        have HT3 := Lib.hid (c5_below HT2.out hbw)
        have hWl3 : w.heap.size + 1 + 1 < wc.heap.size := HW3.out.bz.lt
        clear hbl hbw SK HW2 HT2 hWl2 HE6b HE7
        obtain ⟨W4, rfl⟩ : ∃ W, W = wc := ⟨_, rfl⟩
        go_upto_region 4 with fail
        have SK := Lib.hid (show ∀ z : World, Below W4.heap.size W4 z → C5 z (w.heap.size + 1) y ∧ C5 z (g8) rn from fun z h => ⟨c5_of (Bl.below' HW3.out.by' h), c5_of (Bl.below' HE8.out h)⟩)
        go_cut [9] (fun s wx => NewE (w.heap.size + 1 + 1) W4 qg s wx)
        case first =>
          go_region_held3 (fun z => C5 z (w.heap.size + 1) y ∧ C5 z (g8) rn)
            (first | (refine SK.out _ ?_; first | (with_reducible exact Below.refl _ _) | (with_reducible exact (Below.refl _ _).drew) | (with_reducible exact ((Below.refl _ _).drew).alloc (Nat.le_refl _) _) | (with_reducible exact ((Below.refl _ _).alloc (Nat.le_refl _) _).drew) | (with_reducible exact K1) | (with_reducible exact K1.alloc K1.size _) | (with_reducible exact K2) | (with_reducible exact K2.alloc K2.size _) | ((iterate 5 (refine Below.setCell ?_ (by first | exact Nat.le_refl _ | exact K1.size | exact K2.size) _)); with_reducible exact K2)))
            (first | (go_at_call 58; (with_reducible refine (Hid.out A9 _).mono ?_); rintro e w1 ⟨rfl, hb1⟩; (first | (with_reducible (have K1 := k_alloc_drew hb1)) | (with_reducible (have K1 := k_drew_alloc hb1)) | (with_reducible (have K1 := k_drew hb1))); (try (first | (with_reducible (have m1 := m_alloc_drew hb1)) | (with_reducible (have m1 := m_drew_alloc hb1))))) | (go_at_call 38; (with_reducible refine (Hid.out A10 _).mono ?_); rintro e w2 ⟨rfl, hb2⟩; (first | (with_reducible (have K2 := K1.trans (hb2.mono K1.size))) | (with_reducible (have K2 := K1.trans ((k_alloc' hb2).mono K1.size)))); (first | (with_reducible (have m2 := m_alloc' hb2)) | (with_reducible (have m2 := m1.below' hb2)) | skip); (try (have z0 := (cells5 m2).1.1)); (try (have z1 := (cells5 m2).1.2.1)); (try (have z2 := (cells5 m2).1.2.2.1)); (try (have z3 := (cells5 m2).1.2.2.2.1)); (try (have z4 := (cells5 m2).1.2.2.2.2)); (try (have f0 := (cells5 m2).2.1)); (try (have f1 := (cells5 m2).2.2.1)); (try (have f2 := (cells5 m2).2.2.2.1)); (try (have f3 := (cells5 m2).2.2.2.2.1)); (try (have f4 := (cells5 m2).2.2.2.2.2))))
          all_goals go_wp2_with fail
          all_goals go_meet
          all_goals trace "WAY"
          · (exact ⟨_, rfl, Bl.new_ w2 _ qg.v, by have := K2.size; omega, K2.alloc K2.size _⟩)
          · (exact ⟨_, rfl, set5_bl m2 rfl _ _ _ _ _, by have := K1.size; omega, set5_below K2 K1.size _ _ _ _ _⟩)
          · (exact ⟨_, rfl, set5_bl m2 rfl _ _ _ _ _, by omega, set5_below K2 (Nat.le_refl _) _ _ _ _ _⟩)
        case rest =>
          obtain ⟨g9, rfl, hbl, hg9, hbw⟩ := hcut
          have HE9 := Lib.hid hbl
          have HE8b := Lib.hid (HE8.out.below' hbw)
          have HW4 := Lib.hid (HW3.out.below hbw)
          have HT4 := Lib.hid (c5_below HT3.out hbw)
          have hWl4 : w.heap.size + 1 + 1 < wc.heap.size := HW4.out.bz.lt
          clear hbl hbw SK HW3 HT3 hWl3 HE8
          obtain ⟨W5, rfl⟩ : ∃ W, W = wc := ⟨_, rfl⟩
          go_upto_region 5 with fail
          have SK := Lib.hid (show ∀ z : World, Below W5.heap.size W5 z → C5 z g9 qg ∧ C5 z (w.heap.size) x from fun z h => ⟨c5_of (HE9.out.below' h), c5_of (HW4.out.bx.below' h)⟩)
          go_region_held3 (fun z => C5 z g9 qg ∧ C5 z (w.heap.size) x)
            (first | (refine SK.out _ ?_; first | (with_reducible exact Below.refl _ _) | (with_reducible exact (Below.refl _ _).drew) | (with_reducible exact K1) | (with_reducible exact K2)))
            (first | (go_at_call 31; (with_reducible refine (A11.out _).mono ?_); rintro e w1 ⟨rfl, hb1⟩; have K1 := k_drew hb1) | (go_at_call 37; (with_reducible refine (A12.out _).mono ?_); rintro e w2 ⟨rfl, hb2⟩; have K2 := K1.trans (hb2.mono K1.size)))
          all_goals
            rename_i hHeld
            clear hHeld SK
            have HE9c := Lib.hid (HE9.out.below' K2)
            have HE8c := Lib.hid (HE8b.out.below' K2)
            have HW5 := Lib.hid (HW4.out.below K2)
            have HT5 := Lib.hid (c5_below HT4.out K2)
            clear K1 K2 hb1 hb2 HW4 HE9 HE8b HT4
            obtain ⟨im5, hi5⟩ : ∃ e, el im = e := ⟨_, rfl⟩
            rw [hi5] at HT5
            obtain ⟨rm, hrm⟩ : ∃ r, el (n * im % pp) = r := ⟨_, rfl⟩
            have A13 := A13.out
            simp only [hi5, hrm] at A13
            have A13 := Lib.hid (show ∀ w, Calls Tryz.prog 38 #[(.agg #[.int .u64 (rn.a : Int), .int .u64 (rn.b : Int), .int .u64 (rn.c : Int), .int .u64 (rn.d : Int), .int .u64 (rn.e : Int)]), (.agg #[.int .u64 (im5.a : Int), .int .u64 (im5.b : Int), .int .u64 (im5.c : Int), .int .u64 (im5.d : Int), .int .u64 (im5.e : Int)])] w fun e w' => e = .returned (.agg #[.int .u64 (rm.a : Int), .int .u64 (rm.b : Int), .int .u64 (rm.c : Int), .int .u64 (rm.d : Int), .int .u64 (rm.e : Int)]) ∧ Below w.heap.size w w' from A13)
            clear hi5
            cases b1
            · have hq1 : ¬ q = ng x.val := by
                have h := HB1.out
                rw [Nat.mod_eq_of_lt HQL.out, Nat.mod_eq_of_lt (ng_lt _)] at h
                exact of_decide_eq_false h
              obtain ⟨a0, a1, a2, a3, a4⟩ := c5_of HE9c.out
              obtain ⟨d0, d1, d2, d3, d4⟩ := c5_of HW5.out.bx
              have HQ1 := Lib.hid hq1
              clear hq1
              go_wp2_with fail
              refine (A14.out _).mono ?_
              rintro e x0 ⟨rfl, hb⟩
              have HE8d := Lib.hid (HE8c.out.below' hb)
              have HW6 := Lib.hid (HW5.out.below hb)
              clear hb a0 a1 a2 a3 a4 d0 d1 d2 d3 d4
              cases b2
              · have hq2 : ¬ q = x.val % pp := by
                  have h := HB2.out
                  rw [Nat.mod_eq_of_lt HQL.out] at h
                  exact of_decide_eq_false h
                have HQ2 := Lib.hid hq2
                obtain ⟨⟨z0, z1, z2, z3, z4⟩, k0, k1, k2, k3, k4⟩ := cells5 HW6.out.bz
                clear hq2
                go_wp2_with fail
                refine bodyPost_ret (v := .tuple #[.agg z5, .bool false]) ?_ rfl ⟨?_, set5_below HW6.out.bw (by omega) _ _ _ _ _⟩
                · exact results_cell_tmp Tryz.results59 _ _ _ _ _ _ rfl rfl (loadE ⟨0, 0, 0, 0, 0⟩ (set5_bl HW6.out.bz rfl _ _ _ _ _))
                · unfold RootQ
                  rw [LR.out, if_neg HQ1.out, if_neg HQ2.out]
              · have hq2 : q = x.val % pp := by
                  have h := HB2.out
                  rw [Nat.mod_eq_of_lt HQL.out] at h
                  exact of_decide_eq_true h
                have HQ2 := Lib.hid hq2
                clear hq2
                have AO := Lib.hid (show ∀ w, Calls Tryz.prog 32 #[(.agg #[.int .u64 (rn.a : Int), .int .u64 (rn.b : Int), .int .u64 (rn.c : Int), .int .u64 (rn.d : Int), .int .u64 (rn.e : Int)])] w fun e w' => e = .returned (.bool (decide (n % 2 = 1))) ∧ Below w.heap.size w w' from fun w => by
                  have h := Odd_any rn w (by rw [← HN.out]; exact el_ok HNL.out)
                  rw [← HN.out, el_val, Nat.mod_eq_of_lt HNL.out] at h
                  rw [← HN.out]; exact h)
                by_cases ho : n % 2 = 1
                · obtain ⟨rk, hrk⟩ : ∃ r, el (ng n) = r := ⟨_, rfl⟩
                  have AN := Lib.hid (show ∀ w, Calls Tryz.prog 31 #[(.agg #[.int .u64 (rn.a : Int), .int .u64 (rn.b : Int), .int .u64 (rn.c : Int), .int .u64 (rn.d : Int), .int .u64 (rn.e : Int)])] w fun e w' => e = .returned (.agg #[.int .u64 (rk.a : Int), .int .u64 (rk.b : Int), .int .u64 (rk.c : Int), .int .u64 (rk.d : Int), .int .u64 (rk.e : Int)]) ∧ Below w.heap.size w w' from fun w => by
                    have h := Neg_any rn w (by rw [← HN.out]; exact el_ok HNL.out)
                    rw [← HN.out, el_val, hrk] at h
                    rw [← HN.out]; exact h)
                  have HO := Lib.hid ho
                  have HRK := Lib.hid hrk
                  rw [decide_eq_true ho] at AO
                  obtain ⟨a0, a1, a2, a3, a4⟩ := c5_of HE8d.out
                  clear ho hrk
                  go_wp2_with fail
                  refine (AO.out _).mono ?_
                  rintro e x1 ⟨rfl, hb⟩
                  have HE1 := Lib.hid (HE8d.out.below' hb)
                  have HW1 := Lib.hid (HW6.out.below hb)
                  obtain ⟨a0, a1, a2, a3, a4⟩ := c5_of HE1.out
                  clear hb
                  go_wp2_with fail
                  refine (AN.out _).mono ?_
                  rintro e x2 ⟨rfl, hb⟩
                  have HE2 := Lib.hid (HE1.out.below' hb)
                  have HW2 := Lib.hid (HW1.out.below hb)
                  obtain ⟨⟨a0, a1, a2, a3, a4⟩, f0, f1, f2, f3, f4⟩ := cells5 HE2.out
                  obtain ⟨⟨z0, z1, z2, z3, z4⟩, k0, k1, k2, k3, k4⟩ := cells5 HW2.out.bz
                  have hne : ¬ (g8 = w.heap.size + 1 + 1) := by omega
                  have hne' : ¬ (w.heap.size + 1 + 1 = g8) := by omega
                  clear hb
                  go_wp2_with fail
                  refine bodyPost_ret (v := .tuple #[.agg rk.v, .bool true]) ?_ rfl ⟨?_, set5_below (set5_below HW2.out.bw (by omega) _ _ _ _ _) (by omega) _ _ _ _ _⟩
                  · exact results_cell_tmp Tryz.results59 _ _ _ _ _ _ rfl rfl (loadE rk (set5_bl (Fd.Bl.others5 (o := 0) HW2.out.bz (by omega)) rfl _ _ _ _ _))
                  · unfold RootQ
                    rw [LR.out, if_neg HQ1.out, if_pos HQ2.out]
                    show Ending.returned _ = Ending.returned (.tuple #[.agg (el (ev (n))).v, .bool true])
                    rw [show ev (n) = ng (n) from if_pos HO.out, HRK.out]
                · have HO := Lib.hid ho
                  rw [decide_eq_false ho] at AO
                  obtain ⟨a0, a1, a2, a3, a4⟩ := c5_of HE8d.out
                  clear ho
                  go_wp2_with fail
                  refine (AO.out _).mono ?_
                  rintro e x1 ⟨rfl, hb⟩
                  have HE1 := Lib.hid (HE8d.out.below' hb)
                  have HW1 := Lib.hid (HW6.out.below hb)
                  obtain ⟨a0, a1, a2, a3, a4⟩ := c5_of HE1.out
                  obtain ⟨⟨z0, z1, z2, z3, z4⟩, k0, k1, k2, k3, k4⟩ := cells5 HW1.out.bz
                  clear hb
                  go_wp2_with fail
                  refine bodyPost_ret (v := .tuple #[.agg rn.v, .bool true]) ?_ rfl ⟨?_, set5_below HW1.out.bw (by omega) _ _ _ _ _⟩
                  · exact results_cell_tmp Tryz.results59 _ _ _ _ _ _ rfl rfl (loadE rn (set5_bl HW1.out.bz rfl _ _ _ _ _))
                  · unfold RootQ
                    rw [LR.out, if_neg HQ1.out, if_pos HQ2.out]
                    show Ending.returned _ = Ending.returned (.tuple #[.agg (el (ev (n))).v, .bool true])
                    rw [show ev (n) = n from if_neg HO.out, HN.out]
            · have hq1 : q = ng x.val := by
                have h := HB1.out
                rw [Nat.mod_eq_of_lt HQL.out, Nat.mod_eq_of_lt (ng_lt _)] at h
                exact of_decide_eq_true h
              have HQ1 := Lib.hid hq1
              have HRM := Lib.hid hrm
              obtain ⟨a0, a1, a2, a3, a4⟩ := c5_of HE8c.out
              obtain ⟨d0, d1, d2, d3, d4⟩ := HT5.out
              clear hq1 hrm
              go_wp2_with fail
              refine (A13.out _).mono ?_
              rintro e x0 ⟨rfl, hb⟩
              obtain ⟨⟨a0, a1, a2, a3, a4⟩, f0, f1, f2, f3, f4⟩ := cells5 (HE8c.out.below' hb)
              have HE8d := Lib.hid (set5_bl (HE8c.out.below' hb) rfl (.int .u64 (rm.a : Int)) (.int .u64 (rm.b : Int)) (.int .u64 (rm.c : Int)) (.int .u64 (rm.d : Int)) (.int .u64 (rm.e : Int)))
              have HE8d := Lib.hid (show Bl _ g8 31 rm.v from HE8d.out)
              have HW6 := Lib.hid ((HW5.out.below hb).others5 hg8 (.int .u64 (rm.a : Int)) (.int .u64 (rm.b : Int)) (.int .u64 (rm.c : Int)) (.int .u64 (rm.d : Int)) (.int .u64 (rm.e : Int)))
              clear hb
              have AO := Lib.hid (show ∀ w, Calls Tryz.prog 32 #[(.agg #[.int .u64 (rm.a : Int), .int .u64 (rm.b : Int), .int .u64 (rm.c : Int), .int .u64 (rm.d : Int), .int .u64 (rm.e : Int)])] w fun e w' => e = .returned (.bool (decide ((n * im % pp) % 2 = 1))) ∧ Below w.heap.size w w' from fun w => by
                have h := Odd_any rm w (by rw [← HRM.out]; exact el_ok (mod_lt _))
                rw [← HRM.out, el_val, Nat.mod_eq_of_lt (mod_lt _)] at h
                rw [← HRM.out]; exact h)
              by_cases ho : (n * im % pp) % 2 = 1
              · obtain ⟨rk, hrk⟩ : ∃ r, el (ng (n * im % pp)) = r := ⟨_, rfl⟩
                have AN := Lib.hid (show ∀ w, Calls Tryz.prog 31 #[(.agg #[.int .u64 (rm.a : Int), .int .u64 (rm.b : Int), .int .u64 (rm.c : Int), .int .u64 (rm.d : Int), .int .u64 (rm.e : Int)])] w fun e w' => e = .returned (.agg #[.int .u64 (rk.a : Int), .int .u64 (rk.b : Int), .int .u64 (rk.c : Int), .int .u64 (rk.d : Int), .int .u64 (rk.e : Int)]) ∧ Below w.heap.size w w' from fun w => by
                  have h := Neg_any rm w (by rw [← HRM.out]; exact el_ok (mod_lt _))
                  rw [← HRM.out, el_val, hrk] at h
                  rw [← HRM.out]; exact h)
                have HO := Lib.hid ho
                have HRK := Lib.hid hrk
                rw [decide_eq_true ho] at AO
                obtain ⟨a0, a1, a2, a3, a4⟩ := c5_of HE8d.out
                clear ho hrk
                go_wp2_with fail
                refine (AO.out _).mono ?_
                rintro e x1 ⟨rfl, hb⟩
                have HE1 := Lib.hid (HE8d.out.below' hb)
                have HW1 := Lib.hid (HW6.out.below hb)
                obtain ⟨a0, a1, a2, a3, a4⟩ := c5_of HE1.out
                clear hb
                go_wp2_with fail
                refine (AN.out _).mono ?_
                rintro e x2 ⟨rfl, hb⟩
                have HE2 := Lib.hid (HE1.out.below' hb)
                have HW2 := Lib.hid (HW1.out.below hb)
                obtain ⟨⟨a0, a1, a2, a3, a4⟩, f0, f1, f2, f3, f4⟩ := cells5 HE2.out
                obtain ⟨⟨z0, z1, z2, z3, z4⟩, k0, k1, k2, k3, k4⟩ := cells5 HW2.out.bz
                have hne : ¬ (g8 = w.heap.size + 1 + 1) := by omega
                have hne' : ¬ (w.heap.size + 1 + 1 = g8) := by omega
                clear hb
                go_wp2_with fail
                refine bodyPost_ret (v := .tuple #[.agg rk.v, .bool true]) ?_ rfl ⟨?_, set5_below (set5_below HW2.out.bw (by omega) _ _ _ _ _) (by omega) _ _ _ _ _⟩
                · exact results_cell_tmp Tryz.results59 _ _ _ _ _ _ rfl rfl (loadE rk (set5_bl (Fd.Bl.others5 (o := 0) HW2.out.bz (by omega)) rfl _ _ _ _ _))
                · unfold RootQ
                  rw [LR.out, if_pos HQ1.out]
                  show Ending.returned _ = Ending.returned (.tuple #[.agg (el (ev ((n * im % pp)))).v, .bool true])
                  rw [show ev ((n * im % pp)) = ng ((n * im % pp)) from if_pos HO.out, HRK.out]
              · have HO := Lib.hid ho
                rw [decide_eq_false ho] at AO
                obtain ⟨a0, a1, a2, a3, a4⟩ := c5_of HE8d.out
                clear ho
                go_wp2_with fail
                refine (AO.out _).mono ?_
                rintro e x1 ⟨rfl, hb⟩
                have HE1 := Lib.hid (HE8d.out.below' hb)
                have HW1 := Lib.hid (HW6.out.below hb)
                obtain ⟨a0, a1, a2, a3, a4⟩ := c5_of HE1.out
                obtain ⟨⟨z0, z1, z2, z3, z4⟩, k0, k1, k2, k3, k4⟩ := cells5 HW1.out.bz
                clear hb
                go_wp2_with fail
                refine bodyPost_ret (v := .tuple #[.agg rm.v, .bool true]) ?_ rfl ⟨?_, set5_below HW1.out.bw (by omega) _ _ _ _ _⟩
                · exact results_cell_tmp Tryz.results59 _ _ _ _ _ _ rfl rfl (loadE rm (set5_bl HW1.out.bz rfl _ _ _ _ _))
                · unfold RootQ
                  rw [LR.out, if_pos HQ1.out]
                  show Ending.returned _ = Ending.returned (.tuple #[.agg (el (ev ((n * im % pp)))).v, .bool true])
                  rw [show ev ((n * im % pp)) = (n * im % pp) from if_neg HO.out, HRM.out]
theorem Root_any(x y:E5)(w:World)(hx:x.ok)(hy:y.ok)(ht:C5 w 4 (el im)) :
  Calls Tryz.prog 59 #[.agg x.v,.agg y.v] w fun e w'=>RootQ (rt x.val y.val) e∧Below w.heap.size w w':=by
 have A8:=rt_a8 (x.val*(y.val ^ 3%pp)) ((x.val*(y.val ^ 7%pp)%pp) ^ e8)
 rw[first_r] at A8
 have A9:=fun w=>Square_any (el (x.val*y.val ^ 3*(x.val*y.val ^ 7) ^ e8%pp)) w (el_ok (mod_lt _))
 rw[el_val] at A9
 have A12:=fun w=>Same_any (el (x.val*y.val ^ 3*(x.val*y.val ^ 7) ^ e8%pp*(x.val*y.val ^ 3*(x.val*y.val ^ 7) ^ e8%pp)*y.val%pp)) (el (ng x.val)) w (el_ok (mod_lt _)) (el_ok (ng_lt _))
 rw[el_val,el_val] at A12
 have A13:=fun w=>Mul_any (el (x.val*y.val ^ 3*(x.val*y.val ^ 7) ^ e8%pp)) (el im) w (el_ok (mod_lt _)) (el_ok im_lt)
 rw[el_val,el_val] at A13
 have A14:=fun w=>Same_any (el (x.val*y.val ^ 3*(x.val*y.val ^ 7) ^ e8%pp*(x.val*y.val ^ 3*(x.val*y.val ^ 7) ^ e8%pp)*y.val%pp)) x w (el_ok (mod_lt _)) hx
 rw[el_val] at A14
 exact Root_walk x y _ _ _ _ _ _ _ _ _ _ _ _ _ _ w ht (root_lr x.val y.val _ _ rfl rfl) rfl (mod_lt _) (mod_lt _) (rt_a1 y hy) (rt_a2 y hy) (rt_a3 y.val) (rt_a4 y hy) (rt_a5 x (y.val ^ 3) hx) (rt_a5 x (y.val ^ 7) hx) (rt_a7 _) A8 A9 (rt_a10 _ y hy) (fun w=>Neg_any x w hx) A12 A13 A14
end Go.Proofs.YtoibhnpmemnlfaaGreatDoor.Fd
namespace Go.Proofs.YtoibhnpmemnlfaaGreatDoor.Fd
open Go.RowKit Go.Proofs.YtoibhnpmemnlfaaGreatDoor.Gn Go.Deep Go.Proofs.YtoibhnpmemnlfaaGreatDoor
def Tab(w:World):Prop:=C5 w 4 (el im)
theorem Tab.below{w w':World}(h:Tab w)(hb:Below w.heap.size w w'):Tab w':=c5_below h hb
theorem gIm : Tryz.prog.globalNamed "imprimatur/field.rootOfLess1" = some 4 := by kernel_rfl
theorem tIm:(Tryz.prog.globals[4]?).map (·.type)=some 31:=by kernel_rfl
theorem c64:Tryz.prog.cellsOf 29=1:=by kernel_rfl
theorem c5:Tryz.prog.cellsOf 31=5:=by kernel_rfl
def ints(l:List Nat):List Int:=l.map fun(x:Nat)=>(x:Int)
theorem laid_im:(Rows.laid_imprimatur_field_rootOfLess1:DataW Unit)=Lib.tabData .u64 (ints (el im).l):=by kernel_rfl
theorem laid_or:(Rows.laid_imprimatur_field_order:DataW Unit)=Lib.tabData .u64 (ints [6346243789798364141,1503914060200516822,0,1152921504606846976]):=by kernel_rfl
end Go.Proofs.YtoibhnpmemnlfaaGreatDoor.Fd
