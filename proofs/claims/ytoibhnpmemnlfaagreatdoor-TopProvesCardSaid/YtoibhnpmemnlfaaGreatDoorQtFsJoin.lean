/- Joined texts. -/
import Derived.Stop.LaidErr
import Derived.Deep.Cut
import Derived.Deep.RegionWith
import Derived.Test.YtoibhnpmemnlfaaGreatDoorQtFsMath
import Derived.Test.YtoibhnpmemnlfaaGreatDoorQtFaE
import Derived.Test.YtoibhnpmemnlfaaGreatDoorQtRaA
set_option linter.unusedVariables false
namespace Go.Proofs.YtoibhnpmemnlfaaGreatDoor.Fd
open Go.RowKit Go.Proofs.YtoibhnpmemnlfaaGreatDoor.Gn Go.Deep Go.Shelf
def ren26:Go.Shelf.Ren:=⟨fun|26=>86|n=>n,fun|22=>29|n=>n,fun n=>n⟩
theorem lays26:Lays7.n26 Tryz.prog ren26:={
 mixed:=by kernel_rfl
 f26:=Tryz.func86.trans (congrArg some (by kernel_rfl))
 t22:=Tryz.underlying29
 a22:=Tryz.isAgg29
 z22:=Tryz.sizeOf29
 v22:=Tryz.zeroValue29
 i22:=by kernel_rfl }
theorem sub64_c(x y b s d:Nat)(hx:x < 18446744073709551616)(hy:y < 18446744073709551616)(hb:b≤1)(hs:s < 18446744073709551616)(hd:s+y+b=x+18446744073709551616*d)(hd1:d≤1)(w:World) :
  (callFunc 86 #[.int .u64 x,.int .u64 y,.int .u64 b]).run Tryz.prog w=.ok (.value (.tuple #[.int .u64 (s:Int),.int .u64 (d:Int)])) w:=by
 have h:=Any7.bits_Sub64 lays26 x y b hb w
 have e1:(x+18446744073709551616 - y - b)%18446744073709551616=s:=by omega
 have e2:(if x < y+b then 1 else 0:Nat)=d:=by split <;> omega
 rw[e1,e2] at h
 exact h
theorem bel_n3{w a b:World}(h:Below w.heap.size w a)(k:Below a.heap.size a b):Below w.heap.size w b:=h.trans (k.mono h.size)
def TabL(w:World):Prop:=w.cell? ⟨6,0,none⟩=some (.int .u64 6346243789798364141)∧w.cell? ⟨6,1,none⟩=some (.int .u64 1503914060200516822)∧w.cell? ⟨6,2,none⟩=some (.int .u64 0)∧w.cell? ⟨6,3,none⟩=some (.int .u64 1152921504606846976)
theorem TabL.below{w w':World}(h:TabL w)(hb:Below w.heap.size w w'):TabL w':=⟨keepc hb h.1,keepc hb h.2.1,keepc hb h.2.2.1,keepc hb h.2.2.2⟩
theorem gOr : Tryz.prog.globalNamed "imprimatur/field.order" = some 6 := by kernel_rfl
theorem tOr:(Tryz.prog.globals[6]?).map (·.type)=some 51:=by kernel_rfl
theorem c4:Tryz.prog.cellsOf 51=4:=by kernel_rfl
def ol:List Nat:=[6346243789798364141,1503914060200516822,0,1152921504606846976]
def cl4:List Nat:=[6346243789798364141,1503914060200516822,0,0]
theorem TabL.get{w:World}(h:TabL w){k:Nat}(hk:k < 4):w.cell? ⟨6,k,none⟩=some (.int .u64 ((ol.getD k 0:Nat):Int)):=by
 match k,hk with
 |0,_=>exact h.1
 |1,_=>exact h.2.1
 |2,_=>exact h.2.2.1
 |3,_=>exact h.2.2.2
def B64:Nat:=18446744073709551616
theorem B64_eq:B64=18446744073709551616:=rfl
attribute [irreducible] B64
theorem cl4_wo:Wo B64 cl4:=by unfold Wo cl4;rw[B64_eq];decide
theorem ol_wo:Wo B64 ol:=by unfold Wo ol;rw[B64_eq];decide
theorem cl4_v:vb B64 cl4=c125:=by rw[B64_eq];exact c125_v
theorem ol_v:vb B64 ol=Lq:=by rw[B64_eq];exact Lq_v
theorem B64_pos:0 < B64:=by rw[B64_eq];decide
theorem B64_4:B64 ^ 4=p252*16:=by rw[B64_eq];exact p252_4.symm
theorem four{R:List Nat}(h:R.length=4):∃a b c d,R=[a,b,c,d]:=by
 match R,h with
 | [a,b,c,d],_=>exact⟨a,b,c,d,rfl⟩
theorem set4{z:Array Value}(h:z.size=4)(a b c d:Value):(((z.setIfInBounds 0 a).setIfInBounds 1 b).setIfInBounds 2 c).setIfInBounds 3 d = #[a,b,c,d]:=by
 obtain⟨l⟩:=z
 match l,h with
 | [_,_,_,_],_=>simp[List.setIfInBounds_toArray]
theorem set4_below{B:Nat}{w0 w:World}{g:Nat}(hb:Below B w0 w)(hg:B≤g)(a b c d:Value) :
  Below B w0 ((((w.setCell ⟨g,0,none⟩ a).setCell ⟨g,1,none⟩ b).setCell ⟨g,2,none⟩ c).setCell ⟨g,3,none⟩ d) :=
 (((hb.setCell hg a).setCell hg b).setCell hg c).setCell hg d
def RetW(v:Nat)(w:World)(e:Ending)(w':World):Prop:=∃a b c d:Nat,e=.returned (.agg #[.int .u64 (a:Int),.int .u64 (b:Int),.int .u64 (c:Int),.int .u64 (d:Int)])∧Wo B64 [a,b,c,d]∧vb B64 [a,b,c,d]=v∧Below w.heap.size w w'
def J1(n:Nat)(r0:List Nat)(g:Nat)(w0:World)(over borrow i:Value)(wr:World):Prop :=
 ∃(k ov bo:Nat) (R:List Nat),k≤4∧i=.int .i64 (k:Int)∧over=.int .u64 (ov:Int)∧borrow=.int .u64 (bo:Int)∧ov≤4294967296∧bo≤1∧R.length=4∧Wo B64 R∧(∀p,k≤p→R.getD p 0=r0.getD p 0) ∧
  vb B64 (R.take k)+n*vb B64 (cl4.take k)=vb B64 (r0.take k)+B64 ^ k*(ov+bo)∧B64 ^ k*ov≤n*vb B64 (cl4.take k)∧Bl wr g 51 (nl R).toArray∧w0.grownBy wr (some g)
def J2(r1:List Nat)(g:Nat)(w0:World)(c i:Value)(wr:World):Prop :=
 ∃(k cy:Nat) (R:List Nat),k≤4∧i=.int .i64 (k:Int)∧c=.int .u64 (cy:Int)∧cy≤1∧R.length=4∧Wo B64 R∧(∀p,k≤p→R.getD p 0=r1.getD p 0) ∧
  vb B64 (R.take k)+B64 ^ k*cy=vb B64 (r1.take k)+vb B64 (ol.take k)∧Bl wr g 51 (nl R).toArray∧w0.grownBy wr (some g)
set_option maxHeartbeats 8000000 in
set_option maxRecDepth 100000 in
theorem joined_any (r0 : List Nat) (n : Nat) (w : World) (tab : TabL w) (h4 : r0.length = 4) (hr : Wo B64 r0) (hv : vb B64 r0 < p252) (hn : n ≤ 4294967296) :
    Calls Tryz.prog 77 #[.agg (nl r0).toArray, .int .u64 (n : Int)] w (RetW ((vb B64 r0 + n * p252) % Lq) w) := by
  have HR := Lib.hid hr
  have H4 := Lib.hid h4
  have HV := Lib.hid hv
  have a1 := ((Below.refl w.heap.size w).alloc (Nat.le_refl _) (.cells (nl r0).toArray 51)).alloc (by simp) (.cells (nl [0, 0, 0, 0]).toArray 51)
  have TB := Lib.hid (tab.below a1)
  have D1 := Lib.hid a1
  have HGL := Lib.hid (show 6 < w.heap.size from cell_lt tab.1)
  have BR := Lib.hid ((Bl.new_ w 51 (nl r0).toArray).alloc (.cells (nl [0, 0, 0, 0]).toArray 51))
  have BZ := Lib.hid (Bl.new' (w := w.alloc (.cells (nl r0).toArray 51)) (g := w.heap.size + 1) 51 (nl [0, 0, 0, 0]).toArray (by simp))
  clear hr h4 hv tab a1
  go_enter Tryz.func77, Tryz.ntmps77
  go_upto_region 1 with fail
  change Code.wp _ _ _ _ ((w.alloc (.cells (nl r0).toArray 51)).alloc (.cells (nl [0, 0, 0, 0]).toArray 51))
  generalize (w.alloc (.cells (nl r0).toArray 51)).alloc (.cells (nl [0, 0, 0, 0]).toArray 51) = W1 at TB D1 BR BZ ⊢
  obtain ⟨t0, t1, t2, t3⟩ := TB.out
  go_wp2_with fail
  clear t0 t1 t2 t3
  change Code.wp _ _ _ _ (W1.alloc (.cells (nl cl4).toArray 51))
  obtain ⟨g2, hg2⟩ : ∃ g2, g2 = W1.heap.size := ⟨_, rfl⟩
  have BC := Lib.hid (show Bl (W1.alloc (.cells (nl cl4).toArray 51)) g2 51 (nl cl4).toArray from hg2 ▸ Bl.new_ W1 51 (nl cl4).toArray)
  have G2 := Lib.hid (show w.heap.size + 1 < g2 by have := BZ.out.lt; omega)
  have a2 := (Below.refl W1.heap.size W1).alloc (Nat.le_refl _) (.cells (nl cl4).toArray 51)
  have TB2 := Lib.hid (TB.out.below a2)
  have D2 := Lib.hid (bel_n3 D1.out a2)
  have BR2 := Lib.hid (BR.out.below' a2)
  have BZ2 := Lib.hid (BZ.out.below' a2)
  rw [← hg2]
  clear a2 hg2 TB D1 BR BZ
  generalize W1.alloc (.cells (nl cl4).toArray 51) = W2 at *
  go_loopw [6, 7, 19] (fun ov bo i wr => J1 n r0 w.heap.size W2 ov bo i wr) (fun _ _ i _ => 4 - (intOf i).toNat)
  case atStart => exact ⟨0, 0, 0, r0, Nat.zero_le _, rfl, rfl, rfl, Nat.zero_le _, Nat.zero_le _, H4.out, HR.out, fun _ _ => rfl, by simp [vb_nil], by simp, BR2.out, World.grownBy.refl _ _⟩
  case round =>
    obtain ⟨k, ov, bo, R, hk, rfl, rfl, rfl, hov, hbo, hRl, hRw, hRs, hRv, hRb, hbl, hgr⟩ := hrel
    have RL := Lib.hid hRl
    have RW := Lib.hid hRw
    have RS := Lib.hid hRs
    have RV := Lib.hid hRv
    have RB := Lib.hid hRb
    have BL := Lib.hid hbl
    have GR := Lib.hid hgr
    have OV := Lib.hid hov
    have BO := Lib.hid hbo
    clear hRl hRw hRs hRv hRb hbl hgr hov hbo
    by_cases hlt : k < 4
    · obtain ⟨x, hx⟩ : ∃ x, x = r0.getD k 0 := ⟨_, rfl⟩
      obtain ⟨c, hc⟩ : ∃ c, c = cl4.getD k 0 := ⟨_, rfl⟩
      have cx := nl_cell BL.out (k := k) (by rw [RL.out]; exact hlt)
      rw [RS.out k (Nat.le_refl _), ← hx] at cx
      have fx := BL.out.frozen k
      have bc := BC.out.grown GR.out (by have := G2.out; simp; omega)
      have cc := nl_cell bc (k := k) (by exact hlt)
      rw [← hc] at cc
      have xb : x < 18446744073709551616 := by
        have := HR.out.get k (by rw [B64_eq]; decide)
        rwa [← hx, B64_eq] at this
      have cb : c < 18446744073709551616 := by
        have := cl4_wo.get k (by rw [B64_eq]; decide)
        rwa [← hc, B64_eq] at this
      obtain ⟨hi, hhi⟩ : ∃ hi, n * c / 18446744073709551616 = hi := ⟨_, rfl⟩
      obtain ⟨lo, hlo⟩ : ∃ lo, n * c % 18446744073709551616 = lo := ⟨_, rfl⟩
      obtain ⟨lo', hlo'⟩ : ∃ lo', (lo + ov) % 18446744073709551616 = lo' := ⟨_, rfl⟩
      obtain ⟨ca, hca⟩ : ∃ ca, (lo + ov) / 18446744073709551616 = ca := ⟨_, rfl⟩
      obtain ⟨ov', hov'⟩ : ∃ ov', hi + ca = ov' := ⟨_, rfl⟩
      obtain ⟨bo', hbo'⟩ : ∃ b, (if x < lo' + bo then 1 else 0) = b := ⟨_, rfl⟩
      have bo1 : bo' ≤ 1 := by rw [← hbo']; split <;> decide
      obtain ⟨y, hy⟩ : ∃ y, x + 18446744073709551616 * bo' - lo' - bo = y := ⟨_, rfl⟩
      have hov0 := OV.out
      have hbo0 := BO.out
      have hy1 : y + lo' + bo = x + 18446744073709551616 * bo' ∧ y < 18446744073709551616 := by
        rw [← hbo'] at hy ⊢
        split at hy <;> rename_i h <;> simp only [h, if_true, if_false] <;> omega
      have hnc : n * c < 4294967296 * 18446744073709551616 := by
        refine Nat.lt_of_le_of_lt (Nat.mul_le_mul_right c hn) ?_
        exact Nat.mul_lt_mul_of_pos_left cb (by decide)
      have hmul : n * c + ov = lo' + 18446744073709551616 * ov' := by
        generalize n * c = q at *
        omega
      have hov4 : ov' ≤ 4294967296 := by
        generalize n * c = q at *
        omega
      have E0 := Lib.hid (fun w => mul64_c n c hi lo (by omega) cb hhi hlo w)
      have E1 := fun w => add64_0 lo ov lo' ca hlo' hca w
      have E2 := fun w => sub64_c x lo' bo y bo' xb (by omega) hbo0 hy1.2 hy1.1 bo1 w
      have eov : IntKind.u64.wrap ((hi : Int) + (ca : Int)) = (ov' : Int) := by
        rw [IntKind.wrap_u64]
        generalize n * c = q at *
        omega
      have NX := Lib.hid (join_step B64 n ov bo ov' bo' lo' x y c k R r0 cl4 (by rw [RL.out]; exact hlt) hx hc RV.out (by rw [B64_eq]; exact hmul) (by rw [B64_eq]; exact hy1.1))
      have NB := Lib.hid (join_bound B64 n ov ov' lo' c k cl4 hc RB.out (by rw [B64_eq]; exact hmul))
      have YB := Lib.hid (show y < B64 by rw [B64_eq]; exact hy1.2)
      have OV' := Lib.hid hov4
      have BO' := Lib.hid bo1
      clear hx hc xb cb hhi hlo hlo' hca hov' hbo' hy bo1 hov0 hbo0 hy1 hnc hmul hov4 bc
      go_wp2_with (go_at_call 75; (with_reducible refine (E0.out _).mono ?_); rintro e w' ⟨rfl, rfl⟩)
      clear E1 E2 eov
      go_roundw
      case rel => exact ⟨k + 1, ov', bo', R.set k y, by omega, by go_num, rfl, rfl, OV'.out, BO'.out, by rw [List.length_set]; exact RL.out, RW.out.set _ _ YB.out, fun p hp => by rw [getD_set_ne _ _ _ _ (by omega)]; exact RS.out p (by omega), NX.out, NB.out, by rw [← nlu_set]; exact BL.out.set_ k _, only_set (p := ⟨w.heap.size, k, none⟩) GR.out (.inl rfl) _⟩
      case measure => simp [intOf]; omega
    · obtain rfl : k = 4 := by omega
      have hov0 : ov = 0 := join_over n ov bo (vb B64 R) (vb B64 r0) (B64 ^ 4) hn B64_4 (by rw [← RL.out]; exact vb_lt B64 R RW.out B64_pos) (by
        have := RB.out
        rwa [vb_take_all B64 cl4 4 rfl, cl4_v] at this)
      have RV4 := Lib.hid (show vb B64 R + n * c125 = vb B64 r0 + B64 ^ 4 * bo by
        have := RV.out
        rwa [vb_take_all B64 R 4 RL.out, vb_take_all B64 cl4 4 rfl, vb_take_all B64 r0 4 H4.out, cl4_v, hov0, Nat.zero_add] at this)
      have DR := Lib.hid (show Below w.heap.size w wr from D2.out.grown GR.out D2.out.size (by intro x hx; injection hx with hx; omega))
      have bz := BZ2.out.grown GR.out (by intro h; injection h with h; omega)
      have BZR := Lib.hid bz
      have TBR := Lib.hid (show TabL wr from ⟨(only_cell GR.out (p := ⟨6, 0, none⟩) (cell_lt TB2.out.1) (by intro h; injection h with h; have h2 : w.heap.size = 6 := h; have := HGL.out; omega)).trans TB2.out.1, (only_cell GR.out (p := ⟨6, 1, none⟩) (cell_lt TB2.out.2.1) (by intro h; injection h with h; have h2 : w.heap.size = 6 := h; have := HGL.out; omega)).trans TB2.out.2.1, (only_cell GR.out (p := ⟨6, 2, none⟩) (cell_lt TB2.out.2.2.1) (by intro h; injection h with h; have h2 : w.heap.size = 6 := h; have := HGL.out; omega)).trans TB2.out.2.2.1, (only_cell GR.out (p := ⟨6, 3, none⟩) (cell_lt TB2.out.2.2.2) (by intro h; injection h with h; have h2 : w.heap.size = 6 := h; have := HGL.out; omega)).trans TB2.out.2.2.2⟩)
      have bo01 : bo = 0 ∨ bo = 1 := by have := BO.out; omega
      have WR := Lib.hid (show ∃ wq : World, wq = wr from ⟨_, rfl⟩)
      clear bz hov0
      rcases bo01 with rfl | rfl
      · obtain ⟨a, b, c, d, hR⟩ := four RL.out
        subst hR
        have HVAL := Lib.hid (show vb B64 [a, b, c, d] = (vb B64 r0 + n * p252) % Lq from joined_ge _ _ _ HV.out (by have := RV4.out; rwa [Nat.mul_zero, Nat.add_zero] at this))
        have a0 : wr.cell? ⟨w.heap.size, 0, none⟩ = some (.int .u64 (a : Int)) := BL.out.cell_ rfl
        have a1 : wr.cell? ⟨w.heap.size, 1, none⟩ = some (.int .u64 (b : Int)) := BL.out.cell_ rfl
        have a2 : wr.cell? ⟨w.heap.size, 2, none⟩ = some (.int .u64 (c : Int)) := BL.out.cell_ rfl
        have a3 : wr.cell? ⟨w.heap.size, 3, none⟩ = some (.int .u64 (d : Int)) := BL.out.cell_ rfl
        have z0 : wr.cell? ⟨w.heap.size + 1, 0, none⟩ = some (.int .u64 0) := BZR.out.cell_ rfl
        have z1 : wr.cell? ⟨w.heap.size + 1, 1, none⟩ = some (.int .u64 0) := BZR.out.cell_ rfl
        have z2 : wr.cell? ⟨w.heap.size + 1, 2, none⟩ = some (.int .u64 0) := BZR.out.cell_ rfl
        have z3 : wr.cell? ⟨w.heap.size + 1, 3, none⟩ = some (.int .u64 0) := BZR.out.cell_ rfl
        have f0 := BZR.out.frozen 0
        have f1 := BZR.out.frozen 1
        have f2 := BZR.out.frozen 2
        have f3 := BZR.out.frozen 3
        go_wp2
        refine bodyPost_ret (v := .agg #[.int .u64 (a : Int), .int .u64 (b : Int), .int .u64 (c : Int), .int .u64 (d : Int)]) ?_ rfl ⟨a, b, c, d, rfl, RW.out, HVAL.out, set4_below DR.out (by omega) _ _ _ _⟩
        simp [results, Tryz.results77, go_sem, z0, z1, z2, z3]
      · have HR1 := Lib.hid (show J2 R w.heap.size wr (.int .u64 0) (.int .i64 0) wr from ⟨0, 0, R, Nat.zero_le _, rfl, rfl, Nat.zero_le _, RL.out, RW.out, fun _ _ => rfl, by simp [vb_nil], BL.out, World.grownBy.refl _ _⟩)
        obtain ⟨wo, rfl⟩ : ∃ wo : World, wo = wr := ⟨_, rfl⟩
        clear WR
        rw [show (((4 : Nat)) : Int) = 4 from rfl, show (((1 : Nat)) : Int) = 1 from rfl]
        go_wp2_with fail
        go_loopw [12, 54] (fun c i wx => J2 R w.heap.size wo c i wx) (fun _ i _ => 4 - (intOf i).toNat)
        case atStart => exact HR1.out
        case round =>
          clear HR1
          obtain ⟨k, cy, S, hk, rfl, rfl, hcy, hSl, hSw, hSs, hSv, hbl, hgr⟩ := hrel
          have SL := Lib.hid hSl
          have SW := Lib.hid hSw
          have SS := Lib.hid hSs
          have SV := Lib.hid hSv
          have BS := Lib.hid hbl
          have GS := Lib.hid hgr
          have CY := Lib.hid hcy
          clear hSl hSw hSs hSv hbl hgr hcy
          by_cases hlt : k < 4
          · obtain ⟨x, hx⟩ : ∃ x, x = R.getD k 0 := ⟨_, rfl⟩
            obtain ⟨o, ho⟩ : ∃ o, o = ol.getD k 0 := ⟨_, rfl⟩
            have cx := nl_cell BS.out (k := k) (by rw [SL.out]; exact hlt)
            rw [SS.out k (Nat.le_refl _), ← hx] at cx
            have fx := BS.out.frozen k
            have co : wr.cell? ⟨6, k, none⟩ = some (.int .u64 (o : Int)) := by
              rw [ho, ← TBR.out.get hlt]
              exact only_cell GS.out (p := ⟨6, k, none⟩) (cell_lt (TBR.out.get hlt)) (by intro h; injection h with h; have h2 : w.heap.size = 6 := h; have := HGL.out; omega)
            have xb : x < 18446744073709551616 := by
              have := RW.out.get k B64_pos
              rwa [← hx, B64_eq] at this
            have ob : o < 18446744073709551616 := by
              have := ol_wo.get k B64_pos
              rwa [← ho, B64_eq] at this
            obtain ⟨s, hs⟩ : ∃ s, (x + o + cy) % 18446744073709551616 = s := ⟨_, rfl⟩
            obtain ⟨cy', hcy'⟩ : ∃ c, (x + o + cy) / 18446744073709551616 = c := ⟨_, rfl⟩
            have hcy0 := CY.out
            have E1 := fun w => add64_c x o cy s cy' hcy0 hs hcy' w
            have NX := Lib.hid (add_step B64 cy cy' s x o k S R ol (by rw [SL.out]; exact hlt) hx ho SV.out (by rw [B64_eq]; omega))
            have SB := Lib.hid (show s < B64 by rw [B64_eq]; omega)
            have CY' := Lib.hid (show cy' ≤ 1 by omega)
            have k4 : (k : Int) < 4 := by omega
            have k0 : (0 : Int) ≤ (k : Int) := by omega
            clear hx ho xb ob hs hcy' hcy0
            go_wp2_with fail
            go_region_with (fail)
            all_goals go_wp2_with fail
            all_goals
              clear E1
              go_roundw
              case rel => exact ⟨k + 1, cy', S.set k s, by omega, by go_num, rfl, CY'.out, by rw [List.length_set]; exact SL.out, SW.out.set _ _ SB.out, fun p hp => by rw [getD_set_ne _ _ _ _ (by omega)]; exact SS.out p (by omega), NX.out, by rw [← nlu_set]; exact BS.out.drew.set_ k _, only_set (p := ⟨w.heap.size, k, none⟩) (only_drew GS.out) (.inl rfl) _⟩
              case measure => simp [intOf]; omega
          · obtain rfl : k = 4 := by omega
            have HVAL := Lib.hid (show vb B64 S = (vb B64 r0 + n * p252) % Lq from joined_lt (vb B64 r0) n (vb B64 R) (vb B64 S) (B64 ^ 4) cy HV.out hn B64_4 (by rw [← RL.out]; exact vb_lt B64 R RW.out B64_pos) (by have := RV4.out; rwa [Nat.mul_one] at this) (by
                have := SV.out
                rwa [vb_take_all B64 S 4 SL.out, vb_take_all B64 R 4 RL.out, vb_take_all B64 ol 4 rfl, ol_v] at this) (by rw [← SL.out]; exact vb_lt B64 S SW.out B64_pos))
            have DS := Lib.hid (show Below w.heap.size w wr from DR.out.grown GS.out DR.out.size (by intro x hx; injection hx with hx; omega))
            have BZS := Lib.hid (BZR.out.grown GS.out (by intro h; injection h with h; omega))
            obtain ⟨a, b, c, d, hS⟩ := four SL.out
            subst hS
            have a0 : wr.cell? ⟨w.heap.size, 0, none⟩ = some (.int .u64 (a : Int)) := BS.out.cell_ rfl
            have a1 : wr.cell? ⟨w.heap.size, 1, none⟩ = some (.int .u64 (b : Int)) := BS.out.cell_ rfl
            have a2 : wr.cell? ⟨w.heap.size, 2, none⟩ = some (.int .u64 (c : Int)) := BS.out.cell_ rfl
            have a3 : wr.cell? ⟨w.heap.size, 3, none⟩ = some (.int .u64 (d : Int)) := BS.out.cell_ rfl
            have z0 : wr.cell? ⟨w.heap.size + 1, 0, none⟩ = some (.int .u64 0) := BZS.out.cell_ rfl
            have z1 : wr.cell? ⟨w.heap.size + 1, 1, none⟩ = some (.int .u64 0) := BZS.out.cell_ rfl
            have z2 : wr.cell? ⟨w.heap.size + 1, 2, none⟩ = some (.int .u64 0) := BZS.out.cell_ rfl
            have z3 : wr.cell? ⟨w.heap.size + 1, 3, none⟩ = some (.int .u64 0) := BZS.out.cell_ rfl
            have f0 := BZS.out.frozen 0
            have f1 := BZS.out.frozen 1
            have f2 := BZS.out.frozen 2
            have f3 := BZS.out.frozen 3
            go_wp2
            refine bodyPost_ret (v := .agg #[.int .u64 (a : Int), .int .u64 (b : Int), .int .u64 (c : Int), .int .u64 (d : Int)]) ?_ rfl ⟨a, b, c, d, rfl, SW.out, HVAL.out, set4_below DS.out (by omega) _ _ _ _⟩
            simp [results, Tryz.results77, go_sem, z0, z1, z2, z3]
end Go.Proofs.YtoibhnpmemnlfaaGreatDoor.Fd
