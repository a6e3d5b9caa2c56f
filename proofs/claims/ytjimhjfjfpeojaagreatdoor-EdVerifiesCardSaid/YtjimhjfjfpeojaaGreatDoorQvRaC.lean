/- Joined texts. -/
import Derived.StillTailTactics
import Derived.Test.YtjimhjfjfpeojaaGreatDoorQvRaB
set_option maxRecDepth 100000
set_option maxHeartbeats 8000000
set_option linter.unusedVariables false
namespace Go.Proofs.YtjimhjfjfpeojaaGreatDoor.Fd
open Go.RowKit Go.Proofs.YtjimhjfjfpeojaaGreatDoor.Gn Go.Deep
def z32:List Nat:=[0,0,0,0,0,0,0,0,0,0,0,0,0,0,0,0,0,0,0,0,0,0,0,0,0,0,0,0,0,0,0,0]
def CoO(la lb:List Nat)(n g:Nat)(w0:World)(i:Value)(wr:World):Prop :=
 ∃(j:Nat) (o:List Nat),j≤n∧i=.int .i64 (j:Int)∧o.length=32∧Mx o (j*4294836225)∧vl o=vl (la.take j)*vl lb∧Bl wr g 105 (nl o).toArray∧Below g w0 wr
def CoI(la lb o:List Nat)(j m g:Nat)(w0:World)(i:Value)(wr:World):Prop :=
 ∃(k:Nat) (o':List Nat),k≤m∧i=.int .i64 (k:Int)∧o'.length=32∧Mx o' ((j+1)*4294836225)∧(∀p,j+k≤p→o'.getD p 0=o.getD p 0) ∧
  vl o'=vl (la.take j)*vl lb+65536 ^ j*(la.getD j 0*vl (lb.take k))∧Bl wr g 105 (nl o').toArray∧Below g w0 wr
def Zs7(o:List Nat)(g:Nat)(w0:World)(i:Value)(wr:World):Prop :=
 ∃k:Nat,k≤16∧i=.int .i64 (k:Int)∧Bl wr g 24 (nl (fld o k)).toArray∧Below g w0 wr
def Zp9(V g:Nat)(w0:World)(n:Nat)(c:Value)(wr:World):Prop :=
 ∃(cy:Nat) (t:List Nat),c=.int .u64 (cy:Int)∧t.length=16∧Mx t 8796093022208∧vl t%pp=V%pp∧(cy=0→Dg t)∧(if cy=0 then 0 else vl t+1) < n∧cy≤1073741824∧Bl wr g 24 (nl t).toArray∧Below g w0 wr
def Zpa(t:List Nat)(g:Nat)(w0:World)(c i:Value)(wr:World):Prop :=
 ∃(k cy:Nat) (t':List Nat),k≤16∧i=.int .i64 (k:Int)∧c=.int .u64 (cy:Int)∧cy≤1073741824∧t'.length=16∧(∀p,p < k→t'.getD p 0 < 65536)∧(∀p,k≤p→t'.getD p 0=t.getD p 0)∧vl t'+65536 ^ k*cy=vl t∧Bl wr g 24 (nl t').toArray∧Below g w0 wr
theorem Dg.of_get{l:List Nat}(h:∀p,p < l.length→l.getD p 0 < 65536):Dg l:=by
 intro x hx
 obtain⟨p,hp,rfl⟩:=List.getElem_of_mem hx
 have:=h p hp
 rwa [List.getD_eq_getElem?_getD,List.getElem?_eq_getElem hp] at this
theorem Zpb(b:Nat):Mx z32 b:=by
 intro x hx
 have:z32=List.replicate 32 0:=rfl
 rw[this] at hx
 rw[List.eq_of_mem_replicate hx];exact Nat.zero_le _
theorem Zct{a b:Nat}(ha:a < 65536)(hb:b < 65536):a*b≤4294836225:=Nat.mul_le_mul (show a≤65535 by omega) (show b≤65535 by omega)
theorem Zi2(t:List Nat)(h:0 < t.length):t.set 0 (t.getD 0 0+38*0)=t:=by
 cases t with
 |nil=>cases h
 |cons x t=>simp
theorem Zeu(t:List Nat)(k c V:Nat)(hk:k=16)(ht:t.length=16)(hv:vl t+65536 ^ k*c=V):vl (t.set 0 (t.getD 0 0+38*c))%pp=V%pp∧(0 < c→vl (t.set 0 (t.getD 0 0+38*c)) < V):=by
 subst hk;exact Zhy t c V ht hv
theorem Z2d (A B : Option Addr) (n m c d : Nat) (a b : Nat) (w : World) (hn : n ≤ 16) (hm : m ≤ 16) (ha : Sl w A n (nl (dg a))) (hb : Sl w B m (nl (dg b))) :
    Calls Tryz.prog 53 #[.slice A n c, .slice B m d] w (RetN (a * b % pp) w) := by
  have HA := Lib.hid ha
  have HB := Lib.hid hb
  have HN := Lib.hid (And.intro (Z09 ha) (Z09 hb))
  have B0 := Lib.hid (Bl.new_ w 105 (nl z32).toArray)
  clear ha hb
  obtain ⟨g, hg⟩ : ∃ g, g = w.heap.size := ⟨_, rfl⟩
  have HG := Lib.hid hg
  go_enter Tryz.func53, Tryz.ntmps53
  go_wp2_with (refine Z3a rfl 105 (.tmp 5) (.tmp 14) rfl w.heap.size 0 (nl z32).toArray rfl rfl 105 (nl z32).toArray B0.out (by rw [Nat.zero_add]; exact Nat.le_refl _) (by kernel_rfl) (nl_one z32) ?_; intro w0 hb1 hg1; have b0 : Bl w0 w.heap.size 105 (nl z32).toArray := (Z1g (nl z32).toArray (nl z32).toArray.toList rfl) ▸ hb1; have d0 : Below w.heap.size w w0 := ((Below.refl w.heap.size w).alloc (Nat.le_refl _) (.cells (nl z32).toArray 105)).grown hg1 (by simp) (by simp); clear hb1 hg1 B0; rw [← hg] at b0 ⊢; have B0 := Lib.hid b0; have D0 := Lib.hid d0; clear b0 d0 hg)
  go_loopw [6] (fun i wr => CoO (dg a) (dg b) n g w0 i wr) (fun i _ => n - (intOf i).toNat)
  case atStart => exact ⟨0, z32, Nat.zero_le _, rfl, rfl, Zpb _, by rw [List.take_zero, Z3d, Nat.zero_mul]; exact Z3e 32, B0.out, Below.refl _ _⟩
  case round =>
    obtain ⟨j, o, hj, rfl, hol, hom, hov, hbl, hbw⟩ := hrel
    have OL := Lib.hid hol
    have OM := Lib.hid hom
    have OV := Lib.hid hov
    have BL := Lib.hid hbl
    have BW := Lib.hid hbw
    have WX := Lib.hid (show Below w.heap.size w wr from D0.out.trans (by have := HG.out; subst this; exact hbw))
    clear hol hom hov hbl hbw
    by_cases hlt : j < n
    · obtain ⟨ad, rfl, -⟩ := (HA.out.below WX.out).at_ hlt
      obtain ⟨X, hX⟩ : ∃ X, X = (dg a).getD j 0 := ⟨_, rfl⟩
      have ca := sl_num (HA.out.below WX.out) hlt
      rw [← hX] at ca
      have HX := Lib.hid hX
      have R0 := Lib.hid (show CoI (dg a) (dg b) o j m g w0 (.int .i64 0) wr from ⟨0, o, Nat.zero_le _, rfl, OL.out, OM.out.le (by omega), fun _ _ => rfl, by rw [OV.out]; simp [Z3d], BL.out, BW.out⟩)
      clear hX
      go_wp2_with fail
      clear ca
      go_loopw [8] (fun i wx => CoI (dg a) (dg b) o j m g w0 i wx) (fun i _ => m - (intOf i).toNat)
      case atStart => exact R0.out
      case round =>
        clear R0
        obtain ⟨k, L, hk, rfl, hLl, hLm, hsame, hLv, hbl, hbw⟩ := hrel
        have LL := Lib.hid hLl
        have LM := Lib.hid hLm
        have LS := Lib.hid hsame
        have LV := Lib.hid hLv
        have BX := Lib.hid hbl
        have BY := Lib.hid hbw
        have WY := Lib.hid (show Below w.heap.size w wr from D0.out.trans (by have := HG.out; subst this; exact hbw))
        clear hLl hLm hsame hLv hbl hbw
        by_cases hlk : k < m
        · obtain ⟨p, hp⟩ : ∃ p, p = j + k := ⟨_, rfl⟩
          have ep : (j : Int) + (k : Int) = (p : Int) := by omega
          have wp : IntKind.i64.wrap (p : Int) = (p : Int) := by rw [IntKind.wrap_i64]; omega
          have p0 : (0 : Int) ≤ (p : Int) := by omega
          have p32 : (p : Int) < 32 := by omega
          obtain ⟨bd, rfl, -⟩ := (HB.out.below WY.out).at_ hlk
          obtain ⟨Y, hY⟩ : ∃ Y, Y = (dg b).getD k 0 := ⟨_, rfl⟩
          have cb := sl_num (HB.out.below WY.out) hlk
          rw [← hY] at cb
          obtain ⟨O, hO⟩ : ∃ O, O = L.getD p 0 := ⟨_, rfl⟩
          have co := Z0u BX.out (k := p) (by rw [LL.out]; omega)
          rw [← hO] at co
          have fo := BX.out.frozen p
          have hxy : X * Y ≤ 4294836225 := Zct (by rw [HX.out]; exact (Z0o a).get j) (by rw [hY]; exact (Z0o b).get k)
          have hOb : O ≤ j * 4294836225 := by rw [hO, LS.out p (by omega)]; exact OM.out.get p
          obtain ⟨V, hV⟩ : ∃ V, V = O + X * Y := ⟨_, rfl⟩
          have hVb : V ≤ (j + 1) * 4294836225 := by rw [hV, Nat.add_mul]; omega
          have eV : IntKind.u64.wrap ((O : Int) + IntKind.u64.wrap ((X : Int) * (Y : Int))) = (V : Int) := by
            rw [hV] at hVb ⊢
            rw [← Int.natCast_mul]
            generalize X * Y = Q at *
            simp only [IntKind.wrap_u64]
            omega
          have NX := Lib.hid (show vl (L.set p V) = vl ((dg a).take j) * vl (dg b) + 65536 ^ j * ((dg a).getD j 0 * vl ((dg b).take (k + 1))) by
            rw [hV, hO, hp]
            have := Zou L j k X Y (vl ((dg a).take j) * vl (dg b)) (dg b) (by rw [LL.out]; omega) hY (by rw [LV.out, HX.out])
            rw [this, HX.out])
          have VB := Lib.hid hVb
          have HP := Lib.hid hp
          clear hp hY hO hV hxy hOb hVb
          go_wp2_with fail
          go_still_tail 16, (by kernel_rfl)
          go_wp2_with fail
          clear ep wp p0 p32 eV
          go_roundw
          case rel => exact ⟨k + 1, L.set p V, by omega, by go_num, by rw [List.length_set]; exact LL.out, LM.out.set _ _ VB.out, fun q hq => by rw [getD_set_ne _ _ _ _ (by have := HP.out; omega)]; exact LS.out q (by omega), NX.out, by rw [← Z0t]; exact BX.out.drew.set_ p _, BY.out.drew.setCell (p := ⟨g, p, none⟩) (Nat.le_refl _) _⟩
          case measure => simp [intOf]; omega
        · obtain rfl : k = m := by omega
          have NX := Lib.hid (show vl L = vl ((dg a).take (j + 1)) * vl (dg b) from Zln (dg a) (dg b) L j (by rw [LV.out, ← HN.out.2, List.take_length]))
          go_wp2_with fail
          go_roundw
          case rel => exact ⟨j + 1, L, by omega, by go_num, LL.out, LM.out, NX.out, BX.out, BY.out⟩
          case measure => simp [intOf]; omega
    · obtain rfl : j = n := by omega
      have HV := Lib.hid (show vl o = a * b by rw [OV.out, ← HN.out.1, List.take_length, Z0l, Z0l])
      have OM2 := Lib.hid (show Mx o 68717379600 from OM.out.le (by omega))
      have hmk16 := fun w => (show Sem.run Tryz.prog (Instr.makeSlice 32 (.int .i64 16) (.int .i64 16)) w = _ from Z6d 16 (by decide) w)
      clear hlt
      go_wp2_with fail
      clear hmk16
      obtain ⟨wo, rfl⟩ : ∃ wo : World, wo = wr := ⟨_, rfl⟩
      have B2 := Lib.hid (Bl.new_ wo 24 (nl [0, 0, 0, 0, 0, 0, 0, 0, 0, 0, 0, 0, 0, 0, 0, 0]).toArray)
      have D2 := Lib.hid ((Below.refl wo.heap.size wo).alloc (Nat.le_refl _) (.cells (nl [0, 0, 0, 0, 0, 0, 0, 0, 0, 0, 0, 0, 0, 0, 0, 0]).toArray 24))
      obtain ⟨g2, hg2⟩ : ∃ g2, g2 = wo.heap.size := ⟨_, rfl⟩
      have HG2 := Lib.hid hg2
      rw [← hg2] at B2 ⊢
      generalize wo.alloc (.cells (nl [0, 0, 0, 0, 0, 0, 0, 0, 0, 0, 0, 0, 0, 0, 0, 0]).toArray 24) = w2 at B2 D2 ⊢
      clear hg2
      go_loopw [10] (fun i wx => Zs7 o g2 w2 i wx) (fun i _ => 16 - (intOf i).toNat)
      case atStart => exact ⟨0, Nat.zero_le _, rfl, by rw [Zhx]; exact B2.out, Below.refl _ _⟩
      case round =>
        obtain ⟨k, hk, rfl, hbl, hbw⟩ := hrel
        have BF := Lib.hid hbl
        have BG := Lib.hid hbw
        have WF := Lib.hid (show Below wo.heap.size wo wr from D2.out.trans (by have := HG2.out; subst this; exact hbw))
        clear hbl hbw
        by_cases hlk : k < 16
        · have bs := BL.out.below' WF.out
          obtain ⟨O, hO⟩ : ∃ O, O = o.getD k 0 := ⟨_, rfl⟩
          obtain ⟨p, hp⟩ : ∃ p, p = k + 16 := ⟨_, rfl⟩
          obtain ⟨Q, hQ⟩ : ∃ Q, Q = o.getD p 0 := ⟨_, rfl⟩
          have ep : (k : Int) + 16 = (p : Int) := by omega
          have wp : IntKind.i64.wrap (p : Int) = (p : Int) := by rw [IntKind.wrap_i64]; omega
          have p0 : (0 : Int) ≤ (p : Int) := by omega
          have p32 : (p : Int) < 32 := by omega
          have k32 : (k : Int) < 32 := by omega
          have c1 := Z0u bs (k := k) (by rw [OL.out]; omega)
          have c2 := Z0u bs (k := p) (by rw [OL.out]; omega)
          rw [← hO] at c1
          rw [← hQ] at c2
          have c3 := Z0u BF.out (k := k) (by rw [Z6b]; omega)
          have f3 := BF.out.frozen k
          have hOb : O ≤ 68717379600 := by rw [hO]; exact OM2.out.get k
          have hQb : Q ≤ 68717379600 := by rw [hQ]; exact OM2.out.get p
          obtain ⟨Z, hZ⟩ : ∃ Z, Z = 38 * Q := ⟨_, rfl⟩
          obtain ⟨V, hV⟩ : ∃ V, V = O + Z := ⟨_, rfl⟩
          have eZ : IntKind.u64.wrap ((38 : Int) * (Q : Int)) = (Z : Int) := by rw [IntKind.wrap_u64]; omega
          have eV : IntKind.u64.wrap ((O : Int) + (Z : Int)) = (V : Int) := by rw [IntKind.wrap_u64]; omega
          have ST := Lib.hid (show (fld o k).set k V = fld o (k + 1) from Zlo o k V (by rw [hV, hZ, hO, hQ, hp]))
          clear hO hp hQ hOb hQb hZ hV bs
          go_wp2_with fail
          go_still_tail 12, (by kernel_rfl)
          go_wp2_with fail
          clear ep wp p0 p32 k32 eZ eV
          go_roundw
          case rel => exact ⟨k + 1, by omega, by go_num, by rw [← ST.out, ← Z0t]; exact BF.out.drew.set_ k _, BG.out.drew.setCell (p := ⟨g2, k, none⟩) (Nat.le_refl _) _⟩
          case measure => simp [intOf]; omega
        · obtain rfl : k = 16 := by omega
          have P0 := Lib.hid (show Zp9 (a * b) g2 w2 (vl (fld o 16) + 2) (.int .u64 1) wr from ⟨1, fld o 16, rfl, Z6b _ _, (Zov o _ 16 OM2.out).le (by decide), by rw [Zox o OL.out, HV.out], (fun h => absurd h (by decide)), (by rw [if_neg (by decide)]; omega), (by decide), BF.out, BG.out⟩)
          have e16 : (((16 : Nat) : Int)) = 16 := rfl
          go_wp2_with fail
          go_loopg [11] (vl (fld o 16) + 2) (fun n c wx => Zp9 (a * b) g2 w2 n c wx)
          case atStart => exact P0.out
          case round =>
            clear P0 BF BG WF
            obtain ⟨wp, rfl⟩ : ∃ wp : World, wp = wr := ⟨_, rfl⟩
            obtain ⟨gp, rfl⟩ : ∃ gp : Nat, gp = gk := ⟨_, rfl⟩
            obtain ⟨cy, t, rfl, htl, htm, htv, htd, htn, hcy, hbl, hbw⟩ := hrel
            have TL := Lib.hid htl
            have TM := Lib.hid htm
            have TV := Lib.hid htv
            have TD := Lib.hid htd
            have TN := Lib.hid htn
            have BT := Lib.hid hbl
            have BU := Lib.hid hbw
            clear htl htm htv htd htn hbl hbw
            by_cases h0 : 0 < cy
            · have t0 : decide (0 < cy) = true := by simp; omega
              have TN2 := Lib.hid (show vl t + 1 < gp by have := TN.out; rwa [if_neg (by omega)] at this)
              have P1 := Lib.hid (show Zpa t g2 w2 (.int .u64 0) (.int .i64 0) wp from ⟨0, 0, t, Nat.zero_le _, rfl, rfl, by decide, TL.out, fun p h => by omega, fun _ _ => rfl, by simp, BT.out, BU.out⟩)
              clear h0 hcy
              go_wp2_with fail
              go_loopw [11, 12] (fun c i wx => Zpa t g2 w2 c i wx) (fun _ i _ => 16 - (intOf i).toNat)
              case atStart => exact P1.out
              case round =>
                clear P1
                obtain ⟨k, cy, T, hk, rfl, rfl, hcy, hTl, hTs, hTr, hTv, hbl, hbw⟩ := hrel
                have SL := Lib.hid hTl
                have SS := Lib.hid hTs
                have SR := Lib.hid hTr
                have SV := Lib.hid hTv
                have BX := Lib.hid hbl
                have BY := Lib.hid hbw
                clear hTl hTs hTr hTv hbl hbw
                by_cases hlk : k < 16
                · obtain ⟨x, hx⟩ : ∃ x, x = T.getD k 0 := ⟨_, rfl⟩
                  have c1 := Z0u BX.out (k := k) (by rw [SL.out]; exact hlk)
                  rw [← hx] at c1
                  have f1 := BX.out.frozen k
                  have hxb : x ≤ 8796093022208 := by rw [hx, SR.out k (Nat.le_refl _)]; exact TM.out.get k
                  obtain ⟨V, hV⟩ : ∃ V, V = x + cy := ⟨_, rfl⟩
                  have eV : IntKind.u64.wrap ((x : Int) + (cy : Int)) = (V : Int) := by rw [IntKind.wrap_u64]; omega
                  obtain ⟨r, hr⟩ : ∃ r, r = V % 65536 := ⟨_, rfl⟩
                  obtain ⟨q, hq⟩ : ∃ q, q = V / 65536 := ⟨_, rfl⟩
                  have er : (V : Int) % 65536 = (r : Int) := by omega
                  have eq : (V : Int) / 65536 = (q : Int) := by omega
                  have er' : IntKind.u64.wrap (r : Int) = (r : Int) := by rw [IntKind.wrap_u64]; omega
                  have eq' : IntKind.u64.wrap (q : Int) = (q : Int) := by rw [IntKind.wrap_u64]; omega
                  have QB := Lib.hid (show q ≤ 1073741824 by omega)
                  have RB := Lib.hid (show r < 65536 by omega)
                  have ST := Lib.hid (show vl (T.set k r) + 65536 ^ (k + 1) * q = vl t by rw [hr, hq]; exact Zem T k cy V (vl t) (by rw [SL.out]; exact hlk) (by rw [hV, hx]) SV.out)
                  have cyb := Lib.hid hcy
                  clear hx hxb hV hr hq hcy
                  go_wp2_with fail
                  clear eV er eq er' eq'
                  go_roundw
                  case rel => exact ⟨k + 1, q, T.set k r, by omega, by go_num, rfl, QB.out, by rw [List.length_set]; exact SL.out, fun p hp => by
                      by_cases e : k = p
                      · subst e; rw [Z46 _ _ _ (by rw [SL.out]; exact hlk)]; exact RB.out
                      · rw [getD_set_ne _ _ _ _ e]; exact SS.out p (by omega),
                    fun p hp => by rw [getD_set_ne _ _ _ _ (by omega)]; exact SR.out p (by omega), ST.out, by rw [← Z0t]; exact BX.out.set_ k _, BY.out.setCell (p := ⟨g2, k, none⟩) (Nat.le_refl _) _⟩
                  case measure => simp [intOf]; omega
                · have HK := Lib.hid (show k = 16 by omega)
                  have DT := Lib.hid (show Dg T from Dg.of_get fun p hp => SS.out p (by rw [HK.out, ← SL.out]; exact hp))
                  obtain ⟨x, hx⟩ : ∃ x, x = T.getD 0 0 := ⟨_, rfl⟩
                  have c1 := Z0u BX.out (k := 0) (by rw [SL.out]; decide)
                  rw [← hx] at c1
                  have f1 := BX.out.frozen 0
                  have hxb : x < 65536 := by rw [hx]; exact DT.out.get 0
                  obtain ⟨z, hz⟩ : ∃ z, z = 38 * cy := ⟨_, rfl⟩
                  obtain ⟨v, hv⟩ : ∃ v, v = x + z := ⟨_, rfl⟩
                  have ez : IntKind.u64.wrap ((38 : Int) * (cy : Int)) = (z : Int) := by rw [IntKind.wrap_u64]; omega
                  have ev : IntKind.u64.wrap ((x : Int) + (z : Int)) = (v : Int) := by rw [IntKind.wrap_u64]; omega
                  have PE := Lib.hid (show vl (T.set 0 v) % pp = vl t % pp ∧ (0 < cy → vl (T.set 0 v) < vl t) by
                    have := Zeu T k cy (vl t) HK.out SL.out SV.out
                    rwa [← hx, ← hz, ← hv] at this)
                  have VB := Lib.hid (show v ≤ 8796093022208 by omega)
                  have VZ := Lib.hid (show cy = 0 → T.set 0 v = T by
                    intro e
                    have h := Zi2 T (by rw [SL.out]; decide)
                    have hv0 : v = T.getD 0 0 + 38 * 0 := by omega
                    rw [hv0]; exact h)
                  have CB := Lib.hid hcy
                  clear hx hxb hz hv hcy
                  go_wp2_with fail
                  clear ez ev
                  go_roundg (gp - 1)
                  case rel => exact ⟨cy, T.set 0 v, rfl, by rw [List.length_set]; exact SL.out, Mx.set (fun y hy => by have := DT.out y hy; omega) _ _ VB.out, by rw [PE.out.1]; exact TV.out, fun h => by rw [VZ.out h]; exact DT.out, by
                      have h1 := TN2.out
                      split
                      · omega
                      · have := PE.out.2 (by omega)
                        omega, CB.out, by rw [← Z0t]; exact BX.out.set_ 0 _, BY.out.setCell (p := ⟨g2, 0, none⟩) (Nat.le_refl _) _⟩
                  case measure => have := TN2.out; omega
            · obtain rfl : cy = 0 := by omega
              have WP := Lib.hid (show Below wo.heap.size wo wp from D2.out.trans (by have := HG2.out; subst this; exact BU.out))
              have DT := Lib.hid (TD.out rfl)
              have SL2 := Lib.hid (Z32 BT.out TL.out)
              clear h0 hcy
              go_wp2_with fail
              (with_reducible refine (Z1u _ 16 16 t _ (by decide) (Nat.le_refl _) DT.out SL2.out).mono ?_)
              rintro e w5 ⟨A5, k5, c5, rfl, h51, h52, h53⟩
              have T5 := Lib.hid h51
              have K5 := Lib.hid (show k5 ≤ 1000 by
                rw [← Z09 h51]
                have := Z3z t DT.out
                rw [TL.out] at this
                exact Nat.le_trans (Z1c this) (by decide))
              have W5 := Lib.hid (Z0g WX.out (Nat.le_refl _) (Z0g WP.out (Nat.le_refl _) h53))
              clear h51 h53
              go_wp2_with fail
              (with_reducible refine (Zaj A5 k5 c5 (vl t) w5 K5.out h52 T5.out).mono ?_)
              intro e w6 h6
              have R6 := Lib.hid (h6.of TV.out W5.out)
              clear h6
              obtain ⟨A6, k6, c6, rfl, h3, h4, h5⟩ := R6.out
              have R7 := Lib.hid (show RetN (a * b % pp) w (.returned (.slice A6 k6 c6)) w6 from R6.out)
              clear R6 h3 h4 h5
              go_wp2
              go_ret
              exact R7.out
end Go.Proofs.YtjimhjfjfpeojaaGreatDoor.Fd
