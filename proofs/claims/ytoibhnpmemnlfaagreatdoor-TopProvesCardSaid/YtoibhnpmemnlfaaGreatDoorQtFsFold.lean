/- Joined texts. -/
import Derived.Test.YtoibhnpmemnlfaaGreatDoorQtFsPush
set_option linter.unusedVariables false
namespace Go.Proofs.YtoibhnpmemnlfaaGreatDoor.Fd
open Go.RowKit Go.Proofs.YtoibhnpmemnlfaaGreatDoor.Gn Go.Deep
theorem vb_split(B:Nat)(l:List Nat)(k:Nat):vb B l=vb B (l.take k)+B ^ k*vb B (l.drop k):=by
 induction l generalizing k with
 |nil=>simp[vb_nil]
 |cons x l ih =>
  cases k with
  |zero=>simp[vb_nil]
  |succ k=>rw[List.take_succ_cons,List.drop_succ_cons,vb_cons,vb_cons,ih k,Nat.mul_add,←Nat.mul_assoc,←Nat.pow_succ',Nat.add_assoc]
theorem vb_get(B:Nat)(l:List Nat)(k:Nat)(h:Wo B l)(hB:0 < B):vb B l / B ^ k%B=l.getD k 0:=by
 have h1:vb B (l.take k) < B ^ k:=Nat.lt_of_lt_of_le (vb_lt B _ (fun x hx=>h x (List.mem_of_mem_take hx)) hB) (Nat.pow_le_pow_right hB (by rw[List.length_take];omega))
 rw[vb_split B l k,Nat.add_mul_div_left _ _ (Nat.pow_pos hB),Nat.div_eq_of_lt h1,Nat.zero_add,List.getD_eq_getElem?_getD]
 cases hk:l[k]? with
 |none=>rw[List.drop_of_length_le (by exact List.getElem?_eq_none_iff.1 hk)];simp[vb_nil]
 |some x =>
  obtain⟨hlt,he⟩:=List.getElem?_eq_some_iff.1 hk
  rw[List.drop_eq_getElem_cons hlt,he,vb_cons,Nat.add_mul_mod_self_left]
  exact Nat.mod_eq_of_lt (h x (List.mem_of_getElem? hk))
theorem half_word(B H V q m x:Nat)(hB:B=H*H)(hH:0 < H)(hx:V / B ^ q%B=x)(hm:m < 2):x / H ^ m%H=V / H ^ (2*q+m)%H:=by
 have e:B ^ q=H ^ (2*q):=by rw[hB,←Nat.pow_two,←Nat.pow_mul]
 rw[Nat.pow_add,←Nat.div_div_eq_div_mul,←e,←hx]
 generalize V / B ^ q=z
 have:m=0∨m=1:=by omega
 rcases this with rfl|rfl
 ·rw[Nat.pow_zero,Nat.div_one,Nat.div_one,hB,Nat.mod_mul_left_mod]
 ·rw[Nat.pow_one,hB,Nat.mod_mul_right_div_self,Nat.mod_mod]
theorem fold_step(V H p x:Nat)(hx:x=V / H ^ p%H):V / H ^ p=V / H ^ (p+1)*H+x:=by
 rw[Nat.pow_succ,←Nat.div_div_eq_div_mul,hx]
 have:=Nat.mod_add_div (V / H ^ p) H
 rw[Nat.mul_comm];omega
theorem fold_mod(q x H:Nat):(q%Lq*H+x)%Lq=(q*H+x)%Lq:=by
 rw[Nat.add_mod,Nat.mod_mul_mod,←Nat.add_mod]
theorem and32(x:Nat)(hx:x < 18446744073709551616):bits .and .u64 (x:Int) 4294967295=((x%4294967296:Nat):Int):=by
 have h:=bits_and_u64_nat x 4294967295 hx (by omega)
 rw[show x &&& 4294967295=x%4294967296 from Nat.and_two_pow_sub_one_eq_mod x 32] at h
 exact h
def FoRel(V g:Nat)(w0:World)(i:Value)(wr:World):Prop :=
 ∃(j a b c d:Nat),j≤16∧i=.int .i64 ((j:Int) - 1)∧Wo B64 [a,b,c,d]∧vb B64 [a,b,c,d]=V / 4294967296 ^ j%Lq∧Bl wr g 51 (nl [a,b,c,d]).toArray∧w0.grownBy wr (some g)
theorem tabl_grown{w w':World}{g:Nat}(h:TabL w)(hg:w.grownBy w' (some g))(hne:6≠g):TabL w':=by
 have ne:∀k:Nat,some g≠some (⟨6,k,none⟩:Addr).block:=fun k h=>by injection h with h;exact hne h.symm
 exact⟨(only_cell hg (p:=⟨6,0,none⟩) (cell_lt h.1) (ne 0)).trans h.1,(only_cell hg (p:=⟨6,1,none⟩) (cell_lt h.2.1) (ne 1)).trans h.2.1,(only_cell hg (p:=⟨6,2,none⟩) (cell_lt h.2.2.1) (ne 2)).trans h.2.2.1,(only_cell hg (p:=⟨6,3,none⟩) (cell_lt h.2.2.2) (ne 3)).trans h.2.2.2⟩
set_option maxHeartbeats 8000000 in
set_option maxRecDepth 100000 in
theorem folded_any (l : List Nat) (w : World) (tab : TabL w) (hl : l.length = 8) (hr : Wo B64 l) :
    Calls Tryz.prog 26 #[.agg (nl l).toArray] w (RetW (vb B64 l % Lq) w) := by
  have a0 := (((Below.refl w.heap.size w).alloc (Nat.le_refl _) (.cells (nl l).toArray 53)).alloc (by simp) (.cells (nl [0, 0, 0, 0]).toArray 51)).alloc (by simp; omega) (.cells (nl [0, 0, 0, 0]).toArray 51)
  have TB := Lib.hid (tab.below a0)
  have D1 := Lib.hid a0
  have BL0 := Lib.hid (((Bl.new_ w 53 (nl l).toArray).alloc (.cells (nl [0, 0, 0, 0]).toArray 51)).alloc (.cells (nl [0, 0, 0, 0]).toArray 51))
  have BZ := Lib.hid ((Bl.new' (w := w.alloc (.cells (nl l).toArray 53)) (g := w.heap.size + 1) 51 (nl [0, 0, 0, 0]).toArray (by simp)).alloc (.cells (nl [0, 0, 0, 0]).toArray 51))
  have BS := Lib.hid (Bl.new' (w := (w.alloc (.cells (nl l).toArray 53)).alloc (.cells (nl [0, 0, 0, 0]).toArray 51)) (g := w.heap.size + 1 + 1) 51 (nl [0, 0, 0, 0]).toArray (by simp))
  have HGO := Lib.hid (show 6 < w.heap.size from cell_lt tab.1)
  have HL := Lib.hid hl
  have HR := Lib.hid hr
  obtain ⟨V, hV⟩ : ∃ V, vb B64 l = V := ⟨_, rfl⟩
  rw [hV]
  have HV := Lib.hid hV
  have V0 := Lib.hid (show V / 4294967296 ^ 16 % Lq = 0 by
    have h1 := vb_lt B64 l hr B64_pos
    rw [hV, hl] at h1
    have h2 : B64 ^ 8 = 4294967296 ^ 16 := by rw [B64_eq]
    rw [Nat.div_eq_of_lt (by rw [← h2]; exact h1), Nat.zero_mod])
  clear tab a0 hl hr hV
  go_enter Tryz.func26, Tryz.ntmps26
  go_upto_region 2 with fail
  change Code.wp _ _ _ _ (((w.alloc (.cells (nl l).toArray 53)).alloc (.cells (nl [0, 0, 0, 0]).toArray 51)).alloc (.cells (nl [0, 0, 0, 0]).toArray 51))
  generalize ((w.alloc (.cells (nl l).toArray 53)).alloc (.cells (nl [0, 0, 0, 0]).toArray 51)).alloc (.cells (nl [0, 0, 0, 0]).toArray 51) = W2 at TB D1 BL0 BZ BS ⊢
  go_wp2_with fail
  go_loopw [4] (fun i wr => FoRel V (w.heap.size + 1 + 1) W2 i wr) (fun i _ => (intOf i + 1).toNat)
  case atStart => exact ⟨16, 0, 0, 0, 0, Nat.le_refl _, rfl, fun x hx => by simp at hx; rw [hx]; exact B64_pos, by rw [V0.out]; simp [vb_cons, vb_nil], BS.out, World.grownBy.refl _ _⟩
  case round =>
    obtain ⟨wo, rfl⟩ : ∃ wo : World, wo = wr := ⟨_, rfl⟩
    obtain ⟨j, a, b, c, d, hj, rfl, hw4, hv4, hbl, hgr⟩ := hrel
    have W4 := Lib.hid hw4
    have V4 := Lib.hid hv4
    have BX := Lib.hid hbl
    have GR := Lib.hid hgr
    have DR := Lib.hid (show Below w.heap.size w wo from D1.out.grown hgr D1.out.size (by intro x hx; injection hx with hx; omega))
    have BL := Lib.hid (BL0.out.grown hgr (by intro h; injection h with h; omega))
    have BZR := Lib.hid (BZ.out.grown hgr (by intro h; injection h with h; omega))
    have TBR := Lib.hid (tabl_grown TB.out hgr (by have := HGO.out; omega))
    clear hw4 hv4 hbl hgr
    have a0 : wo.cell? ⟨w.heap.size + 1 + 1, 0, none⟩ = some (.int .u64 (a : Int)) := BX.out.cell_ rfl
    have a1 : wo.cell? ⟨w.heap.size + 1 + 1, 1, none⟩ = some (.int .u64 (b : Int)) := BX.out.cell_ rfl
    have a2 : wo.cell? ⟨w.heap.size + 1 + 1, 2, none⟩ = some (.int .u64 (c : Int)) := BX.out.cell_ rfl
    have a3 : wo.cell? ⟨w.heap.size + 1 + 1, 3, none⟩ = some (.int .u64 (d : Int)) := BX.out.cell_ rfl
    rcases j with _ | p
    · have z0 : wo.cell? ⟨w.heap.size + 1, 0, none⟩ = some (.int .u64 0) := BZR.out.cell_ rfl
      have z1 : wo.cell? ⟨w.heap.size + 1, 1, none⟩ = some (.int .u64 0) := BZR.out.cell_ rfl
      have z2 : wo.cell? ⟨w.heap.size + 1, 2, none⟩ = some (.int .u64 0) := BZR.out.cell_ rfl
      have z3 : wo.cell? ⟨w.heap.size + 1, 3, none⟩ = some (.int .u64 0) := BZR.out.cell_ rfl
      have f0 := BZR.out.frozen 0
      have f1 := BZR.out.frozen 1
      have f2 := BZR.out.frozen 2
      have f3 := BZR.out.frozen 3
      have VV := Lib.hid (show vb B64 [a, b, c, d] = V % Lq by have := V4.out; rwa [Nat.pow_zero, Nat.div_one] at this)
      go_wp2
      refine bodyPost_ret (v := .agg #[.int .u64 (a : Int), .int .u64 (b : Int), .int .u64 (c : Int), .int .u64 (d : Int)]) ?_ rfl ⟨a, b, c, d, rfl, W4.out, VV.out, set4_below DR.out (by omega) _ _ _ _⟩
      simp [results, Tryz.results26, go_sem, z0, z1, z2, z3]
    · have ep : (((p + 1 : Nat) : Int) - 1) = (p : Int) := by omega
      rw [ep]
      clear ep
      have p0 : (0 : Int) ≤ (p : Int) := by omega
      have p16 : (p : Int) < 16 := by omega
      obtain ⟨q, hq⟩ : ∃ q, p / 2 = q := ⟨_, rfl⟩
      obtain ⟨m, hm⟩ : ∃ m, p % 2 = m := ⟨_, rfl⟩
      obtain ⟨s, hs⟩ : ∃ s, m * 32 = s := ⟨_, rfl⟩
      have e1 : (p : Int) / 2 = (q : Int) := by omega
      have e2 : (p : Int) % 2 = (m : Int) := by omega
      have e3 : (m : Int) * 32 = (s : Int) := by omega
      have q8 : (q : Int) < 8 := by omega
      have s64 : (s : Int) < 64 := by omega
      have m2 : (m : Int) < 2 := by omega
      obtain ⟨x, hx⟩ : ∃ x, x = l.getD q 0 := ⟨_, rfl⟩
      have cx := nl_cell BL.out (k := q) (by rw [HL.out]; omega)
      rw [← hx] at cx
      have xb : x < 18446744073709551616 := by
        have := HR.out.get q B64_pos
        rwa [← hx, B64_eq] at this
      obtain ⟨y, hy⟩ : ∃ y, x / 2 ^ s = y := ⟨_, rfl⟩
      have ey : (x : Int) / 2 ^ s = (y : Int) := by rw [← hy]; simp
      have yb : y < 18446744073709551616 := by rw [← hy]; exact Nat.lt_of_le_of_lt (Nat.div_le_self _ _) xb
      obtain ⟨z, hz⟩ : ∃ z, y % 4294967296 = z := ⟨_, rfl⟩
      have ez : bits .and .u64 (y : Int) 4294967295 = (z : Int) := by rw [and32 y yb, hz]
      have ZV := Lib.hid (show z = V / 4294967296 ^ p % 4294967296 by
        have h1 : V / B64 ^ q % B64 = x := by rw [hx, ← HV.out]; exact vb_get B64 l q HR.out B64_pos
        have h2 := half_word B64 4294967296 V q m x (by rw [B64_eq]) (by decide) h1 (by omega)
        have h3 : (4294967296 : Nat) ^ m = 2 ^ s := by rw [show (4294967296 : Nat) = 2 ^ 32 from rfl, ← Nat.pow_mul, ← hs, Nat.mul_comm]
        rw [h3, hy, hz, show 2 * q + m = p by omega] at h2
        exact h2)
      have ZB := Lib.hid (show z < 4294967296 by omega)
      have PP := pushed_any a b c d z wo TBR.out W4.out (by rw [V4.out]; exact Nat.mod_lt _ Lq_pos) ZB.out
      rw [V4.out, fold_mod, ← fold_step V 4294967296 p z ZV.out] at PP
      have PP := Lib.hid PP
      clear hq hm hs hx xb hy yb hz
      go_wp2_with fail
      (with_reducible refine PP.out.mono ?_)
      rintro e w5 ⟨s0, s1, s2, s3, rfl, hw5, hv5, hb5⟩
      have BX5 := Lib.hid (BX.out.below' hb5)
      have W5 := Lib.hid hw5
      have V5 := Lib.hid hv5
      have G5 := Lib.hid (only_then GR.out (hb5.mono GR.out.size))
      clear hw5 hv5 hb5 a0 a1 a2 a3 PP e1 e2 e3 q8 s64 m2 ey ez cx
      have f0 := BX5.out.frozen 0
      have f1 := BX5.out.frozen 1
      have f2 := BX5.out.frozen 2
      have f3 := BX5.out.frozen 3
      have a0 : w5.cell? ⟨w.heap.size + 1 + 1, 0, none⟩ = some (.int .u64 (a : Int)) := BX5.out.cell_ rfl
      have a1 : w5.cell? ⟨w.heap.size + 1 + 1, 1, none⟩ = some (.int .u64 (b : Int)) := BX5.out.cell_ rfl
      have a2 : w5.cell? ⟨w.heap.size + 1 + 1, 2, none⟩ = some (.int .u64 (c : Int)) := BX5.out.cell_ rfl
      have a3 : w5.cell? ⟨w.heap.size + 1 + 1, 3, none⟩ = some (.int .u64 (d : Int)) := BX5.out.cell_ rfl
      go_wp2_with fail
      go_roundw
      case rel => exact ⟨p, s0, s1, s2, s3, by omega, rfl, W5.out, V5.out, by
          have := (((BX5.out.set_ 0 (.int .u64 (s0 : Int))).set_ 1 (.int .u64 (s1 : Int))).set_ 2 (.int .u64 (s2 : Int))).set_ 3 (.int .u64 (s3 : Int))
          rwa [set4 rfl] at this, only_set (p := ⟨w.heap.size + 1 + 1, 3, none⟩) (only_set (p := ⟨w.heap.size + 1 + 1, 2, none⟩) (only_set (p := ⟨w.heap.size + 1 + 1, 1, none⟩) (only_set (p := ⟨w.heap.size + 1 + 1, 0, none⟩) G5.out (.inl rfl) _) (.inl rfl) _) (.inl rfl) _) (.inl rfl) _⟩
      case measure => simp [intOf] <;> omega
end Go.Proofs.YtoibhnpmemnlfaaGreatDoor.Fd
