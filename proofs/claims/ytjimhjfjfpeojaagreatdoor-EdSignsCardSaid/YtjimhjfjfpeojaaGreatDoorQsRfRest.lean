/- Joined texts. -/
import Derived.Test.YtjimhjfjfpeojaaGreatDoorQsRaB
set_option linter.unusedVariables false
namespace Go.Proofs.YtjimhjfjfpeojaaGreatDoor.Fd
open Go.RowKit Go.Proofs.YtjimhjfjfpeojaaGreatDoor.Gn Go.Deep
def Lq:Nat:=7237005577332262213973186563042994240857116359379907606001950938285454250989
theorem Lq_eq:Lq=7237005577332262213973186563042994240857116359379907606001950938285454250989:=rfl
theorem Lq_pos:0 < Lq:=by decide
attribute [irreducible] Lq
def lql:List Nat:=[54253,23797,25370,22546,40150,41719,63966,5342,0,0,0,0,0,0,0,4096]
theorem lql_vl:vl lql=Lq:=by rw[Lq_eq];decide +kernel
theorem dg_Lq:dg Lq=lql:=by rw[←lql_vl];exact dg_vl lql (by unfold Dg lql;decide) (by unfold Tr lql;decide)
theorem lq_len:(dg Lq).length≤16:=by rw[dg_Lq];exact Nat.le_refl _
theorem L_any(w:World):Calls Tryz.prog 40 #[] w (RetN Lq w):=by
 have B:=Lib.hid (Bl.new_ w 24 (nl lql).toArray)
 have D:=Lib.hid ((Below.refl w.heap.size w).alloc (Nat.le_refl _) (.cells (nl lql).toArray 24))
 have HE:=Lib.hid dg_Lq
 go_enter Tryz.func40,Tryz.ntmps40
 go_wp2
 go_ret
 exact⟨_,16,16,rfl,by rw[HE.out];exact nl_sl B.out rfl,Nat.le_refl _,D.out⟩
theorem dig_bit(a i p:Nat)(hp:p < 16):a / 65536 ^ i%65536 / 2 ^ p%2=a / (65536 ^ i*2 ^ p)%2:=by
 rw[←Nat.div_div_eq_div_mul]
 generalize a / 65536 ^ i=q
 have:(65536:Nat)=2 ^ p*2 ^ (16 - p):=by rw[←Nat.pow_add,show p+(16 - p)=16 by omega]
 rw[this,Nat.mod_mul_right_div_self]
 obtain⟨s,hs⟩:∃s,16 - p=s+1:=⟨16 - p - 1,by omega⟩
 rw[hs,Nat.pow_succ,Nat.mod_mul_left_mod]
theorem rest_half(a C p:Nat):a / (C*2 ^ p)=2*(a / (C*2 ^ (p+1)))+a / (C*2 ^ p)%2:=by
 rw[Nat.pow_succ,←Nat.mul_assoc,←Nat.div_div_eq_div_mul a (C*2 ^ p) 2];omega
theorem rest_keep(q o b:Nat)(ho:o=q%Lq)(h:o+o+b < Lq):o+o+b=(2*q+b)%Lq:=by
 have e:=Nat.mod_add_div q Lq
 have:2*q+b=o+o+b+Lq*(2*(q / Lq)):=by rw[Nat.mul_left_comm,ho];omega
 rw[this,Nat.add_mul_mod_self_left,Nat.mod_eq_of_lt h]
theorem rest_sub(q o b:Nat)(ho:o=q%Lq)(hb:b≤1)(h:Lq≤o+o+b):o+o+b - Lq=(2*q+b)%Lq:=by
 have e:=Nat.mod_add_div q Lq
 have hl:o < Lq:=by rw[ho];exact Nat.mod_lt _ Lq_pos
 have:2*q+b=(o+o+b - Lq)+Lq*(2*(q / Lq)+1):=by rw[Nat.mul_add,Nat.mul_one,Nat.mul_left_comm,ho] at *;omega
 rw[this,Nat.add_mul_mod_self_left,Nat.mod_eq_of_lt (by omega)]
theorem rest_next(a i:Nat):a / (65536 ^ i*2 ^ 16)=a / 65536 ^ (i+1):=by rw[Nat.pow_succ 65536 i]
theorem len_lq{x:Nat}(h:x < Lq):(dg x).length≤16:=Nat.le_trans (dg_len_mono (Nat.le_of_lt h)) lq_len
def RsO(a n:Nat)(w0:World)(o i:Value)(wr:World):Prop :=
 ∃(j k c:Nat) (A:Option Addr),j≤n∧i=.int .i64 ((j:Int) - 1)∧o=.slice A k c∧Sl wr A k (nl (dg (a / 65536 ^ j%Lq)))∧k≤c∧Below w0.heap.size w0 wr
def RsI(a i:Nat)(w0:World)(o x:Value)(wr:World):Prop :=
 ∃(t k c:Nat) (A:Option Addr),t≤16∧x=.int .i64 ((t:Int) - 1)∧o=.slice A k c∧Sl wr A k (nl (dg (a / (65536 ^ i*2 ^ t)%Lq)))∧k≤c∧Below w0.heap.size w0 wr
set_option maxHeartbeats 8000000 in
set_option maxRecDepth 100000 in
theorem Rest_any (A : Option Addr) (n c : Nat) (a : Nat) (w : World) (hn : n ≤ 1000) (ha : Sl w A n (nl (dg a))) :
    Calls Tryz.prog 138 #[.slice A n c] w (RetN (a % Lq) w) := by
  have SA := Lib.hid ha
  have HN := Lib.hid (sl_len ha)
  have R0 := Lib.hid (show RsO a n w (.slice none 0 0) (.int .i64 ((n : Int) - 1)) w from ⟨n, 0, 0, none, Nat.le_refl _, rfl, rfl, by
    rw [Nat.div_eq_of_lt ((dg_len a n).1 (by rw [sl_len ha]; exact Nat.le_refl _)), Nat.zero_mod, dg_zero]; exact Sl.nil_ _ _, Nat.le_refl _, Below.refl _ _⟩)
  clear ha
  go_enter Tryz.func138, Tryz.ntmps138
  go_wp2_with fail
  go_loopw [3, 4] (fun o i wr => RsO a n w o i wr) (fun _ i _ => (intOf i + 1).toNat)
  case atStart => exact R0.out
  case round =>
    clear R0
    obtain ⟨wq, rfl⟩ : ∃ wq : World, wq = wr := ⟨_, rfl⟩
    obtain ⟨j, k, c', A', hj, rfl, rfl, hsl, hkc, hbw⟩ := hrel
    have S0 := Lib.hid hsl
    have W0 := Lib.hid hbw
    clear hsl hbw
    rcases j with _ | i
    · have S1 := Lib.hid (show Sl wq A' k (nl (dg (a % Lq))) by
        have := S0.out
        rwa [Nat.pow_zero, Nat.div_one] at this)
      go_wp2_with fail
      go_ret
      exact ⟨A', k, c', rfl, S1.out, hkc, W0.out⟩
    · have ei : (((i + 1 : Nat) : Int) - 1) = (i : Int) := by omega
      rw [ei]
      clear ei
      have i0 : (0 : Int) ≤ (i : Int) := by omega
      have I0 := Lib.hid (show RsI a i w (.slice A' k c') (.int .i64 15) wq from ⟨16, k, c', A', Nat.le_refl _, rfl, rfl, by rw [rest_next]; exact S0.out, hkc, W0.out⟩)
      go_wp2_with fail
      go_loopw [3, 5] (fun o x wx => RsI a i w o x wx) (fun _ x _ => (intOf x + 1).toNat)
      case atStart => exact I0.out
      case round =>
        clear I0
        obtain ⟨t, k, c', A', ht, rfl, rfl, hsl, hkc, hbw⟩ := hrel
        have S1 := Lib.hid hsl
        have W1 := Lib.hid hbw
        clear hsl hbw
        rcases t with _ | p
        · have S2 := Lib.hid (show Sl wr A' k (nl (dg (a / 65536 ^ i % Lq))) by
            have := S1.out
            rwa [Nat.pow_zero, Nat.mul_one] at this)
          go_wp2_with fail
          go_roundw
          case rel => exact ⟨i, k, c', A', by omega, rfl, rfl, S2.out, hkc, W1.out⟩
          case measure => simp [intOf] <;> omega
        · have e1 : (((p + 1 : Nat) : Int) - 1) = (p : Int) := by omega
          rw [e1]
          clear e1
          have p0 : (0 : Int) ≤ (p : Int) := by omega
          obtain ⟨q, hq⟩ : ∃ q, q = a / (65536 ^ i * 2 ^ (p + 1)) := ⟨_, rfl⟩
          obtain ⟨o, ho⟩ : ∃ o, o = q % Lq := ⟨_, rfl⟩
          rw [← hq, ← ho] at S1
          have OL := Lib.hid (show o < Lq by rw [ho]; exact Nat.mod_lt _ Lq_pos)
          have K1 := Lib.hid (show k ≤ 16 by rw [← sl_len S1.out]; exact len_lq OL.out)
          have SS := sum_any A' A' k k c' c' (dg o) (dg o) wr (by have := K1.out; omega) (by have := K1.out; omega) (dg_dg _) (dg_dg _) S1.out S1.out
          rw [vl_dg] at SS
          have SS := Lib.hid SS
          obtain ⟨bit, hbit⟩ : ∃ b, b = a / (65536 ^ i * 2 ^ p) % 2 := ⟨_, rfl⟩
          have STEP : a / (65536 ^ i * 2 ^ p) = 2 * q + bit := by rw [hq, hbit]; exact rest_half a _ p
          have KEEP := Lib.hid (show o + o + bit < Lq → o + o + bit = a / (65536 ^ i * 2 ^ p) % Lq from fun h => by rw [STEP]; exact rest_keep q o bit ho h)
          have SUB := Lib.hid (show Lq ≤ o + o + bit → o + o + bit - Lq = a / (65536 ^ i * 2 ^ p) % Lq from fun h => by rw [STEP]; exact rest_sub q o bit ho (by omega) h)
          have HBIT := Lib.hid hbit
          have b01 : bit = 0 ∨ bit = 1 := by omega
          clear hq ho STEP hbit
          go_wp2_with fail
          (with_reducible refine SS.out.mono ?_)
          rintro e w2 ⟨A2, k2, c2, rfl, h21, h22, h23⟩
          have T2 := Lib.hid h21
          have W2 := Lib.hid (bel_nx W1.out (Nat.le_refl _) h23)
          have OO := Lib.hid (show o + o < 65536 ^ 16 by
            have h1 := OL.out
            have h2 : Lq + Lq < 65536 ^ 16 := by rw [Lq_eq]; decide
            omega)
          have K2 := Lib.hid (show k2 ≤ 16 by rw [← sl_len h21]; exact dg_len' OO.out)
          obtain ⟨ad, hA, -⟩ := (SA.out.below W2.out).at_ (k := i) (by omega)
          subst hA
          obtain ⟨x, hx⟩ : ∃ x, x = (dg a).getD i 0 := ⟨_, rfl⟩
          have cx := sl_num (SA.out.below W2.out) (p := i) (by omega)
          rw [← hx] at cx
          have ep : IntKind.u64.wrap (p : Int) = (p : Int) := by rw [IntKind.wrap_u64]; omega
          have p64 : (p : Int) < 64 := by omega
          obtain ⟨y, hy⟩ : ∃ y, y = x / 2 ^ p := ⟨_, rfl⟩
          have ey : (x : Int) / 2 ^ p = (y : Int) := by rw [hy]; simp
          have eb : (y : Int) % 2 = (bit : Int) := by
            have h1 : y % 2 = bit := by rw [hy, hx, dg_get, HBIT.out]; exact dig_bit a i p (by omega)
            omega
          have inI : (i : Int) < (n : Int) := by omega
          have ex : True := trivial
          clear h21 h23 SS hx hy
          rcases b01 with rfl | rfl
          · have TY := Lib.hid (show Sl w2 A2 k2 (nl (dg (o + o + 0))) from T2.out)
            go_wp2_with fail
            (with_reducible refine (L_any _).mono ?_)
            rintro e v1 ⟨C1, m1, d1, rfl, h11, h12, h13⟩
            have TV1 := Lib.hid (TY.out.below h13)
            have WV1 := Lib.hid (bel_nx W2.out (Nat.le_refl _) h13)
            obtain ⟨b, hb⟩ : ∃ b, decide (o + o + 0 < Lq) = b := ⟨_, rfl⟩
            have LL := least_any A2 C1 k2 m1 c2 d1 (o + o + 0) Lq v1 (by have := K2.out; omega) (by rw [← sl_len h11]; exact Nat.le_trans lq_len (by decide)) TV1.out h11
            rw [hb] at LL
            have LL := Lib.hid LL
            have HB := Lib.hid hb
            clear h11 h13 hb
            go_wp2_with fail
            (with_reducible refine LL.out.mono ?_)
            rintro e v2 ⟨rfl, hv2⟩
            have TV2 := Lib.hid (TV1.out.below hv2)
            have WV2 := Lib.hid (bel_nx WV1.out (Nat.le_refl _) hv2)
            clear hv2 LL TV1 WV1
            cases b
            · have HGE := Lib.hid (show ¬ o + o + 0 < Lq from of_decide_eq_false HB.out)
              go_wp2_with fail
              (with_reducible refine (L_any _).mono ?_)
              rintro e v3 ⟨C3, m3, d3, rfl, h31, h32, h33⟩
              have WV3 := Lib.hid (bel_nx WV2.out (Nat.le_refl _) h33)
              have MM := minus_any A2 C3 k2 m3 c2 d3 (dg (o + o + 0)) (dg Lq) v3 (by have := K2.out; omega) (by
                have h1 := dg_len_mono (a := Lq) (b := o + o + 0) (by have := HGE.out; omega)
                rw [sl_len h31, sl_len TV2.out] at h1
                exact h1) (dg_dg _) (dg_dg _) (by rw [vl_dg, vl_dg]; have := HGE.out; omega) (TV2.out.below h33) h31
              rw [vl_dg, vl_dg] at MM
              have MM := Lib.hid MM
              clear h31 h33
              go_wp2_with fail
              (with_reducible refine MM.out.mono ?_)
              rintro e v4 ⟨C4, m4, d4, rfl, h41, h42, h43⟩
              have TV4 := Lib.hid h41
              have WV4 := Lib.hid (bel_nx WV3.out (Nat.le_refl _) h43)
              clear h41 h43 MM
              go_wp2_with fail
              clear eb ey ex ep
              go_roundw
              case rel => exact ⟨p, m4, d4, C4, by omega, rfl, rfl, by rw [← SUB.out (by have := HGE.out; omega)]; exact TV4.out, h42, WV4.out⟩
              case measure => simp [intOf] <;> omega
            · have HLT := Lib.hid (show o + o + 0 < Lq from of_decide_eq_true HB.out)
              go_wp2_with fail
              clear eb ey ex ep
              go_roundw
              case rel => exact ⟨p, k2, c2, A2, by omega, rfl, rfl, by rw [← KEEP.out HLT.out]; exact TV2.out, h22, WV2.out⟩
              case measure => simp [intOf] <;> omega
          · have a3 := (Below.refl w2.heap.size w2).alloc (Nat.le_refl _) (.cells #[.int .u64 1] 24)
            have S3 := Lib.hid (show Sl (w2.alloc (.cells #[.int .u64 1] 24)) (some ⟨w2.heap.size, 0, none⟩) 1 (nl [1]) from nl_sl (Bl.new_ w2 24 (nl [1]).toArray) rfl)
            have S1' := sum_any A2 _ k2 1 c2 1 (dg (o + o)) [1] _ (by have := K2.out; omega) (by decide) (dg_dg _) (by unfold Dg; decide) (T2.out.below a3) S3.out
            rw [vl_dg, show vl [1] = 1 from rfl] at S1'
            have S1' := Lib.hid S1'
            have W3 := Lib.hid (bel_nx W2.out (Nat.le_refl _) a3)
            clear a3 S3
            go_wp2_with fail
            (with_reducible refine S1'.out.mono ?_)
            rintro e w3 ⟨A3, k3, c3, rfl, h31', h32', h33'⟩
            have TY := Lib.hid h31'
            have W4 := Lib.hid (W3.out.trans (h33'.mono W3.out.size))
            have K3 := Lib.hid (show k3 ≤ 17 by rw [← sl_len h31']; refine dg_len' ?_; have := OO.out; rw [Nat.pow_succ]; omega)
            clear h31' h33' S1'
            go_wp2_with fail
            (with_reducible refine (L_any _).mono ?_)
            rintro e v1 ⟨C1, m1, d1, rfl, h11, h12, h13⟩
            have TV1 := Lib.hid (TY.out.below h13)
            have WV1 := Lib.hid (bel_nx W4.out (Nat.le_refl _) h13)
            obtain ⟨b, hb⟩ : ∃ b, decide (o + o + 1 < Lq) = b := ⟨_, rfl⟩
            have LL := least_any A3 C1 k3 m1 c3 d1 (o + o + 1) Lq v1 (by have := K3.out; omega) (by rw [← sl_len h11]; exact Nat.le_trans lq_len (by decide)) TV1.out h11
            rw [hb] at LL
            have LL := Lib.hid LL
            have HB := Lib.hid hb
            clear h11 h13 hb
            go_wp2_with fail
            (with_reducible refine LL.out.mono ?_)
            rintro e v2 ⟨rfl, hv2⟩
            have TV2 := Lib.hid (TV1.out.below hv2)
            have WV2 := Lib.hid (bel_nx WV1.out (Nat.le_refl _) hv2)
            clear hv2 LL TV1 WV1
            cases b
            · have HGE := Lib.hid (show ¬ o + o + 1 < Lq from of_decide_eq_false HB.out)
              go_wp2_with fail
              (with_reducible refine (L_any _).mono ?_)
              rintro e v3 ⟨C3, m3, d3, rfl, h31, h32, h33⟩
              have WV3 := Lib.hid (bel_nx WV2.out (Nat.le_refl _) h33)
              have MM := minus_any A3 C3 k3 m3 c3 d3 (dg (o + o + 1)) (dg Lq) v3 (by have := K3.out; omega) (by
                have h1 := dg_len_mono (a := Lq) (b := o + o + 1) (by have := HGE.out; omega)
                rw [sl_len h31, sl_len TV2.out] at h1
                exact h1) (dg_dg _) (dg_dg _) (by rw [vl_dg, vl_dg]; have := HGE.out; omega) (TV2.out.below h33) h31
              rw [vl_dg, vl_dg] at MM
              have MM := Lib.hid MM
              clear h31 h33
              go_wp2_with fail
              (with_reducible refine MM.out.mono ?_)
              rintro e v4 ⟨C4, m4, d4, rfl, h41, h42, h43⟩
              have TV4 := Lib.hid h41
              have WV4 := Lib.hid (bel_nx WV3.out (Nat.le_refl _) h43)
              clear h41 h43 MM
              go_wp2_with fail
              clear eb ey ex ep
              go_roundw
              case rel => exact ⟨p, m4, d4, C4, by omega, rfl, rfl, by rw [← SUB.out (by have := HGE.out; omega)]; exact TV4.out, h42, WV4.out⟩
              case measure => simp [intOf] <;> omega
            · have HLT := Lib.hid (show o + o + 1 < Lq from of_decide_eq_true HB.out)
              go_wp2_with fail
              clear eb ey ex ep
              go_roundw
              case rel => exact ⟨p, k3, c3, A3, by omega, rfl, rfl, by rw [← KEEP.out HLT.out]; exact TV2.out, h32', WV2.out⟩
              case measure => simp [intOf] <;> omega
end Go.Proofs.YtjimhjfjfpeojaaGreatDoor.Fd
