/- Joined texts. -/
import Derived.Test.YtjimhjfjfpeojaaGreatDoorQvRaB
set_option maxRecDepth 100000
set_option maxHeartbeats 8000000
set_option linter.unusedVariables false
namespace Go.Proofs.YtjimhjfjfpeojaaGreatDoor.Fd
open Go.RowKit Go.Proofs.YtjimhjfjfpeojaaGreatDoor.Gn Go.Deep
def Lq:Nat:=7237005577332262213973186563042994240857116359379907606001950938285454250989
theorem Zj3:Lq=7237005577332262213973186563042994240857116359379907606001950938285454250989:=rfl
theorem Z9m:0 < Lq:=by decide
attribute [irreducible] Lq
def lql:List Nat:=[54253,23797,25370,22546,40150,41719,63966,5342,0,0,0,0,0,0,0,4096]
theorem Zqx:vl lql=Lq:=by rw[Zj3];decide +kernel
theorem Zqy:dg Lq=lql:=by rw[←Zqx];exact Zcp lql (by unfold Dg lql;decide) (by unfold Tr lql;decide)
theorem Zcf:(dg Lq).length≤16:=by rw[Zqy];exact Nat.le_refl _
theorem Zgo(w:World):Calls Tryz.prog 40 #[] w (RetN Lq w):=by
 have B:=Lib.hid (Bl.new_ w 24 (nl lql).toArray)
 have D:=Lib.hid ((Below.refl w.heap.size w).alloc (Nat.le_refl _) (.cells (nl lql).toArray 24))
 have HE:=Lib.hid Zqy
 go_enter Tryz.func40,Tryz.ntmps40
 go_wp2
 go_ret
 exact⟨_,16,16,rfl,by rw[HE.out];exact Z32 B.out rfl,Nat.le_refl _,D.out⟩
theorem Znl(a i p:Nat)(hp:p < 16):a / 65536 ^ i%65536 / 2 ^ p%2=a / (65536 ^ i*2 ^ p)%2:=by
 rw[←Nat.div_div_eq_div_mul]
 generalize a / 65536 ^ i=q
 have:(65536:Nat)=2 ^ p*2 ^ (16 - p):=by rw[←Nat.pow_add,show p+(16 - p)=16 by omega]
 rw[this,Nat.mod_mul_right_div_self]
 obtain⟨s,hs⟩:∃s,16 - p=s+1:=⟨16 - p - 1,by omega⟩
 rw[hs,Nat.pow_succ,Nat.mod_mul_left_mod]
theorem Zgp(a C p:Nat):a / (C*2 ^ p)=2*(a / (C*2 ^ (p+1)))+a / (C*2 ^ p)%2:=by
 rw[Nat.pow_succ,←Nat.mul_assoc,←Nat.div_div_eq_div_mul a (C*2 ^ p) 2];omega
theorem Zgq(q o b:Nat)(ho:o=q%Lq)(h:o+o+b < Lq):o+o+b=(2*q+b)%Lq:=by
 have e:=Nat.mod_add_div q Lq
 have:2*q+b=o+o+b+Lq*(2*(q / Lq)):=by rw[Nat.mul_left_comm,ho];omega
 rw[this,Nat.add_mul_mod_self_left,Nat.mod_eq_of_lt h]
theorem Zj4(q o b:Nat)(ho:o=q%Lq)(hb:b≤1)(h:Lq≤o+o+b):o+o+b - Lq=(2*q+b)%Lq:=by
 have e:=Nat.mod_add_div q Lq
 have hl:o < Lq:=by rw[ho];exact Nat.mod_lt _ Z9m
 have:2*q+b=(o+o+b - Lq)+Lq*(2*(q / Lq)+1):=by rw[Nat.mul_add,Nat.mul_one,Nat.mul_left_comm,ho] at *;omega
 rw[this,Nat.add_mul_mod_self_left,Nat.mod_eq_of_lt (by omega)]
theorem Zgr(a i:Nat):a / (65536 ^ i*2 ^ 16)=a / 65536 ^ (i+1):=by rw[Nat.pow_succ 65536 i]
theorem Zkm{x:Nat}(h:x < Lq):(dg x).length≤16:=Nat.le_trans (Z0y (Nat.le_of_lt h)) Zcf
def RsO(a n:Nat)(w0:World)(o i:Value)(wr:World):Prop :=
 ∃(j k c:Nat) (A:Option Addr),j≤n∧i=.int .i64 ((j:Int) - 1)∧o=.slice A k c∧Sl wr A k (nl (dg (a / 65536 ^ j%Lq)))∧k≤c∧Below w0.heap.size w0 wr
def RsI(a i:Nat)(w0:World)(o x:Value)(wr:World):Prop :=
 ∃(t k c:Nat) (A:Option Addr),t≤16∧x=.int .i64 ((t:Int) - 1)∧o=.slice A k c∧Sl wr A k (nl (dg (a / (65536 ^ i*2 ^ t)%Lq)))∧k≤c∧Below w0.heap.size w0 wr
theorem Zj5 (A : Option Addr) (n c : Nat) (a : Nat) (w : World) (hn : n ≤ 1000) (ha : Sl w A n (nl (dg a))) :
    Calls Tryz.prog 138 #[.slice A n c] w (RetN (a % Lq) w) := by
  have SA := Lib.hid ha
  have HN := Lib.hid (Z09 ha)
  have R0 := Lib.hid (show RsO a n w (.slice none 0 0) (.int .i64 ((n : Int) - 1)) w from ⟨n, 0, 0, none, Nat.le_refl _, rfl, rfl, by
    rw [Nat.div_eq_of_lt ((dg_len a n).1 (by rw [Z09 ha]; exact Nat.le_refl _)), Nat.zero_mod, Z0r]; exact Sl.nil_ _ _, Nat.le_refl _, Below.refl _ _⟩)
  clear ha
  go_enter Tryz.func138, Tryz.ntmps138
  go_wp2_with fail
  go_loopw [3, 4] (fun o i wr => RsO a n w o i wr) (fun _ i _ => (intOf i + 1).toNat)
  case atStart => exact R0.out
  case round =>
    clear R0
    obtain ⟨wq, rfl⟩ : ∃ wq : World, wq = wr := ⟨_, rfl⟩
    obtain ⟨j, k, c', A', hj, rfl, rfl, hsl, hkc, hbw⟩ := hrel
    have S0 := Lib.hid hsl
    have W0 := Lib.hid hbw
    clear hsl hbw
    rcases j with _ | i
    · have S1 := Lib.hid (show Sl wq A' k (nl (dg (a % Lq))) by
        have := S0.out
        rwa [Nat.pow_zero, Nat.div_one] at this)
      go_wp2_with fail
      go_ret
      exact ⟨A', k, c', rfl, S1.out, hkc, W0.out⟩
    · have ei : (((i + 1 : Nat) : Int) - 1) = (i : Int) := by omega
      rw [ei]
      clear ei
      have i0 : (0 : Int) ≤ (i : Int) := by omega
      have I0 := Lib.hid (show RsI a i w (.slice A' k c') (.int .i64 15) wq from ⟨16, k, c', A', Nat.le_refl _, rfl, rfl, by rw [Zgr]; exact S0.out, hkc, W0.out⟩)
      go_wp2_with fail
      go_loopw [3, 5] (fun o x wx => RsI a i w o x wx) (fun _ x _ => (intOf x + 1).toNat)
      case atStart => exact I0.out
      case round =>
        clear I0
        obtain ⟨t, k, c', A', ht, rfl, rfl, hsl, hkc, hbw⟩ := hrel
        have S1 := Lib.hid hsl
        have W1 := Lib.hid hbw
        clear hsl hbw
        rcases t with _ | p
        · have S2 := Lib.hid (show Sl wr A' k (nl (dg (a / 65536 ^ i % Lq))) by
            have := S1.out
            rwa [Nat.pow_zero, Nat.mul_one] at this)
          go_wp2_with fail
          go_roundw
          case rel => exact ⟨i, k, c', A', by omega, rfl, rfl, S2.out, hkc, W1.out⟩
          case measure => simp [intOf] <;> omega
        · have e1 : (((p + 1 : Nat) : Int) - 1) = (p : Int) := by omega
          rw [e1]
          clear e1
          have p0 : (0 : Int) ≤ (p : Int) := by omega
          obtain ⟨q, hq⟩ : ∃ q, q = a / (65536 ^ i * 2 ^ (p + 1)) := ⟨_, rfl⟩
          obtain ⟨o, ho⟩ : ∃ o, o = q % Lq := ⟨_, rfl⟩
          rw [← hq, ← ho] at S1
          have OL := Lib.hid (show o < Lq by rw [ho]; exact Nat.mod_lt _ Z9m)
          have K1 := Lib.hid (show k ≤ 16 by rw [← Z09 S1.out]; exact Zkm OL.out)
          have SS := Z48 A' A' k k c' c' (dg o) (dg o) wr (by have := K1.out; omega) (by have := K1.out; omega) (Z0o _) (Z0o _) S1.out S1.out
          rw [Z0l] at SS
          have SS := Lib.hid SS
          obtain ⟨bit, hbit⟩ : ∃ b, b = a / (65536 ^ i * 2 ^ p) % 2 := ⟨_, rfl⟩
          have STEP : a / (65536 ^ i * 2 ^ p) = 2 * q + bit := by rw [hq, hbit]; exact Zgp a _ p
          have KEEP := Lib.hid (show o + o + bit < Lq → o + o + bit = a / (65536 ^ i * 2 ^ p) % Lq from fun h => by rw [STEP]; exact Zgq q o bit ho h)
          have SUB := Lib.hid (show Lq ≤ o + o + bit → o + o + bit - Lq = a / (65536 ^ i * 2 ^ p) % Lq from fun h => by rw [STEP]; exact Zj4 q o bit ho (by omega) h)
          have HBIT := Lib.hid hbit
          have b01 : bit = 0 ∨ bit = 1 := by omega
          clear hq ho STEP hbit
          go_wp2_with fail
          (with_reducible refine SS.out.mono ?_)
          rintro e w2 ⟨A2, k2, c2, rfl, h21, h22, h23⟩
          have T2 := Lib.hid h21
          have W2 := Lib.hid (Z0g W1.out (Nat.le_refl _) h23)
          have OO := Lib.hid (show o + o < 65536 ^ 16 by
            have h1 := OL.out
            have h2 : Lq + Lq < 65536 ^ 16 := by rw [Zj3]; decide
            omega)
          have K2 := Lib.hid (show k2 ≤ 16 by rw [← Z09 h21]; exact Z1c OO.out)
          obtain ⟨ad, hA, -⟩ := (SA.out.below W2.out).at_ (k := i) (by omega)
          subst hA
          obtain ⟨x, hx⟩ : ∃ x, x = (dg a).getD i 0 := ⟨_, rfl⟩
          have cx := sl_num (SA.out.below W2.out) (p := i) (by omega)
          rw [← hx] at cx
          have ep : IntKind.u64.wrap (p : Int) = (p : Int) := by rw [IntKind.wrap_u64]; omega
          have p64 : (p : Int) < 64 := by omega
          obtain ⟨y, hy⟩ : ∃ y, y = x / 2 ^ p := ⟨_, rfl⟩
          have ey : (x : Int) / 2 ^ p = (y : Int) := by rw [hy]; simp
          have eb : (y : Int) % 2 = (bit : Int) := by
            have h1 : y % 2 = bit := by rw [hy, hx, Z73, HBIT.out]; exact Znl a i p (by omega)
            omega
          have inI : (i : Int) < (n : Int) := by omega
          have ex : True := trivial
          clear h21 h23 SS hx hy
          rcases b01 with rfl | rfl
          · have TY := Lib.hid (show Sl w2 A2 k2 (nl (dg (o + o + 0))) from T2.out)
            go_wp2_with fail
            (with_reducible refine (Zgo _).mono ?_)
            rintro e v1 ⟨C1, m1, d1, rfl, h11, h12, h13⟩
            have TV1 := Lib.hid (TY.out.below h13)
            have WV1 := Lib.hid (Z0g W2.out (Nat.le_refl _) h13)
            obtain ⟨b, hb⟩ : ∃ b, decide (o + o + 0 < Lq) = b := ⟨_, rfl⟩
            have LL := Z26 A2 C1 k2 m1 c2 d1 (o + o + 0) Lq v1 (by have := K2.out; omega) (by rw [← Z09 h11]; exact Nat.le_trans Zcf (by decide)) TV1.out h11
            rw [hb] at LL
            have LL := Lib.hid LL
            have HB := Lib.hid hb
            clear h11 h13 hb
            go_wp2_with fail
            (with_reducible refine LL.out.mono ?_)
            rintro e v2 ⟨rfl, hv2⟩
            have TV2 := Lib.hid (TV1.out.below hv2)
            have WV2 := Lib.hid (Z0g WV1.out (Nat.le_refl _) hv2)
            clear hv2 LL TV1 WV1
            cases b
            · have HGE := Lib.hid (show ¬ o + o + 0 < Lq from of_decide_eq_false HB.out)
              go_wp2_with fail
              (with_reducible refine (Zgo _).mono ?_)
              rintro e v3 ⟨C3, m3, d3, rfl, h31, h32, h33⟩
              have WV3 := Lib.hid (Z0g WV2.out (Nat.le_refl _) h33)
              have MM := Z2n A2 C3 k2 m3 c2 d3 (dg (o + o + 0)) (dg Lq) v3 (by have := K2.out; omega) (by
                have h1 := Z0y (a := Lq) (b := o + o + 0) (by have := HGE.out; omega)
                rw [Z09 h31, Z09 TV2.out] at h1
                exact h1) (Z0o _) (Z0o _) (by rw [Z0l, Z0l]; have := HGE.out; omega) (TV2.out.below h33) h31
              rw [Z0l, Z0l] at MM
              have MM := Lib.hid MM
              clear h31 h33
              go_wp2_with fail
              (with_reducible refine MM.out.mono ?_)
              rintro e v4 ⟨C4, m4, d4, rfl, h41, h42, h43⟩
              have TV4 := Lib.hid h41
              have WV4 := Lib.hid (Z0g WV3.out (Nat.le_refl _) h43)
              clear h41 h43 MM
              go_wp2_with fail
              clear eb ey ex ep
              go_roundw
              case rel => exact ⟨p, m4, d4, C4, by omega, rfl, rfl, by rw [← SUB.out (by have := HGE.out; omega)]; exact TV4.out, h42, WV4.out⟩
              case measure => simp [intOf] <;> omega
            · have HLT := Lib.hid (show o + o + 0 < Lq from of_decide_eq_true HB.out)
              go_wp2_with fail
              clear eb ey ex ep
              go_roundw
              case rel => exact ⟨p, k2, c2, A2, by omega, rfl, rfl, by rw [← KEEP.out HLT.out]; exact TV2.out, h22, WV2.out⟩
              case measure => simp [intOf] <;> omega
          · have a3 := (Below.refl w2.heap.size w2).alloc (Nat.le_refl _) (.cells #[.int .u64 1] 24)
            have S3 := Lib.hid (show Sl (w2.alloc (.cells #[.int .u64 1] 24)) (some ⟨w2.heap.size, 0, none⟩) 1 (nl [1]) from Z32 (Bl.new_ w2 24 (nl [1]).toArray) rfl)
            have S1' := Z48 A2 _ k2 1 c2 1 (dg (o + o)) [1] _ (by have := K2.out; omega) (by decide) (Z0o _) (by unfold Dg; decide) (T2.out.below a3) S3.out
            rw [Z0l, show vl [1] = 1 from rfl] at S1'
            have S1' := Lib.hid S1'
            have W3 := Lib.hid (Z0g W2.out (Nat.le_refl _) a3)
            clear a3 S3
            go_wp2_with fail
            (with_reducible refine S1'.out.mono ?_)
            rintro e w3 ⟨A3, k3, c3, rfl, h31', h32', h33'⟩
            have TY := Lib.hid h31'
            have W4 := Lib.hid (W3.out.trans (h33'.mono W3.out.size))
            have K3 := Lib.hid (show k3 ≤ 17 by rw [← Z09 h31']; refine Z1c ?_; have := OO.out; rw [Nat.pow_succ]; omega)
            clear h31' h33' S1'
            go_wp2_with fail
            (with_reducible refine (Zgo _).mono ?_)
            rintro e v1 ⟨C1, m1, d1, rfl, h11, h12, h13⟩
            have TV1 := Lib.hid (TY.out.below h13)
            have WV1 := Lib.hid (Z0g W4.out (Nat.le_refl _) h13)
            obtain ⟨b, hb⟩ : ∃ b, decide (o + o + 1 < Lq) = b := ⟨_, rfl⟩
            have LL := Z26 A3 C1 k3 m1 c3 d1 (o + o + 1) Lq v1 (by have := K3.out; omega) (by rw [← Z09 h11]; exact Nat.le_trans Zcf (by decide)) TV1.out h11
            rw [hb] at LL
            have LL := Lib.hid LL
            have HB := Lib.hid hb
            clear h11 h13 hb
            go_wp2_with fail
            (with_reducible refine LL.out.mono ?_)
            rintro e v2 ⟨rfl, hv2⟩
            have TV2 := Lib.hid (TV1.out.below hv2)
            have WV2 := Lib.hid (Z0g WV1.out (Nat.le_refl _) hv2)
            clear hv2 LL TV1 WV1
            cases b
            · have HGE := Lib.hid (show ¬ o + o + 1 < Lq from of_decide_eq_false HB.out)
              go_wp2_with fail
              (with_reducible refine (Zgo _).mono ?_)
              rintro e v3 ⟨C3, m3, d3, rfl, h31, h32, h33⟩
              have WV3 := Lib.hid (Z0g WV2.out (Nat.le_refl _) h33)
              have MM := Z2n A3 C3 k3 m3 c3 d3 (dg (o + o + 1)) (dg Lq) v3 (by have := K3.out; omega) (by
                have h1 := Z0y (a := Lq) (b := o + o + 1) (by have := HGE.out; omega)
                rw [Z09 h31, Z09 TV2.out] at h1
                exact h1) (Z0o _) (Z0o _) (by rw [Z0l, Z0l]; have := HGE.out; omega) (TV2.out.below h33) h31
              rw [Z0l, Z0l] at MM
              have MM := Lib.hid MM
              clear h31 h33
              go_wp2_with fail
              (with_reducible refine MM.out.mono ?_)
              rintro e v4 ⟨C4, m4, d4, rfl, h41, h42, h43⟩
              have TV4 := Lib.hid h41
              have WV4 := Lib.hid (Z0g WV3.out (Nat.le_refl _) h43)
              clear h41 h43 MM
              go_wp2_with fail
              clear eb ey ex ep
              go_roundw
              case rel => exact ⟨p, m4, d4, C4, by omega, rfl, rfl, by rw [← SUB.out (by have := HGE.out; omega)]; exact TV4.out, h42, WV4.out⟩
              case measure => simp [intOf] <;> omega
            · have HLT := Lib.hid (show o + o + 1 < Lq from of_decide_eq_true HB.out)
              go_wp2_with fail
              clear eb ey ex ep
              go_roundw
              case rel => exact ⟨p, k3, c3, A3, by omega, rfl, rfl, by rw [← KEEP.out HLT.out]; exact TV2.out, h32', WV2.out⟩
              case measure => simp [intOf] <;> omega
def vb(B:Nat)(l:List Nat):Nat:=l.foldr (fun x a=>x+B*a) 0
theorem Z3m(B:Nat):vb B []=0:=rfl
theorem Z2b(B x:Nat)(l:List Nat):vb B (x :: l)=x+B*vb B l:=rfl
theorem Z12(B:Nat)(l:List Nat)(k:Nat):vb B (l.take (k+1))=vb B (l.take k)+B ^ k*l.getD k 0:=by
 induction l generalizing k with
 |nil=>simp[Z3m]
 |cons x l ih =>
  cases k with
  |zero=>simp[Z2b,Z3m]
  |succ k=>rw[List.take_succ_cons,List.take_succ_cons,Z2b,Z2b,ih,List.getD_cons_succ,Nat.mul_add,←Nat.mul_assoc,←Nat.pow_succ',Nat.add_assoc]
theorem Z4c(B:Nat)(o:List Nat)(k y:Nat)(h:k < o.length):vb B ((o.set k y).take (k+1))=vb B (o.take k)+B ^ k*y:=by
 rw[Z12,Z46 _ _ _ h,List.take_set_of_le (Nat.le_refl _)]
def Wo(B:Nat)(l:List Nat):Prop:=∀x∈l,x < B
theorem Wo.get{B:Nat}{a:List Nat}(h:Wo B a)(k:Nat)(hB:0 < B):a.getD k 0 < B:=by
 rw[List.getD_eq_getElem?_getD]
 cases hk:a[k]? with
 |none=>simpa using hB
 |some x=>exact h x (List.mem_of_getElem? hk)
theorem Wo.set{B:Nat}{o:List Nat}(h:Wo B o)(p y:Nat)(hy:y < B):Wo B (o.set p y):=by
 intro x hx
 rcases List.mem_or_eq_of_mem_set hx with h1|h1
 ·exact h x h1
 ·subst h1;exact hy
theorem Zd9(B:Nat)(l:List Nat)(h:Wo B l)(hB:0 < B):vb B l < B ^ l.length:=by
 induction l with
 |nil=>exact Nat.one_pos
 |cons x l ih =>
  have h1:=h x List.mem_cons_self
  have h2:=ih fun y hy=>h y (List.mem_cons_of_mem _ hy)
  rw[Z2b,List.length_cons,Nat.pow_succ']
  have:=Nat.mul_le_mul_left B (show vb B l+1≤B ^ l.length from h2)
  rw[Nat.mul_add] at this
  omega
theorem Z0v(B:Nat)(l:List Nat)(n:Nat)(h:l.length=n):vb B (l.take n)=vb B l:=by rw[←h,List.take_length]
theorem join_step(B n over borrow over' borrow' lo' x y c k:Nat)(R r0 C:List Nat)(hk:k < R.length)(hx:x=r0.getD k 0)(hc:c=C.getD k 0)
  (hv:vb B (R.take k)+n*vb B (C.take k)=vb B (r0.take k)+B ^ k*(over+borrow)) (h1:n*c+over=lo'+B*over') (h2:y+lo'+borrow=x+B*borrow') :
  vb B ((R.set k y).take (k+1))+n*vb B (C.take (k+1))=vb B (r0.take (k+1))+B ^ (k+1)*(over'+borrow'):=by
 rw[Z4c _ _ _ _ hk,Z12 B C,Z12 B r0,←hx,←hc,Nat.mul_add n,Nat.pow_succ,Nat.mul_assoc,Nat.mul_left_comm n]
 generalize B ^ k=P at *
 have e:y+n*c+(over+borrow)=x+B*(over'+borrow'):=by rw[Nat.mul_add];omega
 have e2:P*y+P*(n*c)+P*(over+borrow)=P*x+P*(B*(over'+borrow')):=by rw[←Nat.mul_add,←Nat.mul_add,e,Nat.mul_add]
 omega
theorem Zda(B n over over' lo' c k:Nat)(C:List Nat)(hc:c=C.getD k 0)(hb:B ^ k*over≤n*vb B (C.take k))(h1:n*c+over=lo'+B*over'):B ^ (k+1)*over'≤n*vb B (C.take (k+1)):=by
 rw[Z12 B C,←hc,Nat.mul_add n,Nat.pow_succ,Nat.mul_assoc,Nat.mul_left_comm n]
 generalize B ^ k=P at *
 have:=Nat.mul_le_mul_left P (show B*over'≤n*c+over by omega)
 rw[Nat.mul_add] at this
 omega
theorem Zj6(B c c' s x o k:Nat)(R r1 O:List Nat)(hk:k < R.length)(hx:x=r1.getD k 0)(ho:o=O.getD k 0)(hv:vb B (R.take k)+B ^ k*c=vb B (r1.take k)+vb B (O.take k))(h:x+o+c=s+B*c') :
  vb B ((R.set k s).take (k+1))+B ^ (k+1)*c'=vb B (r1.take (k+1))+vb B (O.take (k+1)):=by
 rw[Z4c _ _ _ _ hk,Z12 B r1,Z12 B O,←hx,←ho,Nat.pow_succ,Nat.mul_assoc]
 generalize B ^ k=P at *
 have e2:P*s+P*(B*c')=P*x+P*o+P*c:=by rw[←Nat.mul_add,←Nat.mul_add,←Nat.mul_add,h]
 omega
theorem Zgs(B S p p' x y k V:Nat)(R r0:List Nat)(hk:k < R.length)(hx:x=r0.getD k 0)(hv:vb B (R.take k)+B ^ k*p=S*vb B (r0.take k)+V)(h:y+B*p'=x*S+p) :
  vb B ((R.set k y).take (k+1))+B ^ (k+1)*p'=S*vb B (r0.take (k+1))+V:=by
 rw[Z4c _ _ _ _ hk,Z12 B r0,←hx,Nat.pow_succ,Nat.mul_assoc,Nat.mul_add S,Nat.mul_left_comm S]
 generalize B ^ k=P at *
 have e2:P*y+P*(B*p')=P*(x*S)+P*p:=by rw[←Nat.mul_add,←Nat.mul_add,h]
 rw[Nat.mul_comm S x]
 omega
def c125:Nat:=27742317777372353535851937790883648493
def p252:Nat:=7237005577332262213973186563042994240829374041602535252466099000494570602496
theorem Z5t:Lq=p252+c125:=by rw[Zj3];rfl
theorem Znm:c125*4294967296 < p252:=by decide
theorem Zcg:4294967296*c125 < p252:=by decide
theorem Zqz:p252*16=18446744073709551616 ^ 4:=by decide
theorem Zr0:vb 18446744073709551616 [6346243789798364141,1503914060200516822,0,0]=c125:=by decide +kernel
theorem Lq_v:vb 18446744073709551616 [6346243789798364141,1503914060200516822,0,1152921504606846976]=Lq:=by rw[Zj3];decide +kernel
attribute [irreducible] c125 p252
theorem Zgt(v n R:Nat)(hv:v < p252)(h:R+n*c125=v):R=(v+n*p252)%Lq:=by
 have:v+n*p252=R+Lq*n:=by rw[Z5t,Nat.add_mul,Nat.mul_comm n p252,Nat.mul_comm c125 n];omega
 rw[this,Nat.add_mul_mod_self_left,Nat.mod_eq_of_lt (by rw[Z5t];omega)]
theorem Zgu(v n R R2 B4 c2:Nat)(hv:v < p252)(hn:n≤4294967296)(hB:B4=p252*16)(hR:R < B4)(h:R+n*c125=v+B4)(h2:R2+B4*c2=R+Lq)(hR2:R2 < B4):R2=(v+n*p252)%Lq:=by
 have hnc:n*c125 < p252:=Nat.lt_of_le_of_lt (Nat.mul_le_mul_right _ hn) Zcg
 have hL:=Z5t
 have hc:c125*1≤c125*4294967296:=Nat.mul_le_mul_left _ (by decide)
 have hcl:=Znm
 have hvn:v < n*c125:=by omega
 have c1:c2=1:=by
  rcases Nat.lt_or_ge c2 1 with h3|h3
  ·obtain rfl:c2=0:=by omega
   omega
  ·rcases Nat.lt_or_ge c2 2 with h4|h4
   ·omega
   ·have:=Nat.mul_le_mul_left B4 h4
    omega
 subst c1
 have hn1:1≤n:=by
  rcases Nat.eq_zero_or_pos n with h3|h3
  ·subst h3;omega
  ·exact h3
 obtain⟨m,rfl⟩:∃m,n=m+1:=⟨n - 1,by omega⟩
 have e:v+(m+1)*p252=R2+Lq*m:=by
  have e1:Lq*m=m*p252+m*c125:=by rw[hL,Nat.add_mul,Nat.mul_comm p252,Nat.mul_comm c125]
  have e2:(m+1)*p252=m*p252+p252:=by rw[Nat.add_mul,Nat.one_mul]
  have e3:(m+1)*c125=m*c125+c125:=by rw[Nat.add_mul,Nat.one_mul]
  omega
 rw[e,Nat.add_mul_mod_self_left,Nat.mod_eq_of_lt (by omega)]
theorem Zgv(n over borrow vR v B4:Nat)(hn:n≤4294967296)(hB:B4=p252*16)(hR:vR < B4)(hb:B4*over≤n*c125):over=0:=by
 have hnc:n*c125 < p252:=Nat.lt_of_le_of_lt (Nat.mul_le_mul_right _ hn) Zcg
 rcases Nat.eq_zero_or_pos over with h|h
 ·exact h
 ·have:=Nat.mul_le_mul_left B4 (show 1≤over from h)
  omega
end Go.Proofs.YtjimhjfjfpeojaaGreatDoor.Fd
