/- Joined texts. -/
import Derived.Test.YteblmphohhbgcaaQaMtAj
set_option linter.unusedVariables false
namespace Go.Proofs.Yteblmphohhbgcaa.Mt
open Go.RowKit Go.Proofs.Yteblmphohhbgcaa.Gn Go.Proofs.Yteblmphohhbgcaa.Fd Go.Proofs.Yteblmphohhbgcaa.Wr Go.Deep
set_option maxRecDepth 100000
def kdB(k:Int):Bool:=decide (0≤k) && decide (k≤3)
set_option maxHeartbeats 4000000 in
theorem known_k(k:Int)(w:World):Calls Try.prog 32 #[.int .i64 k] w fun e w'=>e=.returned (.bool (kdB k))∧w=w':=by
 unfold kdB
 by_cases g1:0≤k
 ·rw[decide_eq_true g1,Bool.true_and]
  go_enter Try.func32,Try.ntmps32
  go_wp2_with fail
  go_ret
  exact⟨rfl,rfl⟩
 ·rw[decide_eq_false g1,Bool.false_and]
  go_enter Try.func32,Try.ntmps32
  go_wp2_with fail
  go_ret
  exact⟨rfl,rfl⟩
theorem sb_tx:sb { data:=#[105,109,112,114,105,109,97,116,117,114] }=tx:=by rfl
theorem wmsg{w:World}{v:Tv}{k:Nat}{l:List Nat}(hv:Ok w v)(hn:Wr.nd v=msgn k l)(hk:k < 18446744073709551616)(hl:l.length≤1900):Calls Try.prog 33 #[v.val,lim 65536 16 16384 65536] w (WpQ 0 (wbn (msgn k l)) w):=by
 have h:=Write_pc hv 65536 16 16384 65536 (by decide) (by rw[hn,szn_msg];omega)
 rw[show max (65536:Int) 0=65536 from rfl,show max (16:Int) 0=16 from rfl,show max (16384:Int) 0=16384 from rfl,hn,wern_msg hk (by omega),wout_msg hk (by omega)] at h
 exact h
theorem Whole_m(w:World):Calls Try.prog 38 #[] w fun e w'=>e=.returned (lim 65536 16 16384 65536)∧Below w.heap.size w w':=Whole_any w
theorem ok3m{w:World}{a b c:Tv}(h1:Ok w a)(h2:Ok w b)(h3:Ok w c):∀t∈[a,b,c],Ok w t:=by
 intro t ht
 rcases List.mem_cons.1 ht with rfl|ht
 ·exact h1
 rcases List.mem_cons.1 ht with rfl|ht
 ·exact h2
 rw[List.mem_singleton.1 ht];exact h3
set_option maxHeartbeats 4000000 in
theorem Message_any(k:Int){rA:Option Addr}{rn rc:Nat}{rl:List Nat}{w:World}(hp:Pc w (rA,rn,rc,rl))(hn:rn≤1900):Calls Try.prog 19 #[.int .i64 k,.slice rA rn rc] w (WpQ (if kdB k=true then 0 else 1) (if kdB k=true then wbn (msgn (un k) rl) else[]) w):=by
 have CK:=Lib.hid (fun u=>known_k k u)
 cases hk:kdB k with
 |false =>
  rw[if_neg (by decide),if_neg (by decide)]
  rw[hk] at CK
  clear hk hp
  go_enter Try.func19,Try.ntmps19
  go_wp2_with (go_at_call 32;(refine(CK.out _).mono ?_);rintro e1 w1 ⟨rfl,rfl⟩)
  go_ret2
  exact wpq_nil _ (Below.refl _ _)
 |true =>
  rw[if_pos rfl,if_pos rfl]
  rw[hk] at CK
  have HP:=Lib.hid hp
  have HN:=Lib.hid hn
  have UW:IntKind.u64.wrap k=(un k:Int):=un_wrap k
  have q0:¬(8192:Int) < (rn:Int):=by omega
  have C2:=Lib.hid (fun u=>Num_any (un k) (un_lt k) u)
  clear hk hp hn
  go_enter Try.func19,Try.ntmps19
  go_upto_region 5 with(go_at_call 32;(refine(CK.out _).mono ?_);rintro e1 w1 ⟨rfl,rfl⟩)
  clear CK
  go_wp2_with (first
   |(go_at_call 35;(refine(Text_any _ _).mono ?_);rintro e1 w1 ⟨⟨tA,tn,tc,tl⟩,htl,rfl,h1,h2⟩;simp only[Tv.val,Tv.row];have O1:=Lib.hid h1;have B1:=Lib.hid h2;have L1:=Lib.hid (htl.trans sb_tx);clear h1 h2 htl)
   |(go_at_call 36;(refine(C2.out _).mono ?_);rintro e2 w2 ⟨rfl,h1,h2⟩;simp only[Tv.val,Tv.row];have O2:=Lib.hid h1;have B2:=Lib.hid (B1.out.trans (h2.mono B1.out.size));have P2:=Lib.hid (O1.out.keep h2);clear h1 h2)
   |(go_at_call 37;(refine(Bytes_any (HP.out.below B2.out) (by have:=HN.out;show rn≤1000000;omega)).mono ?_);rintro e3 w3 ⟨bA,bc,⟨rfl,h1,h2⟩,-⟩;simp only[Tv.val,Tv.row];have X3:=Lib.hid (below_one w3 (.cells #[.int .i64 2,.int .u64 0,.slice tA tn tc,.slice none 0 0,.int .i64 1,.int .u64 (un k:Int),.slice none 0 0,.slice none 0 0,.int .i64 2,.int .u64 0,.slice bA rn bc,.slice none 0 0] 80));have S3:=Lib.hid (show Sl (w3.alloc (.cells #[.int .i64 2,.int .u64 0,.slice tA tn tc,.slice none 0 0,.int .i64 1,.int .u64 (un k:Int),.slice none 0 0,.slice none 0 0,.int .i64 2,.int .u64 0,.slice bA rn bc,.slice none 0 0] 80)) (some ⟨w3.heap.size,0,none⟩) (4*3) (flat [.mk 2 0 (tA,tn,tc,tl) none 0 [],nt k,.mk 2 0 (bA,rn,bc,rl) none 0 []]) from Sl.new_ w3 80 [.int .i64 2,.int .u64 0,.slice tA tn tc,.slice none 0 0,.int .i64 1,.int .u64 (un k:Int),.slice none 0 0,.slice none 0 0,.int .i64 2,.int .u64 0,.slice bA rn bc,.slice none 0 0]);have K3:=Lib.hid (ok3m ((P2.out.keep h2).keep X3.out) ((O2.out.keep h2).keep X3.out) (h1.keep X3.out));have B3:=Lib.hid (B2.out.trans ((h2.trans (X3.out.mono h2.size)).mono B2.out.size));have CL:=Lib.hid (List_any (ks:=[.mk 2 0 (tA,tn,tc,tl) none 0 [],nt k,.mk 2 0 (bA,rn,bc,rl) none 0 []]) (c:=3) S3.out (Nat.le_refl _) (fun e=>by cases e) K3.out (by have h5:=HN.out;have h6:=congrArg List.length L1.out;have h7:=(show tn=tl.length from by have h8:=P2.out;cases h8 with|mk a1 a2 a3 a4 a5 a6 a7=>exact a2.len);simp only[Wr.sz,szs];rw[h7];simp[tx] at h6 ⊢;omega) _ (Below.refl _ _));clear h1 h2)
   |(go_at_call 34;(refine CL.out.mono ?_);rintro e4 w4 ⟨us,A4,c4,⟨rfl,h1,h2⟩,h3,-⟩;simp only[Tv.val,Tv.row];have O4:=Lib.hid h1;have B4:=Lib.hid (B3.out.trans (h2.mono B3.out.size));have N4:=Lib.hid (show Wr.nd (.mk 3 0 (none,0,0,[]) A4 c4 us)=msgn (un k) rl from by rw[Wr.nd,h3];simp only[nds,Wr.nd];rw[show tl=tx from L1.out];rfl);clear h1 h2 h3)
   |(go_at_call 38;(refine(Whole_m _).mono ?_);rintro e5 w5 ⟨rfl,h1⟩;have B5:=Lib.hid (B4.out.trans (h1.mono B4.out.size));have CW:=Lib.hid (wmsg (O4.out.keep h1) N4.out (un_lt k) (by have h5:=HN.out;have h6:=HP.out.len;rw[←h6];exact h5));simp only[Tv.val,Tv.row] at CW;clear h1)
   |(go_at_call 33;(refine CW.out.mono ?_);rintro e6 w6 ⟨h1,A6,c6,rfl,h2,h3⟩;have W6:=Lib.hid (wpq_up (B:=w) (er:=0) (B5.out.trans (h1.mono B5.out.size)) h2 h3);clear h1 h2 h3))
  go_ret2
  exact W6.out
theorem same_pb{w:World}{A B:Option Addr}{n m c d:Nat}{L M:List Nat}(h1:Pc w (A,n,c,L))(h2:Pc w (B,m,d,M)):Calls Try.prog 16 #[.slice A n c,.slice B m d] w fun e w'=>e=.returned (.bool (L == M))∧w=w' :=
 samebytes_any A B n m c d L M w h1.lt h2.lt (by have h:=h1.row;rwa [←h1.len] at h) (by have h:=h2.row;rwa [←h2.len] at h)
theorem un_inj{k l:Int}(h1:kdB k=true)(h2:kdB l=true)(h:un k=un l):k=l:=by
 unfold kdB at h1 h2
 rw[Bool.and_eq_true,decide_eq_true_eq,decide_eq_true_eq] at h1 h2
 rw[un_nat h1.1 (by omega),un_nat h2.1 (by omega)] at h
 omega
set_option maxHeartbeats 4000000 in
theorem walk_metaApart {w : World} (k l : Int) (A : Option Addr) (n cap : Nat) (la : List Nat) (hla : BL w A n cap la) (B : Option Addr) (m dap : Nat) (lb : List Nat) (hlb : BL w B m dap lb) :
    Calls Try.prog 4 #[.int .i64 k, .int .i64 l, .slice A n cap, .slice B m dap] w fun e w' => e = .returned (.bool true) ∧ Below w.heap.size w w' := by
  have HA := Lib.hid (bl_pc hla)
  have HB := Lib.hid (bl_pc hlb)
  clear hla hlb
  by_cases g1 : 1000 < n
  · have q1 : (1000 : Int) < (n : Int) := by omega
    clear g1
    go_enter Try.func4, Try.ntmps4
    go_wp2_with (go_at_call 9; (refine (known_m _).mono ?_); rintro e9 w9 ⟨rfl, h9⟩; have F9 := Lib.hid h9; clear h9)
    go_ret
    exact ⟨rfl, F9.out⟩
  have q1 : ¬ (1000 : Int) < (n : Int) := by omega
  by_cases g2 : 1000 < m
  · have q2 : (1000 : Int) < (m : Int) := by omega
    clear g1 g2
    go_enter Try.func4, Try.ntmps4
    go_wp2_with (go_at_call 9; (refine (known_m _).mono ?_); rintro e9 w9 ⟨rfl, h9⟩; have F9 := Lib.hid h9; clear h9)
    go_ret
    exact ⟨rfl, F9.out⟩
  have q2 : ¬ (1000 : Int) < (m : Int) := by omega
  have LA := Lib.hid (show la.length ≤ 8192 from by have h := HA.out.len; rw [← show n = la.length from h]; omega)
  have LB := Lib.hid (show lb.length ≤ 8192 from by have h := HB.out.len; rw [← show m = lb.length from h]; omega)
  have C1 := Lib.hid (Message_any k HA.out (by omega))
  have C2 := Lib.hid (fun u (hu : Below w.heap.size w u) => Message_any l (HB.out.below hu) (by omega))
  clear g1 g2
  cases h1 : kdB k with
  | false =>
    rw [h1, if_neg (by decide), if_neg (by decide)] at C1
    obtain ⟨er, hE⟩ : ∃ er : Int, (if kdB l = true then 0 else 1) = er := ⟨_, rfl⟩
    obtain ⟨Y, hY⟩ : ∃ Y : List Nat, (if kdB l = true then wbn (msgn (un l) lb) else []) = Y := ⟨_, rfl⟩
    rw [hE, hY] at C2
    clear h1 hE hY
    go_enter Try.func4, Try.ntmps4
    go_wp2_with (first
      | (go_at_call 19; (with_reducible refine C1.out.mono ?_); rintro e1 w1 ⟨h1, A1, k1, rfl, p1, l1⟩; have B1 := Lib.hid h1; have P1 := Lib.hid p1; clear h1 p1 l1)
      | (go_at_call 19; (with_reducible refine (C2.out _ B1.out).mono ?_); rintro e2 w2 ⟨h1, A2, k2, rfl, p1, l1⟩; have B2 := Lib.hid (B1.out.trans (h1.mono B1.out.size)); have P2 := Lib.hid p1; have Q2 := Lib.hid (P1.out.below h1); clear h1 p1 l1)
      | (go_at_call 9; (refine (known_m _).mono ?_); rintro e9 w9 ⟨rfl, h9⟩; have F9 := Lib.hid h9; clear h9))
    go_ret
    exact ⟨rfl, B2.out.trans (F9.out.mono B2.out.size)⟩
  | true =>
    rw [h1, if_pos rfl, if_pos rfl] at C1
    cases h2 : kdB l with
    | false =>
      rw [h2, if_neg (by decide), if_neg (by decide)] at C2
      obtain ⟨Y, hY⟩ : ∃ Y : List Nat, wbn (msgn (un k) la) = Y := ⟨_, rfl⟩
      rw [hY] at C1
      clear h1 h2 hY
      go_enter Try.func4, Try.ntmps4
      go_wp2_with (first
        | (go_at_call 19; (with_reducible refine C1.out.mono ?_); rintro e1 w1 ⟨h1, A1, k1, rfl, p1, l1⟩; have B1 := Lib.hid h1; have P1 := Lib.hid p1; clear h1 p1 l1)
        | (go_at_call 19; (with_reducible refine (C2.out _ B1.out).mono ?_); rintro e2 w2 ⟨h1, A2, k2, rfl, p1, l1⟩; have B2 := Lib.hid (B1.out.trans (h1.mono B1.out.size)); have P2 := Lib.hid p1; have Q2 := Lib.hid (P1.out.below h1); clear h1 p1 l1)
        | (go_at_call 9; (refine (known_m _).mono ?_); rintro e9 w9 ⟨rfl, h9⟩; have F9 := Lib.hid h9; clear h9))
      go_ret
      exact ⟨rfl, B2.out.trans (F9.out.mono B2.out.size)⟩
    | true =>
      rw [h2, if_pos rfl, if_pos rfl] at C2
      obtain ⟨X, hX⟩ : ∃ X : List Nat, wbn (msgn (un k) la) = X := ⟨_, rfl⟩
      obtain ⟨Y, hY⟩ : ∃ Y : List Nat, wbn (msgn (un l) lb) = Y := ⟨_, rfl⟩
      have IJ := Lib.hid (show (X = Y ↔ un k = un l ∧ la = lb) from by rw [← hX, ← hY]; exact msg_inj (un_lt k) (un_lt l) LA.out LB.out)
      have UI := Lib.hid (fun h => un_inj h1 h2 h)
      rw [hX] at C1
      rw [hY] at C2
      clear h1 h2 hX hY LA LB
      obtain ⟨b1, hb1⟩ : ∃ b1, (X == Y) = b1 := ⟨_, rfl⟩
      obtain ⟨b2, hb2⟩ : ∃ b2, (la == lb) = b2 := ⟨_, rfl⟩
      have S1 := Lib.hid (fun (u : World) (A1 A2 : Option Addr) (k1 k2 : Nat) (p1 : Pc u (A1, X.length, k1, X)) (p2 : Pc u (A2, Y.length, k2, Y)) => same_pb p1 p2)
      have S2 := Lib.hid (fun (u : World) (hu : Below w.heap.size w u) => same_pb (HA.out.below hu) (HB.out.below hu))
      rw [hb1] at S1
      rw [hb2] at S2
      by_cases hkl : k = l
      · subst hkl
        have E := Lib.hid (show b1 = b2 from by
          rw [← hb1, ← hb2]
          by_cases h : la = lb
          · rw [h, beq_self_eq_true, IJ.out.2 ⟨rfl, h⟩, beq_self_eq_true]
          · rw [beq_eq_false_iff_ne.2 h, beq_eq_false_iff_ne.2 (fun e => h (IJ.out.1 e).2)])
        have E' := E.out
        subst E'
        clear hb1 hb2 IJ UI
        cases b1 <;>
        · go_enter Try.func4, Try.ntmps4
          go_wp2_with (first
            | (go_at_call 19; (with_reducible refine C1.out.mono ?_); rintro e1 w1 ⟨h1, A1, k1, rfl, p1, l1⟩; have B1 := Lib.hid h1; have P1 := Lib.hid p1; clear h1 p1 l1)
            | (go_at_call 19; (with_reducible refine (C2.out _ B1.out).mono ?_); rintro e2 w2 ⟨h1, A2, k2, rfl, p1, l1⟩; have B2 := Lib.hid (B1.out.trans (h1.mono B1.out.size)); have P2 := Lib.hid p1; have Q2 := Lib.hid (P1.out.below h1); clear h1 p1 l1)
            | (go_at_call 16; (with_reducible refine (S1.out _ _ _ _ _ Q2.out P2.out).mono ?_); rintro e3 w3 ⟨rfl, rfl⟩)
            | (go_at_call 16; (with_reducible refine (S2.out _ B2.out).mono ?_); rintro e4 w4 ⟨rfl, rfl⟩)
            | (go_at_call 9; (refine (known_m _).mono ?_); rintro e9 w9 ⟨rfl, h9⟩; have F9 := Lib.hid h9; clear h9))
          go_ret
          exact ⟨rfl, B2.out.trans (F9.out.mono B2.out.size)⟩
      · have E := Lib.hid (show b1 = false from by
          rw [← hb1]
          exact beq_eq_false_iff_ne.2 (fun e => hkl (UI.out (IJ.out.1 e).1)))
        have E' := E.out
        subst E'
        clear hb1 hb2 IJ UI
        go_enter Try.func4, Try.ntmps4
        go_wp2_with (first
          | (go_at_call 19; (with_reducible refine C1.out.mono ?_); rintro e1 w1 ⟨h1, A1, k1, rfl, p1, l1⟩; have B1 := Lib.hid h1; have P1 := Lib.hid p1; clear h1 p1 l1)
          | (go_at_call 19; (with_reducible refine (C2.out _ B1.out).mono ?_); rintro e2 w2 ⟨h1, A2, k2, rfl, p1, l1⟩; have B2 := Lib.hid (B1.out.trans (h1.mono B1.out.size)); have P2 := Lib.hid p1; have Q2 := Lib.hid (P1.out.below h1); clear h1 p1 l1)
          | (go_at_call 16; (with_reducible refine (S1.out _ _ _ _ _ Q2.out P2.out).mono ?_); rintro e3 w3 ⟨rfl, rfl⟩)
          | (go_at_call 9; (refine (known_m _).mono ?_); rintro e9 w9 ⟨rfl, h9⟩; have F9 := Lib.hid h9; clear h9))
        go_ret
        exact ⟨rfl, B2.out.trans (F9.out.mono B2.out.size)⟩
end Go.Proofs.Yteblmphohhbgcaa.Mt
