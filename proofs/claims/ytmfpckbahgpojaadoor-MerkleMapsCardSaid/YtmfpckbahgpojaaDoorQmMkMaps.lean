/- Joined texts. -/
import Derived.Deep.RegionHeld3
import Derived.Test.YtmfpckbahgpojaaDoorQmMkT
set_option linter.unusedVariables false
namespace Go.Proofs.YtmfpckbahgpojaaDoor.Mk
open Go.RowKit Go.Proofs.YtmfpckbahgpojaaDoor.Gn Go.Proofs.YtmfpckbahgpojaaDoor.Fd Go.Deep
set_option maxRecDepth 100000 in
set_option maxHeartbeats 8000000 in
theorem maps_out{w:World}(ts:Sh.Tab w){A:Option Addr}{m c:Nat}{l:List Nat}(h:Pc w (A,m,c,l))(hm:m≤1000)(n:Int)(hn:n < 0∨4096 < n)(p:Int) :
  Calls Tryd.prog 4 #[.slice A m c,.int .i64 n,.int .i64 p] w fun e w'=>e=.returned (.bool true)∧Below w.heap.size w w':=by
 have C1:=Lib.hid (fun w=>Put_arg n hn A m c p w)
 have C2:=Lib.hid (fun w=>RPut_arg n hn A m c (by omega) p w)
 have C3:=Lib.hid (fun w=>Empty_arg n hn w)
 have C4:=Lib.hid (fun w=>(Right_arg n hn A m c w).mono (R':=fun e w'=>e=.returned (.bool false)∧w=w') fun _ _ h=>h)
 have C5:=Lib.hid (fun w=>RRight_arg n hn A m c (by omega) w)
 have C6:=Lib.hid (fun w=>same_pc (nil_pc w) (nil_pc w))
 have C7:=Lib.hid (fun w=>Has_arg n hn A m c p w)
 have C8:=Lib.hid (fun w=>RHas_arg n hn A m c (by omega) p w)
 have C9:=Lib.hid (fun w=>Missing_arg n hn A m c w)
 have C10:=Lib.hid (fun w=>RMissing_arg n hn A m c (by omega) w)
 have TS:=Lib.hid ts
 clear h ts
 by_cases h0:n < 0
 ·have t1:decide (0≤n)=false:=decide_eq_false (by omega)
  clear hn
  go_enter Tryd.func4,Tryd.ntmps4
  go_wp2_with (first|(go_at_call 13;(with_reducible refine(C1.out _).mono ?_);rintro e w1 ⟨rfl,rfl⟩)|(go_at_call 14;(with_reducible refine(C2.out _).mono ?_);rintro e w2 ⟨rfl,q2⟩;have D2:=Lib.hid q2.below;clear q2)|(go_at_call 15;(with_reducible refine(C3.out _).mono ?_);rintro e w3 ⟨rfl,rfl⟩)|(go_at_call 18;(with_reducible refine(C4.out _).mono ?_);rintro e w4 ⟨rfl,rfl⟩)|(go_at_call 16;(with_reducible refine(C5.out _).mono ?_);rintro e w5 ⟨rfl,q5⟩;have D5:=Lib.hid (D2.out.trans (q5.below.mono D2.out.size));clear q5)|(go_at_call 19;(with_reducible refine(C6.out _).mono ?_);rintro e w6 ⟨rfl,rfl⟩)|(go_at_call 20;(with_reducible refine(C7.out _).mono ?_);rintro e w7 ⟨rfl,rfl⟩)|(go_at_call 21;(with_reducible refine(C8.out _).mono ?_);rintro e w8 ⟨rfl,q8⟩;have D8:=Lib.hid (D5.out.trans (q8.below.mono D5.out.size));clear q8)|(go_at_call 22;(with_reducible refine(C9.out _).mono ?_);rintro e w9 ⟨rfl,rfl⟩)|(go_at_call 17;(with_reducible refine(C10.out _).mono ?_);rintro e w10 ⟨rfl,q10⟩;have D10:=Lib.hid (D8.out.trans (q10.below.mono D8.out.size));have CK:=Lib.hid (known_any w10 (TS.out.below D10.out));clear q10)|(go_at_call 7;(with_reducible refine CK.out.mono ?_);rintro e w11 ⟨rfl,b11⟩;have D11:=Lib.hid (D10.out.trans (b11.mono D10.out.size));clear b11))
  go_ret
  exact⟨rfl,D11.out⟩
 ·have t1:decide (0≤n)=true:=decide_eq_true (by omega)
  have t2:decide (n≤4096)=false:=decide_eq_false (by omega)
  clear hn
  go_enter Tryd.func4,Tryd.ntmps4
  go_wp2_with (first|(go_at_call 13;(with_reducible refine(C1.out _).mono ?_);rintro e w1 ⟨rfl,rfl⟩)|(go_at_call 14;(with_reducible refine(C2.out _).mono ?_);rintro e w2 ⟨rfl,q2⟩;have D2:=Lib.hid q2.below;clear q2)|(go_at_call 15;(with_reducible refine(C3.out _).mono ?_);rintro e w3 ⟨rfl,rfl⟩)|(go_at_call 18;(with_reducible refine(C4.out _).mono ?_);rintro e w4 ⟨rfl,rfl⟩)|(go_at_call 16;(with_reducible refine(C5.out _).mono ?_);rintro e w5 ⟨rfl,q5⟩;have D5:=Lib.hid (D2.out.trans (q5.below.mono D2.out.size));clear q5)|(go_at_call 19;(with_reducible refine(C6.out _).mono ?_);rintro e w6 ⟨rfl,rfl⟩)|(go_at_call 20;(with_reducible refine(C7.out _).mono ?_);rintro e w7 ⟨rfl,rfl⟩)|(go_at_call 21;(with_reducible refine(C8.out _).mono ?_);rintro e w8 ⟨rfl,q8⟩;have D8:=Lib.hid (D5.out.trans (q8.below.mono D5.out.size));clear q8)|(go_at_call 22;(with_reducible refine(C9.out _).mono ?_);rintro e w9 ⟨rfl,rfl⟩)|(go_at_call 17;(with_reducible refine(C10.out _).mono ?_);rintro e w10 ⟨rfl,q10⟩;have D10:=Lib.hid (D8.out.trans (q10.below.mono D8.out.size));have CK:=Lib.hid (known_any w10 (TS.out.below D10.out));clear q10)|(go_at_call 7;(with_reducible refine CK.out.mono ?_);rintro e w11 ⟨rfl,b11⟩;have D11:=Lib.hid (D10.out.trans (b11.mono D10.out.size));clear b11))
  go_ret
  exact⟨rfl,D11.out⟩
theorem miss_val(l:List Nat)(n:Nat):∃v:Int,∀e,MissR l n e (rightB l n)→e=.returned (.int .i64 v):=by
 rcases hr:rightB l n with _|_
 ·exact⟨-1,fun e h=>h⟩
 ·by_cases h:∃m,MissAt l n m
  ·obtain⟨m,hm⟩:=h
   refine⟨(m:Int),fun e h=>?_⟩
   obtain⟨k,rfl,hk⟩:=h
   rw[miss_one hk hm]
  ·refine⟨0,fun e h2=>?_⟩
   obtain⟨k,rfl,hk⟩:=h2
   exact absurd ⟨k,hk⟩ h
theorem zero_miss{n k:Nat}{w:World}(hn:n≤4096)(hk:k=(n+7) / 8){g:Nat}(h:Pc w (some ⟨g,0,none⟩,k,k,List.replicate k 0)) :
  Calls Tryd.prog 17 #[.slice (some ⟨g,0,none⟩) k k,.int .i64 (n:Int)] w fun e w'=>e=.returned (.int .i64 0)∧Qt w w':=by
 have hl:(List.replicate k 0).length=k:=List.length_replicate
 have:=RMissing_any (n:=n) (c:=k) (l:=List.replicate k 0) (A:=some ⟨g,0,none⟩) (w:=w) (by rw[hl];exact h) hn (by rw[hl];omega)
 rw[hl] at this
 refine this.mono ?_
 rintro e w' ⟨h1,h2⟩
 rw[right_zero hk] at h1
 obtain⟨m,rfl,hm⟩:=h1
 rw[miss_zero hm]
 exact⟨rfl,h2⟩
theorem zero_right{n k:Nat}{w:World}(hn:n≤4096)(hk:k=(n+7) / 8){g:Nat}(h:Pc w (some ⟨g,0,none⟩,k,k,List.replicate k 0)) :
  Calls Tryd.prog 16 #[.slice (some ⟨g,0,none⟩) k k,.int .i64 (n:Int)] w fun e w'=>e=.returned (.bool true)∧Qt w w':=by
 have hl:(List.replicate k 0).length=k:=List.length_replicate
 have:=RRight_any (n:=n) (c:=k) (l:=List.replicate k 0) (A:=some ⟨g,0,none⟩) (w:=w) (by rw[hl];exact h) hn (by rw[hl];omega)
 rw[hl,right_zero hk] at this
 exact this
set_option maxRecDepth 100000 in
set_option maxHeartbeats 8000000 in
theorem maps_in{w:World}(ts:Sh.Tab w){A:Option Addr}{c:Nat}{l:List Nat}(h:Pc w (A,l.length,c,l))(hm:l.length≤1000)(n:Nat)(hn:n≤4096)(p:Int)(K:Int)(Z:List Nat)
  (P1:∀w1,Below w.heap.size w w1→Calls Tryd.prog 13 #[.slice A l.length c,.int .i64 (n:Int),.int .i64 p] w1 fun e w'=>∃B k d,e=.returned (.tuple #[.slice B k d,.int .i64 K])∧Pc w' (B,k,d,Z)∧Below w1.heap.size w1 w')
  (P2:∀w1,Below w.heap.size w w1→Calls Tryd.prog 14 #[.slice A l.length c,.int .i64 (n:Int),.int .i64 p] w1 fun e w'=>∃B k d,e=.returned (.tuple #[.slice B k d,.int .i64 K])∧Pc w' (B,k,d,Z)∧Below w1.heap.size w1 w') :
  Calls Tryd.prog 4 #[.slice A l.length c,.int .i64 (n:Int),.int .i64 p] w fun e w'=>e=.returned (.bool true)∧Below w.heap.size w w':=by
 obtain⟨k,hk⟩:∃k,k=(n+7) / 8:=⟨_,rfl⟩
 obtain⟨v,hv⟩:=miss_val l n
 have C1:=Lib.hid (P1 w (Below.refl _ _))
 have C2:=Lib.hid P2
 have C3:=Lib.hid (fun w=>Empty_any n k hn hk w)
 have C11:=Lib.hid (fun(w1:World) (g:Nat) (hp:Pc w1 (some ⟨g,0,none⟩,k,k,List.replicate k 0))=>zero_right hn hk hp)
 have C12:=Lib.hid (fun(w1 w2:World) (g:Nat) (hp:Pc w1 (some ⟨g,0,none⟩,k,k,List.replicate k 0)) (q:Qt w1 w2)=>zero_miss hn hk (hp.below q.below))
 have C4:=Lib.hid (fun(w1:World) (hb:Below w.heap.size w w1)=>Right_any (h.below hb) hn (by omega))
 have C5:=Lib.hid (fun(w1:World) (hb:Below w.heap.size w w1)=>RRight_any (h.below hb) hn (by omega))
 have C7:=Lib.hid (fun(w1:World) (hb:Below w.heap.size w w1)=>Has_any (h.below hb) hn (by omega) p)
 have C8:=Lib.hid (fun(w1:World) (hb:Below w.heap.size w w1)=>RHas_any (h.below hb) hn (by omega) p)
 have C9:=Lib.hid (fun(w1:World) (hb:Below w.heap.size w w1)=>(Missing_any (h.below hb) hn (by omega)).mono (R':=fun e w'=>e=.returned (.int .i64 v)∧Below w1.heap.size w1 w') fun e w' h=>⟨hv e h.1,h.2⟩)
 have C10:=Lib.hid (fun(w1:World) (hb:Below w.heap.size w w1)=>(RMissing_any (h.below hb) hn (by omega)).mono (R':=fun e w'=>e=.returned (.int .i64 v)∧Below w1.heap.size w1 w') fun e w' h=>⟨hv e h.1,h.2.below⟩)
 have t1:decide (0≤(n:Int))=true:=decide_eq_true (by omega)
 have t2:decide ((n:Int)≤4096)=true:=decide_eq_true (by omega)
 have TS:=Lib.hid ts
 generalize rightB l n=b1 at C4 C5
 generalize hasB l n p=b2 at C7 C8
 obtain⟨L,hL⟩:∃L,l.length=L:=⟨_,rfl⟩
 rw[hL] at C1 C2 C4 C5 C7 C8 C9 C10 hm ⊢
 clear h ts hv hk hL P1 P2
 go_enter Tryd.func4,Tryd.ntmps4
 go_wp2_with (go_at_call 13;(with_reducible refine C1.out.mono ?_);rintro e w1 ⟨B1,m1,d1,rfl,p1,b1_⟩;have D1:=Lib.hid b1_;have X1:=Lib.hid p1;have C2a:=Lib.hid (C2.out w1 b1_);clear p1 b1_)
 go_wp2_with (go_at_call 14;(with_reducible refine C2a.out.mono ?_);rintro e w2 ⟨B2,m2,d2,rfl,p2,b2_⟩;have D2:=Lib.hid (D1.out.trans (b2_.mono D1.out.size));have X2:=Lib.hid (X1.out.below b2_);have Y2:=Lib.hid p2;clear p2 b2_)
 go_wp2_with (go_at_call 15;(with_reducible refine(C3.out _).mono ?_);rintro e w3 ⟨g3,rfl,p3,-, b3⟩;have D3:=Lib.hid (D2.out.trans (b3.mono D2.out.size));have X3:=Lib.hid (X2.out.below b3);have Y3:=Lib.hid (Y2.out.below b3);have E1:=Lib.hid (C11.out w3 g3 p3);have P3:=Lib.hid p3;clear b3 p3)
 go_wp2_with (go_at_call 16;(with_reducible refine E1.out.mono ?_);rintro e w4 ⟨rfl,q4⟩;have E2:=Lib.hid (C12.out w3 w4 g3 P3.out q4);have D4:=Lib.hid (D3.out.trans (q4.below.mono D3.out.size));have X4:=Lib.hid (X3.out.below q4.below);have Y4:=Lib.hid (Y3.out.below q4.below);clear q4)
 go_wp2_with (go_at_call 17;(with_reducible refine E2.out.mono ?_);rintro e w5 ⟨rfl,q5⟩;have D5:=Lib.hid (D4.out.trans (q5.below.mono D4.out.size));have X5:=Lib.hid (X4.out.below q5.below);have Y5:=Lib.hid (Y4.out.below q5.below);have F1:=Lib.hid (C4.out w5 D5.out);clear q5)
 go_wp2_with (go_at_call 18;(with_reducible refine F1.out.mono ?_);rintro e w6 ⟨rfl,b6⟩;have D6:=Lib.hid (D5.out.trans (b6.mono D5.out.size));have X6:=Lib.hid (X5.out.below b6);have Y6:=Lib.hid (Y5.out.below b6);have F2:=Lib.hid (C5.out w6 D6.out);clear b6)
 go_wp2_with (go_at_call 16;(with_reducible refine F2.out.mono ?_);rintro e w7 ⟨rfl,b7⟩;have D7:=Lib.hid (D6.out.trans (b7.below.mono D6.out.size));have F3:=Lib.hid ((same_pc (X6.out.below b7.below) (Y6.out.below b7.below)).mono (R':=fun e w'=>e=.returned (.bool true)∧w7=w') fun e w' h=>⟨by rw[h.1,decide_eq_true rfl],h.2⟩);clear b7)
 go_wp2_with (go_at_call 19;(with_reducible refine F3.out.mono ?_);rintro e w8 ⟨rfl,rfl⟩;have F4:=Lib.hid (C7.out w7 D7.out))
 go_wp2_with (go_at_call 20;(with_reducible refine F4.out.mono ?_);rintro e w9 ⟨rfl,b9⟩;have D9:=Lib.hid (D7.out.trans (b9.mono D7.out.size));have F5:=Lib.hid (C8.out w9 D9.out);clear b9)
 go_wp2_with (go_at_call 21;(with_reducible refine F5.out.mono ?_);rintro e w10 ⟨rfl,b10⟩;have D10:=Lib.hid (D9.out.trans (b10.below.mono D9.out.size));have F6:=Lib.hid (C9.out w10 D10.out);clear b10)
 go_wp2_with (go_at_call 22;(with_reducible refine F6.out.mono ?_);rintro e w11 ⟨rfl,b11⟩;have D11:=Lib.hid (D10.out.trans (b11.mono D10.out.size));have F7:=Lib.hid (C10.out w11 D11.out);clear b11)
 go_wp2_with (go_at_call 17;(with_reducible refine F7.out.mono ?_);rintro e w12 ⟨rfl,b12⟩;have D12:=Lib.hid (D11.out.trans (b12.mono D11.out.size));have F8:=Lib.hid (known_any w12 (TS.out.below D12.out));clear b12)
 go_wp2_with (go_at_call 7;(with_reducible refine F8.out.mono ?_);rintro e w13 ⟨rfl,b13⟩;have D13:=Lib.hid (D12.out.trans (b13.mono D12.out.size));clear b13)
 go_ret
 exact⟨rfl,D13.out⟩
set_option maxRecDepth 100000 in
theorem maps_long{w:World}(ts:Sh.Tab w)(A:Option Addr)(m c:Nat)(hm:1000 < m)(n p:Int) :
  Calls Tryd.prog 4 #[.slice A m c,.int .i64 n,.int .i64 p] w fun e w'=>e=.returned (.bool true)∧Below w.heap.size w w':=by
 have F8:=Lib.hid (known_any w ts)
 clear ts
 go_enter Tryd.func4,Tryd.ntmps4
 go_wp2_with (go_at_call 7;(with_reducible refine F8.out.mono ?_);rintro e w13 ⟨rfl,b13⟩;have D13:=Lib.hid b13;clear b13)
 go_ret
 exact⟨rfl,D13.out⟩
theorem walk_merkleMaps {w : World} (ts : Sh.Tab w) (A : Option Addr) (m c : Nat) (l : List Nat) (hl : BL w A m c l) (n : Int) (wn : (Lit.int .i64 n).wf) (p : Int) (wp : (Lit.int .i64 p).wf) :
    Calls Tryd.prog 4 #[.slice A m c, .int .i64 n, .int .i64 p] w fun e w' => e = .returned (.bool true) ∧ Below w.heap.size w w' := by
  have h := pc_bl hl
  by_cases hm : m ≤ 1000
  · by_cases hn : n < 0 ∨ 4096 < n
    · exact maps_out ts h hm n hn p
    · obtain ⟨k, rfl⟩ : ∃ k : Nat, n = (k : Int) := ⟨n.toNat, by omega⟩
      have hk : k ≤ 4096 := by omega
      obtain rfl : m = l.length := h.len
      rcases hh : holdsB l k p with _ | _
      · refine maps_in ts h hm k hk p 1 [] (fun w1 hb => (Put_no (h.below hb) hk (by omega) p hh).mono ?_) (fun w1 hb => (RPut_no (h.below hb) hk (by omega) p hh).mono ?_)
        · rintro e w' ⟨h1, h2⟩; exact ⟨none, 0, 0, h1, nil_pc _, h2⟩
        · rintro e w' ⟨h1, h2⟩; exact ⟨none, 0, 0, h1, nil_pc _, h2.below⟩
      · obtain ⟨q, rfl⟩ : ∃ q : Nat, p = (q : Int) := by
          have h2 := (Bool.and_eq_true_iff.1 hh).2
          have h3 := of_decide_eq_true (Bool.and_eq_true_iff.1 h2).1
          exact ⟨p.toNat, by omega⟩
        refine maps_in ts h hm k hk (q : Int) 0 (putB l q) (fun w1 hb => (Put_yes (h.below hb) hk hm q hh).mono ?_) (fun w1 hb => (RPut_yes (h.below hb) hk hm q hh).mono ?_)
        · rintro e w' ⟨g, cap, h1, h2, h3, h4⟩; exact ⟨_, _, _, h1, h2, h4⟩
        · rintro e w' ⟨g, cap, h1, h2, h3, h4⟩; exact ⟨_, _, _, h1, h2, h4⟩
  · exact maps_long ts A m c (by omega) n p
end Go.Proofs.YtmfpckbahgpojaaDoor.Mk
