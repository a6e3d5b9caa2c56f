/- Joined texts. -/
import Derived.Test.YtdbljpeadehjkaaQwWrPu
import Derived.Test.YtdbljpeadehjkaaQwWrKnown
set_option linter.unusedVariables false
namespace Go.Proofs.Ytdbljpeadehjkaa.Wr
open Go.RowKit Go.Proofs.Ytdbljpeadehjkaa.Gn Go.Proofs.Ytdbljpeadehjkaa.Fd Go.Deep
set_option maxHeartbeats 4000000 in
set_option maxRecDepth 100000 in
theorem long_any(A:Option Addr)(n c:Nat)(w:World):Calls Try.prog 9 #[.slice A n c] w fun e w'=>e=.returned (.bool (decide (2000 < (n:Int))))∧w=w':=by
 go_enter Try.func9,Try.ntmps9
 go_wp2_with fail
 go_ret
 exact⟨rfl,rfl⟩
theorem rcv_three(l:List Nat)(p:Int):∃x i e:Int,rcv l p=.tuple #[.int .u64 x,.int .i64 i,.int .i64 e]:=by
 unfold rcv
 split
 ·exact⟨0,0,1,rfl⟩
 ·exact⟨_,_,_,rfl⟩
set_option maxHeartbeats 4000000 in
set_option maxRecDepth 100000 in
theorem walk_wireCounts{w:World}(n0:Int)(wn:(Lit.int .u64 n0).wf)(A:Option Addr)(m c:Nat)(l:List Nat)(hl:BL w A m c l)(p:Int)(wp:(Lit.int .i64 p).wf) :
  Calls Try.prog 3 #[.int .u64 n0,.slice A m c,.int .i64 p] w fun e w'=>e=.returned (.bool true)∧Below w.heap.size w w':=by
 have hn:=wf_u64 wn
 obtain⟨n,rfl⟩:∃n:Nat,n0=(n:Int):=⟨n0.toNat,by omega⟩
 have hn64:n < 18446744073709551616:=by omega
 have HP:=Lib.hid (bl_pc hl)
 have KN:=Lib.hid known_any
 have LG:=Lib.hid (long_any A m c w)
 clear wn hn hl wp
 by_cases h9:2000 < (m:Int)
 ·rw[decide_eq_true h9] at LG
  clear h9
  go_enter Try.func3,Try.ntmps3
  go_wp2_with (first|(go_at_call 9;(refine LG.out.mono ?_);rintro e w1 ⟨rfl,rfl⟩)|(go_at_call 10;(refine(KN.out _).mono ?_);rintro e w1 ⟨rfl,hb⟩;have HB:=Lib.hid hb;clear hb))
  go_ret
  exact⟨rfl,HB.out⟩
 rw[decide_eq_false h9] at LG
 obtain⟨x,i,e,hx⟩:=rcv_three l p
 have C1:=Lib.hid (fun u (hu:Below w.heap.size w u)=>show Calls _ _ #[.slice A m c,.int .i64 p] u (fun e' w'=>e'=.returned (.tuple #[.int .u64 x,.int .i64 i,.int .i64 e])∧u=w') from hx▸ReadCount_any (HP.out.below hu) p (by show m≤1000000000;omega))
 have C2:=Lib.hid (fun u (hu:Below w.heap.size w u)=>show Calls _ _ #[.slice A m c,.int .i64 p] u (fun e' w'=>e'=.returned (.tuple #[.int .u64 x,.int .i64 i,.int .i64 e])∧u=w') from hx▸RReadCount_any (HP.out.below hu) p (by show m≤1000000000;omega))
 have hL9:=cb_len (n:=n) hn64
 have hlt:=cb_lt (n:=n) hn64
 obtain⟨L,hL⟩:∃L,(cb n).length=L:=⟨_,rfl⟩
 have CN:=Lib.hid (fun u=>show Calls _ _ #[.int .u64 (n:Int)] u (fun e w'=>∃g c,e=.returned (.slice (some ⟨g,0,none⟩) L c)∧Pc w' (some ⟨g,0,none⟩,L,c,cb n)∧Below u.heap.size u w') from(count_any n hn64 u).mono fun e w' ⟨g,c,h1,h2,_,h3⟩=>⟨g,c,by rw[h1,hL],by rw[hL] at h2;exact h2,h3⟩)
 have CD:=Lib.hid (fun u=>show Calls _ _ #[.int .u64 (n:Int)] u (fun e w'=>∃A c,e=.returned (.slice A L c)∧Sl w' A L (bl (cb n))∧Below u.heap.size u w') from(rcount_any n hn64 u).mono fun e w' ⟨v,h1,h2,h3⟩=>by
  obtain⟨A,c,rfl,h4,-⟩:=Sl.own h2
  exact⟨A,c,by rw[h1,hL],by rw[hL] at h4;exact h4,h3⟩)
 have e3:rcv (cb n) 0=.tuple #[.int .u64 (n:Int),.int .i64 (L:Int),.int .i64 0]:=by
  have h:=rcl_cb hn64 []
  rw[List.append_nil] at h
  have h2:=rcv_in (l:=cb n) (k:=0) (Nat.zero_le _) h
  rw[hL] at h2
  rw[show(0:Int)=((0:Nat):Int) from rfl,h2]
  simp
 have LT:=Lib.hid hlt
 have LL:=Lib.hid hL
 have E3:=Lib.hid e3
 rw[hL] at hL9
 clear hx h9 hlt hL e3 hn64
 go_enter Try.func3,Try.ntmps3
 go_upto_region 5 with(first
  |(go_at_call 9;(refine LG.out.mono ?_);rintro e w1 ⟨rfl,rfl⟩)
  |(go_at_call 11;(refine(C1.out _ (Below.refl _ _)).mono ?_);rintro e w1 ⟨rfl,rfl⟩)
  |(go_at_call 12;(refine(C2.out _ (Below.refl _ _)).mono ?_);rintro e w1 ⟨rfl,rfl⟩))
 go_upto_region 6 with(first
  |(go_at_call 13;(refine(CN.out _).mono ?_);rintro e w1 ⟨g1,c1,rfl,hp1,hb1⟩;have B1:=Lib.hid hb1;have C3:=Lib.hid (show Calls _ _ #[.slice (some ⟨g1,0,none⟩) L c1,.int .i64 0] w1 (fun e' w'=>e'=.returned (.tuple #[.int .u64 (n:Int),.int .i64 (L:Int),.int .i64 0])∧w1=w') from E3.out▸ReadCount_any hp1 0 (by show L≤1000000000;omega));clear hb1 hp1)
  |(go_at_call 11;(refine C3.out.mono ?_);rintro e w2 ⟨rfl,rfl⟩))
 go_wp2_with (first
  |(go_at_call 13;(refine(CN.out _).mono ?_);rintro e w2 ⟨g2,c2,rfl,hp2,hb2⟩;have B2:=Lib.hid (B1.out.trans (hb2.mono B1.out.size));have P2:=Lib.hid hp2;clear hb2 hp2)
  |(go_at_call 15;(refine(CD.out _).mono ?_);rintro e w3 ⟨A3,c3,rfl,hs3,hb3⟩;have B3:=Lib.hid (B2.out.trans (hb3.mono B2.out.size));have CS:=Lib.hid (samebytes_any (some ⟨g2,0,none⟩) A3 L L c2 c3 (cb n) (cb n) w3 LT.out LT.out (by have h:=(P2.out.below hb3).row;rw[show((some ⟨g2,0,none⟩,L,c2,cb n):Rw).2.2.2.length=L from LL.out] at h;exact h) hs3);clear hb3 hs3)
  |(go_at_call 15;(refine(CD.out _).mono ?_);rintro e w6 ⟨A6,c6,rfl,-, hb6⟩;have B6:=Lib.hid (B3.out.trans (hb6.mono B3.out.size));clear hb6)
  |(go_at_call 14;(refine CS.out.mono ?_);rintro e w4 ⟨rfl,rfl⟩;rw[beq_self_eq_true])
  |(go_at_call 10;(refine(KN.out _).mono ?_);rintro e w5 ⟨rfl,hb⟩;have HB:=Lib.hid hb;clear hb))
 go_ret
 exact⟨rfl,B6.out.trans (HB.out.mono B6.out.size)⟩
end Go.Proofs.Ytdbljpeadehjkaa.Wr
