/- Joined texts. -/
import Derived.Test.YtjimhjfjfpeojaaGreatDoorQsRfRest
import Derived.Test.YtjimhjfjfpeojaaGreatDoorQsRaE
import Derived.Deep.RegionHeld3
import Derived.Test.YtjimhjfjfpeojaaGreatDoorQsFsProd
import Derived.Test.YtjimhjfjfpeojaaGreatDoorQsFaC
import Derived.Test.YtjimhjfjfpeojaaGreatDoorQsSaE
import Derived.Lib.SmallJoins
import Derived.Test.YtjimhjfjfpeojaaGreatDoorQsGnA
set_option linter.unusedVariables false
namespace Go.Proofs.YtjimhjfjfpeojaaGreatDoor.Fd
open Go.RowKit Go.Proofs.YtjimhjfjfpeojaaGreatDoor.Gn Go.Deep
theorem num_len(l:List Nat)(n:Nat)(h:∀x∈l,x < 256)(hn:l.length≤2*n):(dg (le l)).length≤n:=by
 refine dg_len' (Nat.lt_of_lt_of_le (le_lt l h) ?_)
 rw[pow_half];exact Nat.pow_le_pow_right (by decide) hn
def RetYE(l:List Nat)(w:World)(e:Ending)(w':World):Prop:=∃g,e=.returned (.tuple #[.slice (some ⟨g,0,none⟩) l.length l.length,.int .i64 0])∧w.heap.size≤g∧Bl w' g 5 (bl l).toArray∧Below w.heap.size w w'
set_option maxHeartbeats 1000000 in
theorem RFold_any(A:Option Addr)(n c:Nat)(l:List Nat)(w:World)(hn:n≤64)(hl:∀x∈l,x < 256)(hs:Sl w A n (bl l)) :
  Calls Tryz.prog 114 #[.slice A n c] w (RetYE (by_ (le l%Lq) 32) w):=by
 have hln:l.length=n:=by simpa[bl] using hs.1
 have t0:decide ((64:Int) < (n:Int))=false:=by simp;omega
 have NN:=Lib.hid (Number_any A n c l w (by omega) hl hs)
 have KN:=Lib.hid (num_len l 32 hl (by omega))
 clear hl hs hln hn
 go_enter Tryz.func114,Tryz.ntmps114
 go_wp2_with fail
 (with_reducible refine NN.out.mono ?_)
 rintro e w1 ⟨A1,k1,c1,rfl,h11,h12,h13⟩
 have W1:=Lib.hid h13
 have RR:=Lib.hid (Rest_any A1 k1 c1 (le l) w1 (by rw[←sl_len h11];exact Nat.le_trans KN.out (by decide)) h11)
 clear h11 h13 NN
 go_wp2_with fail
 (with_reducible refine RR.out.mono ?_)
 rintro e w2 ⟨A2,k2,c2,rfl,h21,h22,h23⟩
 have W2:=Lib.hid (bel_nx W1.out (Nat.le_refl _) h23)
 have BY:=Bytes_any A2 k2 c2 32 (dg (le l%Lq)) w2 (by rw[←sl_len h21];exact Nat.le_trans (len_lq (Nat.mod_lt _ Lq_pos)) (by decide)) (by decide) (dg_dg _) h21
 rw[vl_dg] at BY
 have BY:=Lib.hid (show Calls Tryz.prog 39 #[.slice A2 k2 c2,.int .i64 32] w2 (RetY (by_ (le l%Lq) 32) w2) from BY)
 clear h21 h23 RR
 go_wp2_with fail
 (with_reducible refine BY.out.mono ?_)
 rintro e w3 ⟨g3,rfl,h31,h32,h33⟩
 have HG:=Lib.hid (Nat.le_trans W2.out.size h31)
 have H3:=Lib.hid h32
 have W3:=Lib.hid (bel_nx W2.out (Nat.le_refl _) h33)
 clear h31 h32 h33 BY
 go_wp2
 go_ret2
 exact⟨g3,rfl,HG.out,H3.out,W3.out⟩
set_option maxHeartbeats 1000000 in
theorem RTimes_any(A B C:Option Addr)(n m k ca cb cc:Nat)(a b c:List Nat)(w:World)(hn:n≤32)(hm:m≤32)(hk:k≤32)(ha:∀x∈a,x < 256)(hb:∀x∈b,x < 256)(hc:∀x∈c,x < 256)(sa:Sl w A n (bl a))(sb:Sl w B m (bl b))(sc:Sl w C k (bl c)) :
  Calls Tryz.prog 113 #[.slice A n ca,.slice B m cb,.slice C k cc] w (RetYE (by_ ((le a*le b+le c)%Lq) 32) w):=by
 have hla:a.length=n:=by simpa[bl] using sa.1
 have hlb:b.length=m:=by simpa[bl] using sb.1
 have hlc:c.length=k:=by simpa[bl] using sc.1
 have t0:decide ((32:Int) < (n:Int))=false:=by simp;omega
 have t1:decide ((32:Int) < (m:Int))=false:=by simp;omega
 have t2:decide ((32:Int) < (k:Int))=false:=by simp;omega
 have SB:=Lib.hid sb
 have SC:=Lib.hid sc
 have HBB:=Lib.hid hb
 have HCC:=Lib.hid hc
 have NN:=Lib.hid (Number_any A n ca a w (by omega) ha sa)
 have KA:=Lib.hid (num_len a 16 ha (by omega))
 have KB:=Lib.hid (num_len b 16 hb (by omega))
 have KC:=Lib.hid (num_len c 16 hc (by omega))
 have PB:=Lib.hid (show le a*le b < 65536 ^ 32 by
  have h1:=le_lt' a 32 ha (by omega)
  have h2:=le_lt' b 32 hb (by omega)
  have:=Nat.mul_lt_mul'' h1 h2
  rwa [←Nat.pow_add,show 32+32=2*32 from rfl,←pow_half] at this)
 have PC:=Lib.hid (show le c < 65536 ^ 32 by
  have h1:=le_lt' c 64 hc (by omega)
  rwa [show 64=2*32 from rfl,←pow_half] at h1)
 clear ha hb hc sa sb sc hla hlb hlc
 go_enter Tryz.func113,Tryz.ntmps113
 go_wp2_with fail
 (with_reducible refine NN.out.mono ?_)
 rintro e w1 ⟨A1,k1,c1,rfl,h11,h12,h13⟩
 have W1:=Lib.hid h13
 have T1:=Lib.hid h11
 have N2:=Lib.hid (Number_any B m cb b w1 (by omega) HBB.out (SB.out.below h13))
 clear h11 h13 NN
 go_wp2_with fail
 (with_reducible refine N2.out.mono ?_)
 rintro e w2 ⟨A2,k2,c2,rfl,h21,h22,h23⟩
 have W2:=Lib.hid (bel_nx W1.out (Nat.le_refl _) h23)
 have MM:=times_any A1 A2 k1 k2 c1 c2 (dg (le a)) (dg (le b)) w2 (by rw[←sl_len T1.out];exact Nat.le_trans KA.out (by decide)) (by rw[←sl_len h21];exact Nat.le_trans KB.out (by decide)) (dg_dg _) (dg_dg _) (T1.out.below h23) h21
 rw[vl_dg,vl_dg] at MM
 have MM:=Lib.hid MM
 clear h21 h23 N2
 go_wp2_with fail
 (with_reducible refine MM.out.mono ?_)
 rintro e w3 ⟨A3,k3,c3,rfl,h31,h32,h33⟩
 have W3:=Lib.hid (bel_nx W2.out (Nat.le_refl _) h33)
 have T3:=Lib.hid h31
 have N4:=Lib.hid (Number_any C k cc c w3 (by omega) HCC.out (SC.out.below W3.out))
 clear h31 h33 MM
 go_wp2_with fail
 (with_reducible refine N4.out.mono ?_)
 rintro e w4 ⟨A4,k4,c4,rfl,h41,h42,h43⟩
 have W4:=Lib.hid (bel_nx W3.out (Nat.le_refl _) h43)
 have SS:=sum_any A3 A4 k3 k4 c3 c4 (dg (le a*le b)) (dg (le c)) w4 (by rw[←sl_len T3.out];exact Nat.le_trans (dg_len' PB.out) (by decide)) (by rw[←sl_len h41];exact Nat.le_trans KC.out (by decide)) (dg_dg _) (dg_dg _) (T3.out.below h43) h41
 rw[vl_dg,vl_dg] at SS
 have SS:=Lib.hid SS
 clear h41 h43 N4
 go_wp2_with fail
 (with_reducible refine SS.out.mono ?_)
 rintro e w5 ⟨A5,k5,c5,rfl,h51,h52,h53⟩
 have W5:=Lib.hid (bel_nx W4.out (Nat.le_refl _) h53)
 have RR:=Lib.hid (Rest_any A5 k5 c5 (le a*le b+le c) w5 (by
  rw[←sl_len h51]
  refine Nat.le_trans (dg_len' (k:=33) ?_) (by decide)
  have:=PB.out;have:=PC.out
  rw[Nat.pow_succ];omega) h51)
 clear h51 h53 SS
 go_wp2_with fail
 (with_reducible refine RR.out.mono ?_)
 rintro e w6 ⟨A6,k6,c6,rfl,h61,h62,h63⟩
 have W6:=Lib.hid (bel_nx W5.out (Nat.le_refl _) h63)
 have BY:=Bytes_any A6 k6 c6 32 (dg ((le a*le b+le c)%Lq)) w6 (by rw[←sl_len h61];exact Nat.le_trans (len_lq (Nat.mod_lt _ Lq_pos)) (by decide)) (by decide) (dg_dg _) h61
 rw[vl_dg] at BY
 have BY:=Lib.hid (show Calls Tryz.prog 39 #[.slice A6 k6 c6,.int .i64 32] w6 (RetY (by_ ((le a*le b+le c)%Lq) 32) w6) from BY)
 clear h61 h63 RR
 go_wp2_with fail
 (with_reducible refine BY.out.mono ?_)
 rintro e w7 ⟨g7,rfl,h71,h72,h73⟩
 have HG:=Lib.hid (Nat.le_trans W6.out.size h71)
 have H7:=Lib.hid h72
 have W7:=Lib.hid (bel_nx W6.out (Nat.le_refl _) h73)
 clear h71 h72 h73 BY
 go_wp2
 go_ret2
 exact⟨g7,rfl,HG.out,H7.out,W7.out⟩
end Go.Proofs.YtjimhjfjfpeojaaGreatDoor.Fd
namespace Go.Proofs.YtjimhjfjfpeojaaGreatDoor.Fd
open Go.RowKit Go.Proofs.YtjimhjfjfpeojaaGreatDoor.Gn Go.Deep
theorem wo_drop(l:List Nat)(j:Nat):wo l (j+1)=wo (l.drop 8) j:=by
 unfold wo
 rw[List.drop_drop,show 8*(j+1)=8+8*j by omega]
theorem wl_succ(l:List Nat)(n:Nat):wl l (n+1)=wo l 0 :: wl (l.drop 8) n:=by
 unfold wl
 rw[List.range_succ_eq_map,List.map_cons,List.map_map]
 congr 1
 apply List.map_congr_left
 intro j _
 exact wo_drop l j
theorem wl_vb:∀(n:Nat) (l:List Nat),l.length≤8*n→vb B64 (wl l n)=le l:=by
 intro n
 induction n with
 |zero =>
  intro l h
  have:l=[]:=List.length_eq_zero_iff.1 (by omega)
  subst this;rfl
 |succ n ih =>
  intro l h
  rw[wl_succ,vb_cons,ih _ (by rw[List.length_drop];omega)]
  have h1:=le_split l 8
  have h2:wo l 0=le (l.take 8):=rfl
  rw[h1,h2,B64_eq]
theorem wl_wo(l:List Nat)(n:Nat)(h:∀x∈l,x < 256):Wo B64 (wl l n):=by
 intro x hx
 obtain⟨j,-, rfl⟩:=List.mem_map.1 hx
 rw[B64_eq];exact wo_lt l j h
theorem wl_len(l:List Nat)(n:Nat):(wl l n).length=n:=by simp[wl]
theorem four_words{a b c d v:Nat}(h:Wo B64 [a,b,c,d])(hv:vb B64 [a,b,c,d]=v) : [a,b,c,d]=words4 v:=by
 have ha:a < 18446744073709551616:=by rw[←B64_eq];exact h a (by simp)
 have hb:b < 18446744073709551616:=by rw[←B64_eq];exact h b (by simp)
 have hc:c < 18446744073709551616:=by rw[←B64_eq];exact h c (by simp)
 have hd:d < 18446744073709551616:=by rw[←B64_eq];exact h d (by simp)
 have e:v=a+18446744073709551616*(b+18446744073709551616*(c+18446744073709551616*d)):=by
  rw[←hv,←B64_eq];simp[vb_cons,vb_nil]
 clear hv h
 unfold words4
 have e1:v%18446744073709551616=a:=by omega
 have e2:v / 18446744073709551616%18446744073709551616=b:=by omega
 have e3:v / 340282366920938463463374607431768211456%18446744073709551616=c:=by omega
 have e4:v / 6277101735386680763835789423207666416102355444464034512896%18446744073709551616=d:=by omega
 rw[e1,e2,e3,e4]
theorem bytes_of4{a b c d v:Nat}(h:Wo B64 [a,b,c,d])(hv:vb B64 [a,b,c,d]=v):(List.range 32).map (wb [a,b,c,d])=by_ v 32:=by
 rw[four_words h hv,wb_words]
theorem bytesOf4{a b c d v:Nat}(w:World)(h:Wo B64 [a,b,c,d])(hv:vb B64 [a,b,c,d]=v) :
  Calls Tryz.prog 95 #[.agg #[.int .u64 (a:Int),.int .u64 (b:Int),.int .u64 (c:Int),.int .u64 (d:Int)]] w (RetB (by_ v 32) w):=by
 have:=bytesOf_any a b c d w
 rwa [bytes_of4 h hv] at this
theorem RetYE.mk{l:List Nat}{w w1 w':World}{g:Nat}(hg:w1.heap.size≤g)(hb:Bl w' g 5 (bl l).toArray)(h1:Below w.heap.size w w1)(h2:Below w1.heap.size w1 w'):RetYE l w (.returned (.tuple #[.slice (some ⟨g,0,none⟩) l.length l.length,.int .i64 0])) w' :=
 ⟨g,rfl,Nat.le_trans h1.size hg,hb,h1.trans (h2.mono h1.size)⟩
set_option maxHeartbeats 1000000 in
theorem Fold_any(A:Option Addr)(n c:Nat)(l:List Nat)(w:World)(tab:TabL w)(hn:n≤64)(hl:∀x∈l,x < 256)(hs:Sl w A n (bl l)) :
  Calls Tryz.prog 107 #[.slice A n c] w (RetYE (by_ (le l%Lq) 32) w):=by
 have hln:l.length=n:=by simpa[bl] using hs.1
 have t0:decide ((64:Int) < (n:Int))=false:=by simp;omega
 have WW:=Lib.hid (wordsOf_any A n c l w hn hl hs)
 have FF:=Lib.hid (show ∀u,TabL u→Calls Tryz.prog 109 #[.agg (nl (wl l 8)).toArray] u (RetW (le l%Lq) u) from fun u h=>by
  have:=folded_any (wl l 8) u h (wl_len l 8) (wl_wo l 8 hl)
  rwa [wl_vb 8 l (by omega)] at this)
 have TB:=Lib.hid tab
 clear hl hs hln hn tab
 go_enter Tryz.func107,Tryz.ntmps107
 go_wp2_with fail
 (with_reducible refine WW.out.mono ?_)
 rintro e w1 ⟨rfl,hb1⟩
 have W1:=Lib.hid hb1
 have TB1:=Lib.hid (TB.out.below hb1)
 clear hb1 WW
 go_wp2_with fail
 (with_reducible refine(FF.out _ TB1.out).mono ?_)
 rintro e w2 ⟨a,b,c',d,rfl,hw2,hv2,hb2⟩
 have W2:=Lib.hid (bel_n3 W1.out hb2)
 have BB:=Lib.hid (bytesOf4 w2 hw2 hv2)
 clear hw2 hv2 hb2 FF
 go_wp2_with fail
 (with_reducible refine BB.out.mono ?_)
 rintro e w3 ⟨g,rfl,hg,hbl,hb3⟩
 have R:=Lib.hid (RetYE.mk hg hbl W2.out hb3)
 clear hg hbl hb3 BB
 go_wp2
 go_ret2
 exact R.out
theorem low4(l:List Nat)(h:l.length≤32)(k:Nat)(hk:4≤k):(wl l 8).getD k 0=0:=by
 rw[List.getD_eq_getElem?_getD]
 by_cases h8:k < 8
 ·rw[wl_get? _ _ _ h8]
  show wo l k=0
  unfold wo
  rw[List.drop_of_length_le (by omega)];rfl
 ·rw[List.getElem?_eq_none (by rw[wl_len];omega)];rfl
theorem wl_low(l:List Nat)(k:Nat)(hk:k < 4):(wl l 8).getD k 0=(wl l 4).getD k 0:=by
 rw[wl_get _ _ _ hk,wl_get _ _ _ (by omega)]
set_option maxHeartbeats 2000000 in
theorem Times_any(A B C:Option Addr)(n m k ca cb cc:Nat)(a b c:List Nat)(w:World)(tab:TabL w)(hn:n≤32)(hm:m≤32)(hk:k≤32)(ha:∀x∈a,x < 256)(hb:∀x∈b,x < 256)(hc:∀x∈c,x < 256)(sa:Sl w A n (bl a))(sb:Sl w B m (bl b))(sc:Sl w C k (bl c)) :
  Calls Tryz.prog 73 #[.slice A n ca,.slice B m cb,.slice C k cc] w (RetYE (by_ ((le a*le b+le c)%Lq) 32) w):=by
 have hla:a.length=n:=by simpa[bl] using sa.1
 have hlb:b.length=m:=by simpa[bl] using sb.1
 have hlc:c.length=k:=by simpa[bl] using sc.1
 have WA:=Lib.hid (wordsOf_any A n ca a w (by omega) ha sa)
 have WB:=Lib.hid (show ∀u,Below w.heap.size w u→Calls Tryz.prog 83 #[.slice B m cb] u fun e w'=>e=.returned (.agg (nl (wl b 8)).toArray)∧Below u.heap.size u w' from fun u h=>wordsOf_any B m cb b u (by omega) hb (sb.below h))
 have WC:=Lib.hid (show ∀u,Below w.heap.size w u→Calls Tryz.prog 83 #[.slice C k cc] u fun e w'=>e=.returned (.agg (nl (wl c 8)).toArray)∧Below u.heap.size u w' from fun u h=>wordsOf_any C k cc c u (by omega) hc (sc.below h))
 have PP:=Lib.hid (show ∀u,Calls Tryz.prog 110 #[.agg (nl (wl a 8)).toArray,.agg (nl (wl b 8)).toArray,.agg (nl (wl c 8)).toArray] u (RetW8 (le a*le b+le c) u) from fun u=>by
  have:=product_any (wl a 8) (wl b 8) (wl c 8) (wl a 4) (wl b 4) u (wl_len _ _) (wl_len _ _) (wl_len _ _) (wl_len _ _) (wl_len _ _) (wl_wo a 4 ha) (wl_wo b 4 hb) (wl_wo c 8 hc) (wl_low a) (wl_low b) (low4 c (by omega))
  rwa [wl_vb 4 a (by omega),wl_vb 4 b (by omega),wl_vb 8 c (by omega)] at this)
 have TB:=Lib.hid tab
 clear ha hb hc sa sb sc hla hlb hlc tab
 go_enter Tryz.func73,Tryz.ntmps73
 have HN:=Lib.hid hn
 have HM:=Lib.hid hm
 have HK:=Lib.hid hk
 clear hn hm hk
 go_wp2_with fail
 all_goals first
  |(exfalso;rename_i x1 x2;have:=HN.out;have:=HM.out;have:=HK.out;(repeat' split at x1) <;> (repeat' split at x2) <;> omega)
  |skip
 all_goals(
  (with_reducible refine WA.out.mono ?_)
  rintro e w1 ⟨rfl,hb1⟩
  have W1:=Lib.hid hb1
  clear hb1 WA
  go_wp2_with fail
  (with_reducible refine(WB.out _ W1.out).mono ?_)
  rintro e w2 ⟨rfl,hb2⟩
  have W2:=Lib.hid (bel_n3 W1.out hb2)
  clear hb2 WB
  go_wp2_with fail
  (with_reducible refine(WC.out _ W2.out).mono ?_)
  rintro e w3 ⟨rfl,hb3⟩
  have W3:=Lib.hid (bel_n3 W2.out hb3)
  clear hb3 WC
  go_wp2_with fail
  (with_reducible refine(PP.out _).mono ?_)
  rintro e w4 ⟨R,rfl,hR8,hRw,hRv,hb4⟩
  have W4:=Lib.hid (bel_n3 W3.out hb4)
  have FF:=folded_any R w4 (TB.out.below W4.out) hR8 hRw
  rw[hRv] at FF
  have FF:=Lib.hid FF
  clear hR8 hRw hRv hb4 PP
  go_wp2_with fail
  (with_reducible refine FF.out.mono ?_)
  rintro e w5 ⟨a',b',c',d',rfl,hw5,hv5,hb5⟩
  have W5:=Lib.hid (bel_n3 W4.out hb5)
  have BB:=Lib.hid (bytesOf4 w5 hw5 hv5)
  clear hw5 hv5 hb5 FF
  go_wp2_with fail
  (with_reducible refine BB.out.mono ?_)
  rintro e w6 ⟨g,rfl,hg,hbl,hb6⟩
  have RR:=Lib.hid (RetYE.mk hg hbl W5.out hb6)
  clear hg hbl hb6 BB
  go_wp2
  go_ret2
  exact RR.out)
end Go.Proofs.YtjimhjfjfpeojaaGreatDoor.Fd
namespace Go.Proofs.YtjimhjfjfpeojaaGreatDoor.Sh
open Go.RowKit Go.Proofs.YtjimhjfjfpeojaaGreatDoor.Gn Go.Deep
attribute [local go_sem ↓] Go.wp_at_zero Go.wp_at_succ
theorem Sl_block{w:World}{A:Option Addr}{n:Nat}{xs:List Value}(h:Sl w A n xs)(h0:0 < n):∀ad,A=some ad→ad.block < w.heap.size:=by
 rintro ad rfl
 obtain⟨ad',e,hc⟩:=h.at_ h0
 cases e
 have h1:0 < xs.length:=by rw[h.1];exact h0
 rw[List.getElem?_eq_getElem h1] at hc
 have:=cell_lt hc
 rwa [add_block] at this
theorem put64_none(g c:Nat)(A:Option Addr)(w:World)(b0:w.cell? ⟨g,0,none⟩=some (.int .i64 512)) :
  Calls Tryz.prog 127 #[.pointer (some ⟨g,0,none⟩),.slice A 0 c] w fun e w'=>e=.returned (.tuple #[])∧w=w':=by
 go_enter Tryz.func127,Tryz.ntmps127
 go_wp2_with (go_at_call 143;refine(block_512 _).mono ?_;rintro e w' ⟨rfl,rfl⟩)
 go_loop [1] (fun b=>b=.slice A 0 c) (fun _=>0)
 case atStart=>rfl
 case round =>
  obtain rfl:=hrel
  go_wp2
  go_end0
  exact⟨rfl,rfl⟩
theorem write64_none(T:List Nat)(g:Nat)(A:Option Addr)(c:Nat)(w:World)(h:Hs true T g w)(hT:T.length≤1048576) :
  Calls Tryz.prog 106 #[.pointer (some ⟨g,0,none⟩),.slice A 0 c] w fun e w'=>e=.returned (.int .i64 0)∧w=w':=by
 obtain⟨ws,rs,hb,hst⟩:=h
 have b0:w.cell? ⟨g,0,none⟩=some (.int .i64 512):=hb.cell_ rfl
 have b1:w.cell? ⟨g,1,none⟩=some (.int .i64 (T.length:Int)):=hb.cell_ rfl
 have t1:decide ((1048576:Int) - (T.length:Int) < 0)=false:=decide_eq_false (by omega)
 clear hb hst
 go_enter Tryz.func106,Tryz.ntmps106
 go_wp2_with (first|(go_at_call 126;refine(none64 g _ b0).mono ?_;rintro e w' ⟨rfl,rfl⟩)|(go_at_call 127;refine(put64_none g _ _ _ b0).mono ?_;rintro e w' ⟨rfl,rfl⟩))
 go_ret
 exact⟨rfl,rfl⟩
theorem writex64(T l:List Nat)(n:Nat)(hn:l.length=n)(g:Nat)(A:Option Addr)(c:Nat)(w:World)(hg:(8 < g∧5 < g))(hl:∀x∈l,x < 256)(hsl:Sl w A n (bl l))(hA:0 < n→∀ad,A=some ad→ad.block≠g)(hlc:n≤c)(h:Hs true T g w)(hmax:T.length+n≤1048576)(tab:Tab w) :
  Calls Tryz.prog 106 #[.pointer (some ⟨g,0,none⟩),.slice A n c] w
   fun e w'=>e=.returned (.int .i64 0)∧Hs true (T ++ l) g w'∧w.grownBy w' (some g)∧Tab w':=by
 subst hn
 rcases Nat.eq_zero_or_pos l.length with h0|h0
 ·have hl0:l=[]:=List.length_eq_zero_iff.1 h0
  subst hl0
  exact(write64_none T g A c w h (by simpa using hmax)).mono fun e w' ⟨h1,h2⟩=>by subst h2;exact⟨h1,by rw[List.append_nil];exact h,World.grownBy.refl _ _,tab⟩
 ·exact write64_any T l g A c w hg hl hsl (hA h0) hlc h hmax tab
end Go.Proofs.YtjimhjfjfpeojaaGreatDoor.Sh
namespace Go.Proofs.YtjimhjfjfpeojaaGreatDoor.Gn
open Go.RowKit Go.Deep
abbrev Rw:=Option Addr × Nat × Nat × List Nat
def rwv(r:Rw):Value:=.slice r.1 r.2.1 r.2.2.1
section
variable {H:Type} {enc:TypeId × Value→H} {P:Program} {w:World} {base:Nat} {spare:Nat→Bool} {held:Bool}
end
end Go.Proofs.YtjimhjfjfpeojaaGreatDoor.Gn
