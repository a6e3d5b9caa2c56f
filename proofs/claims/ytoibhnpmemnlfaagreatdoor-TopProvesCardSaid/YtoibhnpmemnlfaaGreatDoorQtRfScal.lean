/- Joined texts. -/
import Derived.Laws.CopyOwn
import Derived.Deep.Cut
import Derived.StillTailTactics
import Derived.Test.YtoibhnpmemnlfaaGreatDoorQtAvPr
import Derived.Test.YtoibhnpmemnlfaaGreatDoorQtRaA
import Derived.Test.YtoibhnpmemnlfaaGreatDoorQtFaA
import Derived.Deep.RegionHeld3
import Derived.Test.YtoibhnpmemnlfaaGreatDoorQtFsProd
import Derived.Test.YtoibhnpmemnlfaaGreatDoorQtFaC
set_option linter.unusedVariables false
namespace Go.Proofs.YtoibhnpmemnlfaaGreatDoor.Fd
open Go.RowKit Go.Proofs.YtoibhnpmemnlfaaGreatDoor.Gn Go.Deep
def scErr(l:List Nat):Int:=if l.length=32 then(if le l < Lq then 0 else 31) else 1
def RetYE(l:List Nat)(w:World)(e:Ending)(w':World):Prop:=∃g,e=.returned (.tuple #[.slice (some ⟨g,0,none⟩) l.length l.length,.int .i64 0])∧w.heap.size≤g∧Bl w' g 5 (bl l).toArray∧Below w.heap.size w w'
end Go.Proofs.YtoibhnpmemnlfaaGreatDoor.Fd
namespace Go.Proofs.YtoibhnpmemnlfaaGreatDoor.Fd
open Go.RowKit Go.Proofs.YtoibhnpmemnlfaaGreatDoor.Gn Go.Deep
theorem wo_drop(l:List Nat)(j:Nat):wo l (j+1)=wo (l.drop 8) j:=by
 unfold wo
 rw[List.drop_drop,show 8*(j+1)=8+8*j by omega]
theorem wl_succ(l:List Nat)(n:Nat):wl l (n+1)=wo l 0 :: wl (l.drop 8) n:=by
 unfold wl
 rw[List.range_succ_eq_map,List.map_cons,List.map_map]
 congr 1
 apply List.map_congr_left
 intro j _
 exact wo_drop l j
theorem wl_vb:∀(n:Nat) (l:List Nat),l.length≤8*n→vb B64 (wl l n)=le l:=by
 intro n
 induction n with
 |zero =>
  intro l h
  have:l=[]:=List.length_eq_zero_iff.1 (by omega)
  subst this;rfl
 |succ n ih =>
  intro l h
  rw[wl_succ,vb_cons,ih _ (by rw[List.length_drop];omega)]
  have h1:=le_split l 8
  have h2:wo l 0=le (l.take 8):=rfl
  rw[h1,h2,B64_eq]
theorem wl_wo(l:List Nat)(n:Nat)(h:∀x∈l,x < 256):Wo B64 (wl l n):=by
 intro x hx
 obtain⟨j,-, rfl⟩:=List.mem_map.1 hx
 rw[B64_eq];exact wo_lt l j h
theorem wl_len(l:List Nat)(n:Nat):(wl l n).length=n:=by simp[wl]
theorem four_words{a b c d v:Nat}(h:Wo B64 [a,b,c,d])(hv:vb B64 [a,b,c,d]=v) : [a,b,c,d]=words4 v:=by
 have ha:a < 18446744073709551616:=by rw[←B64_eq];exact h a (by simp)
 have hb:b < 18446744073709551616:=by rw[←B64_eq];exact h b (by simp)
 have hc:c < 18446744073709551616:=by rw[←B64_eq];exact h c (by simp)
 have hd:d < 18446744073709551616:=by rw[←B64_eq];exact h d (by simp)
 have e:v=a+18446744073709551616*(b+18446744073709551616*(c+18446744073709551616*d)):=by
  rw[←hv,←B64_eq];simp[vb_cons,vb_nil]
 clear hv h
 unfold words4
 have e1:v%18446744073709551616=a:=by omega
 have e2:v / 18446744073709551616%18446744073709551616=b:=by omega
 have e3:v / 340282366920938463463374607431768211456%18446744073709551616=c:=by omega
 have e4:v / 6277101735386680763835789423207666416102355444464034512896%18446744073709551616=d:=by omega
 rw[e1,e2,e3,e4]
theorem bytes_of4{a b c d v:Nat}(h:Wo B64 [a,b,c,d])(hv:vb B64 [a,b,c,d]=v):(List.range 32).map (wb [a,b,c,d])=by_ v 32:=by
 rw[four_words h hv,wb_words]
theorem bytesOf4{a b c d v:Nat}(w:World)(h:Wo B64 [a,b,c,d])(hv:vb B64 [a,b,c,d]=v) :
  Calls Tryz.prog 25 #[.agg #[.int .u64 (a:Int),.int .u64 (b:Int),.int .u64 (c:Int),.int .u64 (d:Int)]] w (RetB (by_ v 32) w):=by
 have:=bytesOf_any a b c d w
 rwa [bytes_of4 h hv] at this
theorem RetYE.mk{l:List Nat}{w w1 w':World}{g:Nat}(hg:w1.heap.size≤g)(hb:Bl w' g 5 (bl l).toArray)(h1:Below w.heap.size w w1)(h2:Below w1.heap.size w1 w'):RetYE l w (.returned (.tuple #[.slice (some ⟨g,0,none⟩) l.length l.length,.int .i64 0])) w' :=
 ⟨g,rfl,Nat.le_trans h1.size hg,hb,h1.trans (h2.mono h1.size)⟩
set_option maxHeartbeats 1000000 in
theorem Fold_any(A:Option Addr)(n c:Nat)(l:List Nat)(w:World)(tab:TabL w)(hn:n≤64)(hl:∀x∈l,x < 256)(hs:Sl w A n (bl l)) :
  Calls Tryz.prog 9 #[.slice A n c] w (RetYE (by_ (le l%Lq) 32) w):=by
 have hln:l.length=n:=by simpa[bl] using hs.1
 have t0:decide ((64:Int) < (n:Int))=false:=by simp;omega
 have WW:=Lib.hid (wordsOf_any A n c l w hn hl hs)
 have FF:=Lib.hid (show ∀u,TabL u→Calls Tryz.prog 26 #[.agg (nl (wl l 8)).toArray] u (RetW (le l%Lq) u) from fun u h=>by
  have:=folded_any (wl l 8) u h (wl_len l 8) (wl_wo l 8 hl)
  rwa [wl_vb 8 l (by omega)] at this)
 have TB:=Lib.hid tab
 clear hl hs hln hn tab
 go_enter Tryz.func9,Tryz.ntmps9
 go_wp2_with fail
 (with_reducible refine WW.out.mono ?_)
 rintro e w1 ⟨rfl,hb1⟩
 have W1:=Lib.hid hb1
 have TB1:=Lib.hid (TB.out.below hb1)
 clear hb1 WW
 go_wp2_with fail
 (with_reducible refine(FF.out _ TB1.out).mono ?_)
 rintro e w2 ⟨a,b,c',d,rfl,hw2,hv2,hb2⟩
 have W2:=Lib.hid (bel_n3 W1.out hb2)
 have BB:=Lib.hid (bytesOf4 w2 hw2 hv2)
 clear hw2 hv2 hb2 FF
 go_wp2_with fail
 (with_reducible refine BB.out.mono ?_)
 rintro e w3 ⟨g,rfl,hg,hbl,hb3⟩
 have R:=Lib.hid (RetYE.mk hg hbl W2.out hb3)
 clear hg hbl hb3 BB
 go_wp2
 go_ret2
 exact R.out
theorem low4(l:List Nat)(h:l.length≤32)(k:Nat)(hk:4≤k):(wl l 8).getD k 0=0:=by
 rw[List.getD_eq_getElem?_getD]
 by_cases h8:k < 8
 ·rw[wl_get? _ _ _ h8]
  show wo l k=0
  unfold wo
  rw[List.drop_of_length_le (by omega)];rfl
 ·rw[List.getElem?_eq_none (by rw[wl_len];omega)];rfl
theorem wl_low(l:List Nat)(k:Nat)(hk:k < 4):(wl l 8).getD k 0=(wl l 4).getD k 0:=by
 rw[wl_get _ _ _ hk,wl_get _ _ _ (by omega)]
set_option maxHeartbeats 2000000 in
theorem Times_any(A B C:Option Addr)(n m k ca cb cc:Nat)(a b c:List Nat)(w:World)(tab:TabL w)(hn:n≤32)(hm:m≤32)(hk:k≤32)(ha:∀x∈a,x < 256)(hb:∀x∈b,x < 256)(hc:∀x∈c,x < 256)(sa:Sl w A n (bl a))(sb:Sl w B m (bl b))(sc:Sl w C k (bl c)) :
  Calls Tryz.prog 22 #[.slice A n ca,.slice B m cb,.slice C k cc] w (RetYE (by_ ((le a*le b+le c)%Lq) 32) w):=by
 have hla:a.length=n:=by simpa[bl] using sa.1
 have hlb:b.length=m:=by simpa[bl] using sb.1
 have hlc:c.length=k:=by simpa[bl] using sc.1
 have WA:=Lib.hid (wordsOf_any A n ca a w (by omega) ha sa)
 have WB:=Lib.hid (show ∀u,Below w.heap.size w u→Calls Tryz.prog 27 #[.slice B m cb] u fun e w'=>e=.returned (.agg (nl (wl b 8)).toArray)∧Below u.heap.size u w' from fun u h=>wordsOf_any B m cb b u (by omega) hb (sb.below h))
 have WC:=Lib.hid (show ∀u,Below w.heap.size w u→Calls Tryz.prog 27 #[.slice C k cc] u fun e w'=>e=.returned (.agg (nl (wl c 8)).toArray)∧Below u.heap.size u w' from fun u h=>wordsOf_any C k cc c u (by omega) hc (sc.below h))
 have PP:=Lib.hid (show ∀u,Calls Tryz.prog 53 #[.agg (nl (wl a 8)).toArray,.agg (nl (wl b 8)).toArray,.agg (nl (wl c 8)).toArray] u (RetW8 (le a*le b+le c) u) from fun u=>by
  have:=product_any (wl a 8) (wl b 8) (wl c 8) (wl a 4) (wl b 4) u (wl_len _ _) (wl_len _ _) (wl_len _ _) (wl_len _ _) (wl_len _ _) (wl_wo a 4 ha) (wl_wo b 4 hb) (wl_wo c 8 hc) (wl_low a) (wl_low b) (low4 c (by omega))
  rwa [wl_vb 4 a (by omega),wl_vb 4 b (by omega),wl_vb 8 c (by omega)] at this)
 have TB:=Lib.hid tab
 clear ha hb hc sa sb sc hla hlb hlc tab
 go_enter Tryz.func22,Tryz.ntmps22
 have HN:=Lib.hid hn
 have HM:=Lib.hid hm
 have HK:=Lib.hid hk
 clear hn hm hk
 go_wp2_with fail
 all_goals first
  |(exfalso;rename_i x1 x2;have:=HN.out;have:=HM.out;have:=HK.out;(repeat' split at x1) <;> (repeat' split at x2) <;> omega)
  |skip
 all_goals(
  (with_reducible refine WA.out.mono ?_)
  rintro e w1 ⟨rfl,hb1⟩
  have W1:=Lib.hid hb1
  clear hb1 WA
  go_wp2_with fail
  (with_reducible refine(WB.out _ W1.out).mono ?_)
  rintro e w2 ⟨rfl,hb2⟩
  have W2:=Lib.hid (bel_n3 W1.out hb2)
  clear hb2 WB
  go_wp2_with fail
  (with_reducible refine(WC.out _ W2.out).mono ?_)
  rintro e w3 ⟨rfl,hb3⟩
  have W3:=Lib.hid (bel_n3 W2.out hb3)
  clear hb3 WC
  go_wp2_with fail
  (with_reducible refine(PP.out _).mono ?_)
  rintro e w4 ⟨R,rfl,hR8,hRw,hRv,hb4⟩
  have W4:=Lib.hid (bel_n3 W3.out hb4)
  have FF:=folded_any R w4 (TB.out.below W4.out) hR8 hRw
  rw[hRv] at FF
  have FF:=Lib.hid FF
  clear hR8 hRw hRv hb4 PP
  go_wp2_with fail
  (with_reducible refine FF.out.mono ?_)
  rintro e w5 ⟨a',b',c',d',rfl,hw5,hv5,hb5⟩
  have W5:=Lib.hid (bel_n3 W4.out hb5)
  have BB:=Lib.hid (bytesOf4 w5 hw5 hv5)
  clear hw5 hv5 hb5 FF
  go_wp2_with fail
  (with_reducible refine BB.out.mono ?_)
  rintro e w6 ⟨g,rfl,hg,hbl,hb6⟩
  have RR:=Lib.hid (RetYE.mk hg hbl W5.out hb6)
  clear hg hbl hb6 BB
  go_wp2
  go_ret2
  exact RR.out)
end Go.Proofs.YtoibhnpmemnlfaaGreatDoor.Fd
