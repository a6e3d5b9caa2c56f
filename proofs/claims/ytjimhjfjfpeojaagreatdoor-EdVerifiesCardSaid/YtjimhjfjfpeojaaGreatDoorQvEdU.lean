/- Joined texts. -/
import Derived.BigQuiet
import Derived.Test.YtjimhjfjfpeojaaGreatDoorQvEdS
import Derived.Outline
import Derived.Test.YtjimhjfjfpeojaaGreatDoorQvSaB
set_option maxRecDepth 100000
set_option maxHeartbeats 8000000
set_option linter.unusedVariables false
namespace Go.Proofs.YtjimhjfjfpeojaaGreatDoor.Ed
open Go.RowKit Go.Proofs.YtjimhjfjfpeojaaGreatDoor.Gn Go.Proofs.YtjimhjfjfpeojaaGreatDoor.Fd Go.Deep
theorem Zjg{A:Option Addr}{c:Nat}{l:List Nat}{w:World}(tl:TabL w)(h:Pc w (A,32,c,l)):Calls Tryz.prog 77 #[.slice A 32 c] w fun e w'=>e=.returned (.int .i64 (Z2j l))∧Below w.heap.size w w':=by
 have h32:l.length=32:=h.len.symm
 have hr:Sl w A 32 (bl l):=by have:Sl w A l.length (bl l):=h.row;rwa [h32] at this
 exact Zdg A 32 c l w tl (by decide) h.lt hr
theorem Znt{A B:Option Addr}{c d:Nat}{l k:List Nat}{w:World}(h:Pc w (A,32,c,l))(j:Pc w (B,32,d,k)):Calls Tryz.prog 78 #[.slice A 32 c,.slice B 32 d] w fun e w'=>e=.returned (.bool (decide (l=k)))∧w=w':=by
 have h32:l.length=32:=h.len.symm
 have k32:k.length=32:=j.len.symm
 have hr:Sl w A 32 (bl l):=by have:Sl w A l.length (bl l):=h.row;rwa [h32] at this
 have kr:Sl w B 32 (bl k):=by have:Sl w B k.length (bl k):=j.row;rwa [k32] at this
 exact Zh0 hr kr h.lt j.lt
theorem Znu{S:Option Addr}{cs:Nat}{sl:List Nat}{w:World}(h:Pc w (S,64,cs,sl)):∃ad,S=some ad∧64≤cs∧Pc w (some ad,32,cs,sl.take 32)∧Pc w (some ⟨ad.block,ad.off+32,none⟩,32,cs - 32,sl.drop 32):=by
 have hl:sl.length=64:=h.len.symm
 have hc:sl.length≤cs:=h.cap
 have hr:Sl w S 64 (bl sl):=by have:Sl w S sl.length (bl sl):=h.row;rwa [hl] at this
 obtain⟨ad,rfl,-⟩:=hr.at_ (k:=0) (by decide)
 have ha:ad.add 32=⟨ad.block,ad.off+32,none⟩:=by unfold Addr.add;rw[if_neg (by decide)]
 refine⟨ad,rfl,by omega,⟨by simp[hl],?_,fun x hx=>h.lt x (List.mem_of_mem_take hx),by simp[hl];omega,fun h=>by cases h⟩,⟨by simp[hl],?_,fun x hx=>h.lt x (List.mem_of_mem_drop hx),by simp[hl];omega,fun h=>by cases h⟩⟩
 ·have:=hr.take_ 32 (by decide)
  rw[Z4w] at this
  show Sl w (some ad) (sl.take 32).length _
  rw[List.length_take,hl];exact this
 ·have:=hr.drop_ 32 (by decide) (by omega:64≤cs)
  rw[Z7l,if_neg (by omega)] at this
  show Sl w (some ⟨ad.block,ad.off+32,none⟩) (sl.drop 32).length _
  rw[List.length_drop,hl,←ha];exact this
def vend(kl ml sl:List Nat)(g b:G):Int :=
 if Z2j (sl.drop 32)=0 then(if by_ (gb (ga (ti (le (scb (sl.take 32 ++ (kl ++ ml)))) (gn g)) (ti (le (sl.drop 32)) b))) 32=sl.take 32 then 0 else 42) else 42
theorem Zh1{A:Option Addr}{c:Nat}{kl:List Nat}{M:Option Addr}{n cm:Nat}{ml:List Nat}{S:Option Addr}{cs:Nat}{sl:List Nat}{p:KP}{g b:G}{w:World}(tab:TabE w)(ts:Sh.Tab w)(tl:TabL w)
  (hk:Pc w (A,32,c,kl)) (hm:Pc w (M,n,cm,ml)) (hs:Pc w (S,64,cs,sl)) (hn:n≤65536) (hb:Hp Z40 b) (hd:dpt (le (low kl)) (kl.getD 31 0 / 128)=some p) (hg:Hp p g) :
  Calls Tryz.prog 36 #[.slice A 32 c,.slice M n cm,.slice S 64 cs] w fun e w'=>e=.returned (.int .i64 (vend kl ml sl g b))∧Below w.heap.size w w':=by
 have hml:ml.length=n:=hm.len.symm
 have hkl:kl.length=32:=hk.len.symm
 have hsl:sl.length=64:=hs.len.symm
 obtain⟨ad,rfl,h64,f1,f2⟩:=Znu hs
 have t1:decide ((65536:Int) < (n:Int))=false:=decide_eq_false (by omega)
 have DC:=Z6p A c kl w tab (by have:kl.length≤c:=hk.cap;omega) hk.lt (by have:Sl w A kl.length (bl kl):=hk.row;rwa [hkl] at this)
 rw[hd] at DC
 replace DC:=Lib.hid (show Calls Tryz.prog 12 #[.slice A 32 c] w fun e w'=>e=.returned (.tuple #[.agg p.v,.int .i64 0])∧Below w.heap.size w w' from DC)
 have KK:=Lib.hid hk
 have HM:=Lib.hid hm
 have FF1:=Lib.hid f1
 have FF2:=Lib.hid f2
 have TB:=Lib.hid tab
 have TS:=Lib.hid ts
 have TL:=Lib.hid tl
 have N6:=Lib.hid (show ml.length≤65536 by omega)
 have K6:=Lib.hid hkl
 have S6:=Lib.hid (show(sl.take 32).length=32 by simp[hsl])
 have HB:=Lib.hid hb
 have HG:=Lib.hid hg
 have ev:vend kl ml sl g b=if Z2j (sl.drop 32)=0 then(if by_ (gb (ga (ti (le (scb (sl.take 32 ++ (kl ++ ml)))) (gn g)) (ti (le (sl.drop 32)) b))) 32=sl.take 32 then 0 else 42) else 42:=rfl
 generalize vend kl ml sl g b=V at *
 generalize sl.take 32=F at *
 generalize sl.drop 32=Z at *
 have EV:=Lib.hid ev
 have hc32:¬(cs=32):=by omega
 clear ev hml hkl hsl hk hm hs f1 f2 hb hd hg tab ts tl hn
 go_enter Tryz.func36,Tryz.ntmps36
 go_upto_region 5 with(fail)
 refine wp_region_lit ?_
 refine Z00 (.slice A 32 c) rfl (by kernel_rfl) ?_
 refine Z06 12 #[.slice A 32 c] rfl (by kernel_rfl) (DC.out.mono ?_)
 rintro e W1 ⟨rfl,D1⟩
 refine⟨_,rfl,?_⟩
 refine Z00 (.tuple #[.agg p.v,.int .i64 0]) rfl (by kernel_rfl) ?_
 refine Z00 (.agg p.v) rfl (by kernel_rfl) ?_
 refine Z00 (.int .i64 0) rfl (by kernel_rfl) ?_
 refine Z1o (W1.alloc (.cells z20 28)) (.pointer (some ⟨W1.heap.size,0,none⟩)) rfl (by kernel_rfl) ?_
 have D3:=D1.alloc D1.size (.cells z20 28)
 have BN:=Bl.new_ W1 28 z20
 have hz:=D1.size
 obtain⟨q,hq⟩:∃q,W1.heap.size=q:=⟨_,rfl⟩
 rw[hq] at BN hz ⊢
 clear D1 hq
 refine Z0m q 28 z20 p.v BN 28 (.tmp 7) (.tmp 28) rfl rfl (by kernel_rfl) (by kernel_rfl) (KP.sz kz4 _) Z0e (KP.ones _) fun W4 C4 G4=>?_
 have D4:=Z01 (g:=q) D3 G4 hz
 clear D3 BN G4
 refine Z00 (.int .i64 0) rfl (by kernel_rfl) ?_
 refine Z03 ?_
 simp only[Act.put,List.setIfInBounds_toArray,List.set_cons_zero,List.set_cons_succ]
 have CC4:=Lib.hid C4
 have DD4:=Lib.hid D4
 have HQ:=Lib.hid hz
 clear C4 D4 hz
 go_wp2_with fail
 go_quiet (fail)
 obtain⟨w5,hw5⟩:∃w5,W4.drewN nq=w5:=⟨_,rfl⟩
 have C5:=Lib.hid (CC4.out.drewN nq)
 have D5:=Lib.hid (Gn.below_drewN DD4.out nq)
 rw[hw5] at C5 D5 ⊢
 clear hw5
 obtain⟨z,hz⟩:∃z,Z2j Z=z:=⟨_,rfl⟩
 have SC:=Zjg (TL.out.below D5.out) (FF2.out.below D5.out)
 rw[hz] at SC EV
 have SC:=Lib.hid SC
 obtain⟨K,hK⟩:∃K,scb (F ++ (kl ++ ml))=K:=⟨_,rfl⟩
 have HKK:=Lib.hid hK
 rw[hK] at EV
 clear hz hK CC4 DD4
 by_cases hz0:z=0
 ·subst hz0
  go_upto_region 12 with(first|(go_at_call 77;(with_reducible refine SC.out.mono ?_);rintro e w6 ⟨rfl,b6⟩;have D6:=Lib.hid (D5.out.trans (b6.mono D5.out.size));have C6:=Lib.hid (C5.out.below' b6);have SK:=Lib.hid (Ztt (FF1.out.below D6.out) (KK.out.below D6.out) (HM.out.below D6.out) (by have:=S6.out;have:=K6.out;have:=N6.out;rw[List.length_append,List.length_append];omega) (TS.out.below D6.out) (TL.out.below D6.out));clear b6)|(go_at_call 72;(with_reducible refine SK.out.mono ?_);rintro e w7 ⟨k,rfl,p7,b7⟩;have D7:=Lib.hid (D6.out.trans (b7.mono D6.out.size));have C7:=Lib.hid (C6.out.below' b7);rw[HKK.out] at p7;have P7:=Lib.hid p7;clear b7 p7))
  obtain⟨pn,hpn⟩:∃pn,p.neg=pn:=⟨_,rfl⟩
  have HPN:=Hp.neg HG.out
  have NN:=fun w=>Neg_any p w
  rw[hpn] at HPN
  rw[hpn] at NN
  have HPN:=Lib.hid HPN
  have NN:=Lib.hid NN
  clear hpn
  have BC:=Z88
  have HB2:=HB.out
  generalize Z40=kb at BC HB2
  have MX:=Lib.hid (show ∀w8:World,Below w.heap.size w w8→Pc w8 (some ⟨k,0,none⟩,32,32,K)→Calls Tryz.prog 28 #[.slice (some ⟨k,0,none⟩) 32 32,.agg pn.v,.slice (some ⟨ad.block,ad.off+32,none⟩) 32 (cs - 32)] w8 (Zmq (ga (ti (le K) (gn g)) (ti (le Z) b)) w8) from fun w8 hw pk=>by
   have pz:=FF2.out.below hw
   have k32:K.length=32:=pk.len.symm
   have z32:Z.length=32:=pz.len.symm
   exact Zmr (some ⟨k,0,none⟩) 32 32 K pn (some ⟨ad.block,ad.off+32,none⟩) 32 (cs - 32) Z w8 (gn g) b (TB.out.below hw) (Nat.le_refl _) (Nat.le_refl _) pk.lt pz.lt (by have:Sl w8 (some ⟨k,0,none⟩) K.length (bl K):=pk.row;rwa [k32] at this) (by have:Sl w8 (some ⟨ad.block,ad.off+32,none⟩) Z.length (bl Z):=pz.row;rwa [z32] at this) HPN.out kb BC HB2)
  clear BC HB2 SK SC
  refine wp_region_lit ?_
  refine Z00 (.slice (some ⟨k,0,none⟩) 32 32) rfl (by kernel_rfl) ?_
  refine Z0p q 0 20 28 p.v C7.out p.v 28 (.tmp 7) rfl rfl (by kernel_rfl) (by kernel_rfl) (by kernel_rfl) Tryz.underlying28 rfl Z0e ?_
  refine Z06 24 #[.agg p.v] rfl (by kernel_rfl) ((NN.out _).mono ?_)
  rintro e W8 ⟨rfl,E8⟩
  refine⟨_,rfl,?_⟩
  have D8:=Lib.hid (D7.out.trans (E8.mono D7.out.size))
  have P8:=Lib.hid (P7.out.below E8)
  clear E8
  refine Z00 (.slice (some ⟨ad.block,ad.off+32,none⟩) 32 (cs - 32)) rfl (by kernel_rfl) ?_
  refine Z06 28 #[.slice (some ⟨k,0,none⟩) 32 32,.agg pn.v,.slice (some ⟨ad.block,ad.off+32,none⟩) 32 (cs - 32)] rfl (by kernel_rfl) ((MX.out _ D8.out P8.out).mono ?_)
  rintro e W9 ⟨r,rfl,hr,E9⟩
  refine⟨_,rfl,?_⟩
  have D9:=D8.out.trans (E9.mono D8.out.size)
  have HR:=Lib.hid hr
  clear E9 hr
  refine Z00 (.tuple #[.agg r.v,.int .i64 0]) rfl (by kernel_rfl) ?_
  refine Z00 (.agg r.v) rfl (by kernel_rfl) ?_
  refine Z00 (.int .i64 0) rfl (by kernel_rfl) ?_
  refine Z1o (W9.alloc (.cells z20 28)) (.pointer (some ⟨W9.heap.size,0,none⟩)) rfl (by kernel_rfl) ?_
  have D10:=D9.alloc D9.size (.cells z20 28)
  have BN:=Bl.new_ W9 28 z20
  have hz9:=D9.size
  obtain⟨h,hh⟩:∃h,W9.heap.size=h:=⟨_,rfl⟩
  rw[hh] at BN hz9 ⊢
  clear D9 hh
  refine Z0m h 28 z20 r.v BN 28 (.tmp 12) (.tmp 50) rfl rfl (by kernel_rfl) (by kernel_rfl) (KP.sz kz4 _) Z0e (KP.ones _) fun W11 C11 G11=>?_
  have D11:=Z01 (g:=h) D10 G11 hz9
  clear D10 BN G11
  refine Z00 (.int .i64 0) rfl (by kernel_rfl) ?_
  refine Z03 ?_
  simp only[Act.put,List.setIfInBounds_toArray,List.set_cons_zero,List.set_cons_succ]
  have EN:=(Z35 W11 HR.out).mono fun e w' h=>RetB.p h (by_length _ _) (Z60 _ _)
  obtain⟨Y,hY⟩:∃Y,by_ (gb (ga (ti (le K) (gn g)) (ti (le Z) b))) 32=Y:=⟨_,rfl⟩
  rw[hY] at EN EV
  clear hY
  have EN:=Lib.hid EN
  go_upto_region 13 with(fail)
  refine wp_region_lit ?_
  refine Z0p h 0 20 28 r.v C11 r.v 28 (.tmp 12) rfl rfl (by kernel_rfl) (by kernel_rfl) (by kernel_rfl) Tryz.underlying28 rfl Z0e ?_
  refine Z06 16 #[.agg r.v] rfl (by kernel_rfl) (EN.out.mono ?_)
  rintro e W12 ⟨y,rfl,p12,b12⟩
  refine⟨_,rfl,?_⟩
  have D12:=Lib.hid (D11.trans (b12.mono D11.size))
  have EQ:=Znt p12 (FF1.out.below D12.out)
  clear D11 p12 b12 C11
  refine Z00 (.slice (some ad) 32 cs) rfl (by kernel_rfl) ?_
  obtain⟨t,ht⟩:∃t,decide (Y=F)=t:=⟨_,rfl⟩
  rw[ht] at EQ
  have EV2:=Lib.hid (show V=if t=true then 0 else 42 by
   rw[EV.out,←ht];simp only[if_true,decide_eq_true_eq])
  have EQ:=Lib.hid EQ
  clear ht EV
  refine Z06 78 #[.slice (some ⟨y,0,none⟩) 32 32,.slice (some ad) 32 cs] rfl (by kernel_rfl) (EQ.out.mono ?_)
  rintro e W13 ⟨rfl,rfl⟩
  refine⟨_,rfl,?_⟩
  cases t
  ·refine Z00 (.bool true) rfl (by kernel_rfl) ?_
   refine Z03 ?_
   simp only[Act.put,List.setIfInBounds_toArray,List.set_cons_zero,List.set_cons_succ]
   go_wp2_with fail
   go_ret
   exact⟨Z13 EV2.out.symm,D12.out⟩
  ·refine Z00 (.bool false) rfl (by kernel_rfl) ?_
   refine Z03 ?_
   simp only[Act.put,List.setIfInBounds_toArray,List.set_cons_zero,List.set_cons_succ]
   go_wp2_with fail
   go_ret
   exact⟨Z13 EV2.out.symm,D12.out⟩
 ·have EV2:=Lib.hid (show V=42 by rw[EV.out,if_neg hz0])
  clear EV
  have hzn:(z != 0)=true:=by simpa using hz0
  clear hz0
  go_wp2_with (go_at_call 77;(with_reducible refine SC.out.mono ?_);rintro e w6 ⟨rfl,b6⟩;have D6:=Lib.hid (D5.out.trans (b6.mono D5.out.size));clear b6)
  go_ret
  exact⟨Z13 EV2.out.symm,D6.out⟩
theorem Zre{w:World}{base:Nat}{v:Value}{n:Nat}{s:List Nat}(h:w.ownsRow base 5 1 v n (bl s))(h0:0 < n)(hn:s.length=n)(hs:∀x∈s,x < 256):∃g cap,v=.slice (some ⟨g,0,none⟩) n cap∧Pc w (some ⟨g,0,none⟩,n,cap,s)∧base≤g:=by
 obtain⟨g,cap,cur,rfl,hb,h1,h2,h3,h4⟩:=Zfu h h0
 refine⟨g,cap,rfl,⟨hn.symm,?_,hs,by show s.length≤cap;omega,fun h=>by cases h⟩,h4⟩
 refine Sl.of_bl hb 0 _ _ (by rw[Z15]) (fun k v hv=>?_)
 change(bl s)[k]?=some v at hv
 rw[←h3,List.getElem?_take] at hv
 split at hv
 ·rw[Nat.zero_add];simpa using hv
 ·cases hv
end Go.Proofs.YtjimhjfjfpeojaaGreatDoor.Ed
namespace Go.Proofs.YtjimhjfjfpeojaaGreatDoor.Sh
open Go.RowKit Go.Proofs.YtjimhjfjfpeojaaGreatDoor.Gn Go.Deep
attribute [local go_sem ↓] Go.wp_at_zero Go.wp_at_succ
def rv64:Array Value:=#[.int .u64 0,.int .u64 64]
theorem Zh2(X:Int)(h0:0≤X)(h1:Hid (X < 18446744073709551616))(w:World) :
  Calls Tryz.prog 137 #[.agg rv64,.int .u64 X] w fun e w'=>e=.returned (.int .u64 (X%18446744073709551616))∧Below w.heap.size w w':=by
 unfold rv64
 go_enter Tryz.func137,Tryz.ntmps137
 go_wp2
 go_ret
 exact⟨Z13 (by first|rfl|(rw[Int.emod_eq_of_lt h0 h1.out])),(Below.refl _ _).alloc (Nat.le_refl _) _⟩
theorem Znv(x n:Nat)(hx:x < 18446744073709551616):bits .or .u64 ((x:Int) / 2 ^ n) (IntKind.u64.wrap ((x:Int)*2 ^ (64 - n)))=((x / 2 ^ n ||| x*2 ^ (64 - n)%18446744073709551616:Nat):Int):=by
 have e1:IntKind.u64.wrap ((x:Int)*2 ^ (64 - n))=((x*2 ^ (64 - n)%18446744073709551616:Nat):Int):=by rw[IntKind.wrap_u64];simp
 have h1:x / 2 ^ n≤x:=Nat.div_le_self _ _
 rw[e1,Z3w,u64_or_nat _ _ (by omega) (Nat.mod_lt _ (by decide))]
theorem Znw(x n:Nat)(hx:x < 18446744073709551616):(x / 2 ^ n ||| x*2 ^ (64 - n)%18446744073709551616)%18446744073709551616=tr 64 x n:=by
 have h1:x / 2 ^ n≤x:=Nat.div_le_self _ _
 have e:=Nat.or_mod_two_pow (a:=x / 2 ^ n) (b:=x*2 ^ (64 - n)%18446744073709551616) (n:=64)
 have e2:x*2 ^ (64 - n)%18446744073709551616%2 ^ 64=x*2 ^ (64 - n)%2 ^ 64:=Nat.mod_mod_of_dvd _ (by decide)
 have e3:x / 2 ^ n%2 ^ 64=x / 2 ^ n:=Nat.mod_eq_of_lt (Nat.lt_of_le_of_lt h1 hx)
 rw[e2,e3] at e
 exact e
theorem Z9p(x n:Nat)(hx:Hid (x < 18446744073709551616))(h1:1≤n)(h2:n < 64)(w:World) :
  Calls Tryz.prog 153 #[.agg rv64,.int .u64 (x:Int),.int .u64 (n:Int)] w fun e w'=>e=.returned (.int .u64 ((tr 64 x n:Nat):Int))∧Below w.heap.size w w':=by
 have HC:=Lib.hid (show ∀w,Calls Tryz.prog 137 #[.agg rv64,.int .u64 (bits .or .u64 ((x:Int) / 2 ^ n) (IntKind.u64.wrap ((x:Int)*2 ^ (64 - n))))] w fun e w'=>e=.returned (.int .u64 ((tr 64 x n:Nat):Int))∧Below w.heap.size w w' from fun w=>by
  have hlt:x / 2 ^ n ||| x*2 ^ (64 - n)%18446744073709551616 < 2 ^ 64:=Nat.or_lt_two_pow (Nat.lt_of_le_of_lt (Nat.div_le_self _ _) (Nat.lt_of_lt_of_le hx.out (by decide))) (Nat.mod_lt _ (by decide))
  rw[Znv x n hx.out,←Znw x n hx.out]
  refine(Zh2 _ (by omega) (Lib.hid (by omega)) w).mono fun e w' ⟨he,hb⟩=>⟨?_,hb⟩
  rw[he]
  exact Z13 (by simp))
 unfold rv64 at HC ⊢
 go_enter Tryz.func153,Tryz.ntmps153
 go_wp2_with (go_at_call 137;(with_reducible refine(HC.out _).mono ?_);rintro e w1 ⟨rfl,hb1⟩)
 go_ret
 exact⟨rfl,((Below.refl _ _).alloc (Nat.le_refl _) _).trans (hb1.mono (by simp))⟩
theorem Zci(x a b c:Nat)(w:World)(hx:Hid (x < 18446744073709551616))(ha:1≤a)(ha':a < 64)(hb:1≤b)(hb':b < 64)(hc:c < 64) :
  Calls Tryz.prog 147 #[.agg rv64,.int .u64 (x:Int),.int .u64 (a:Int),.int .u64 (b:Int),.int .u64 (c:Int)] w
   fun e w'=>e=.returned (.int .u64 ((sm 64 x a b c:Nat):Int))∧Below w.heap.size w w':=by
 have HA:=Lib.hid (fun w=>Z9p x a hx ha ha' w)
 have HB:=Lib.hid (fun w=>Z9p x b hx hb hb' w)
 unfold rv64 at HA HB ⊢
 go_enter Tryz.func147,Tryz.ntmps147
 go_wp2_with fail
 have c0:(w.alloc (.cells #[.int .u64 0,.int .u64 64] 145)).cell? ⟨w.heap.size,0,none⟩=some (.int .u64 0):=(Bl.new_ w 145 #[.int .u64 0,.int .u64 64]).cell_ rfl
 have c1:(w.alloc (.cells #[.int .u64 0,.int .u64 64] 145)).cell? ⟨w.heap.size,1,none⟩=some (.int .u64 64):=(Bl.new_ w 145 #[.int .u64 0,.int .u64 64]).cell_ rfl
 have b0:Below w.heap.size w (w.alloc (.cells #[.int .u64 0,.int .u64 64] 145)):=(Below.refl _ _).alloc (Nat.le_refl _) _
 generalize hw0:w.alloc _=w0 at c0 c1 b0 ⊢
 clear hw0
 have B0:=Lib.hid b0
 clear b0
 go_region_held3 (fun x'=>x'.cell? ⟨w.heap.size,0,none⟩=some (.int .u64 0)∧x'.cell? ⟨w.heap.size,1,none⟩=some (.int .u64 64))
  (first|exact⟨c0,c1⟩|exact⟨Z05 K2 c0,Z05 K2 c1⟩|exact⟨Z05 K1 c0,Z05 K1 c1⟩)
  (first|(go_at_call 153;(with_reducible refine(HA.out _).mono ?_);rintro e w1 ⟨rfl,hb1⟩;have K1:=Z2c hb1)|(go_at_call 153;(with_reducible refine(HB.out _).mono ?_);rintro e w2 ⟨rfl,hb2⟩;have K2:=K1.trans (hb2.mono K1.size)))
 rename_i hHeld
 clear hHeld
 go_wp2_with fail
 go_ret
 refine⟨Z13 ?_,B0.out.trans (K2.mono B0.out.size)⟩
 have hx6:x < 18446744073709551616:=Nat.lt_of_lt_of_le hx.out (by decide)
 have t1:tr 64 x a < 2 ^ 64:=Nat.lt_of_lt_of_le (Z6x 64 x a hx.out) (by decide)
 have t2:tr 64 x b < 2 ^ 64:=Nat.lt_of_lt_of_le (Z6x 64 x b hx.out) (by decide)
 rw[Z3w,u64_xor_nat _ _ t1 t2,u64_xor_nat _ _ (Nat.xor_lt_two_pow t1 t2) (Nat.lt_of_le_of_lt (Nat.div_le_self _ _) hx6)]
 rfl
theorem Zko(x a b c:Nat)(w:World)(hx:Hid (x < 18446744073709551616))(ha:1≤a)(ha':a < 64)(hb:1≤b)(hb':b < 64)(hc:1≤c)(hc':c < 64) :
  Calls Tryz.prog 148 #[.agg rv64,.int .u64 (x:Int),.int .u64 (a:Int),.int .u64 (b:Int),.int .u64 (c:Int)] w
   fun e w'=>e=.returned (.int .u64 ((gr 64 x a b c:Nat):Int))∧Below w.heap.size w w':=by
 have HA:=Lib.hid (fun w=>Z9p x a hx ha ha' w)
 have HB:=Lib.hid (fun w=>Z9p x b hx hb hb' w)
 have HD:=Lib.hid (fun w=>Z9p x c hx hc hc' w)
 unfold rv64 at HA HB HD ⊢
 go_enter Tryz.func148,Tryz.ntmps148
 go_wp2_with fail
 have c0:(w.alloc (.cells #[.int .u64 0,.int .u64 64] 145)).cell? ⟨w.heap.size,0,none⟩=some (.int .u64 0):=(Bl.new_ w 145 #[.int .u64 0,.int .u64 64]).cell_ rfl
 have c1:(w.alloc (.cells #[.int .u64 0,.int .u64 64] 145)).cell? ⟨w.heap.size,1,none⟩=some (.int .u64 64):=(Bl.new_ w 145 #[.int .u64 0,.int .u64 64]).cell_ rfl
 have b0:Below w.heap.size w (w.alloc (.cells #[.int .u64 0,.int .u64 64] 145)):=(Below.refl _ _).alloc (Nat.le_refl _) _
 generalize hw0:w.alloc _=w0 at c0 c1 b0 ⊢
 clear hw0
 have B0:=Lib.hid b0
 clear b0
 go_region_held3 (fun x'=>x'.cell? ⟨w.heap.size,0,none⟩=some (.int .u64 0)∧x'.cell? ⟨w.heap.size,1,none⟩=some (.int .u64 64))
  (first|exact⟨c0,c1⟩|exact⟨Z05 K3 c0,Z05 K3 c1⟩|exact⟨Z05 K2 c0,Z05 K2 c1⟩|exact⟨Z05 K1 c0,Z05 K1 c1⟩)
  (first|(go_at_call 153;(with_reducible refine(HA.out _).mono ?_);rintro e w1 ⟨rfl,hb1⟩;have K1:=Z2c hb1)|(go_at_call 153;(with_reducible refine(HB.out _).mono ?_);rintro e w2 ⟨rfl,hb2⟩;have K2:=K1.trans (hb2.mono K1.size))|(go_at_call 153;(with_reducible refine(HD.out _).mono ?_);rintro e w3 ⟨rfl,hb3⟩;have K3:=K2.trans (hb3.mono K2.size)))
 rename_i hHeld
 clear hHeld
 go_wp2_with fail
 go_ret
 refine⟨Z13 ?_,B0.out.trans (K3.mono B0.out.size)⟩
 have t1:tr 64 x a < 2 ^ 64:=Nat.lt_of_lt_of_le (Z6x 64 x a hx.out) (by decide)
 have t2:tr 64 x b < 2 ^ 64:=Nat.lt_of_lt_of_le (Z6x 64 x b hx.out) (by decide)
 have t3:tr 64 x c < 2 ^ 64:=Nat.lt_of_lt_of_le (Z6x 64 x c hx.out) (by decide)
 rw[u64_xor_nat _ _ t1 t2,u64_xor_nat _ _ (Nat.xor_lt_two_pow t1 t2) t3]
 rfl
end Go.Proofs.YtjimhjfjfpeojaaGreatDoor.Sh
