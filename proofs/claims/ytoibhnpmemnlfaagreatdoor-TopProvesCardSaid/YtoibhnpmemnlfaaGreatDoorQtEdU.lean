/- Joined texts. -/
import Derived.BigQuiet
import Derived.Test.YtoibhnpmemnlfaaGreatDoorQtEdT
import Derived.Test.YtoibhnpmemnlfaaGreatDoorQtGnEq
set_option linter.unusedVariables false
namespace Go.Proofs.YtoibhnpmemnlfaaGreatDoor.Ed
open Go.RowKit Go.Proofs.YtoibhnpmemnlfaaGreatDoor.Gn Go.Proofs.YtoibhnpmemnlfaaGreatDoor.Fd Go.Deep
theorem scalar_p{A:Option Addr}{c:Nat}{l:List Nat}{w:World}(tl:TabL w)(h:Pc w (A,32,c,l)):Calls Tryz.prog 44 #[.slice A 32 c] w fun e w'=>e=.returned (.int .i64 (scErr l))∧Below w.heap.size w w':=by
 have h32:l.length=32:=h.len.symm
 have hr:Sl w A 32 (bl l):=by have:Sl w A l.length (bl l):=h.row;rwa [h32] at this
 exact Scalar_any A 32 c l w tl (by decide) h.lt hr
theorem equal_p{A B:Option Addr}{c d:Nat}{l k:List Nat}{w:World}(h:Pc w (A,32,c,l))(j:Pc w (B,32,d,k)):Calls Tryz.prog 47 #[.slice A 32 c,.slice B 32 d] w fun e w'=>e=.returned (.bool (decide (l=k)))∧w=w':=by
 have h32:l.length=32:=h.len.symm
 have k32:k.length=32:=j.len.symm
 have hr:Sl w A 32 (bl l):=by have:Sl w A l.length (bl l):=h.row;rwa [h32] at this
 have kr:Sl w B 32 (bl k):=by have:Sl w B k.length (bl k):=j.row;rwa [k32] at this
 exact Equal_any hr kr h.lt j.lt
theorem first_p{S:Option Addr}{cs:Nat}{sl:List Nat}{w:World}(h:Pc w (S,64,cs,sl)):∃ad,S=some ad∧64≤cs∧Pc w (some ad,32,cs,sl.take 32)∧Pc w (some ⟨ad.block,ad.off+32,none⟩,32,cs - 32,sl.drop 32):=by
 have hl:sl.length=64:=h.len.symm
 have hc:sl.length≤cs:=h.cap
 have hr:Sl w S 64 (bl sl):=by have:Sl w S sl.length (bl sl):=h.row;rwa [hl] at this
 obtain⟨ad,rfl,-⟩:=hr.at_ (k:=0) (by decide)
 have ha:ad.add 32=⟨ad.block,ad.off+32,none⟩:=by unfold Addr.add;rw[if_neg (by decide)]
 refine⟨ad,rfl,by omega,⟨by simp[hl],?_,fun x hx=>h.lt x (List.mem_of_mem_take hx),by simp[hl];omega,fun h=>by cases h⟩,⟨by simp[hl],?_,fun x hx=>h.lt x (List.mem_of_mem_drop hx),by simp[hl];omega,fun h=>by cases h⟩⟩
 ·have:=hr.take_ 32 (by decide)
  rw[bl_take] at this
  show Sl w (some ad) (sl.take 32).length _
  rw[List.length_take,hl];exact this
 ·have:=hr.drop_ 32 (by decide) (by omega:64≤cs)
  rw[bl_drop,if_neg (by omega)] at this
  show Sl w (some ⟨ad.block,ad.off+32,none⟩) (sl.drop 32).length _
  rw[List.length_drop,hl,←ha];exact this
def vend(kl ml sl:List Nat)(g b:G):Int :=
 if scErr (sl.drop 32)=0 then(if by_ (gb (ga (ti (le (scb (sl.take 32 ++ (kl ++ ml)))) (gn g)) (ti (le (sl.drop 32)) b))) 32=sl.take 32 then 0 else 42) else 42
set_option maxRecDepth 100000 in
set_option maxHeartbeats 8000000 in
theorem Verify_go{A:Option Addr}{c:Nat}{kl:List Nat}{M:Option Addr}{n cm:Nat}{ml:List Nat}{S:Option Addr}{cs:Nat}{sl:List Nat}{p:KP}{g b:G}{w:World}(tab:TabE w)(ts:Sh.Tab w)(tl:TabL w)
  (hk:Pc w (A,32,c,kl)) (hm:Pc w (M,n,cm,ml)) (hs:Pc w (S,64,cs,sl)) (hn:n≤65536) (hb:Hp kbase b) (hd:dpt (le (low kl)) (kl.getD 31 0 / 128)=some p) (hg:Hp p g) :
  Calls Tryz.prog 17 #[.slice A 32 c,.slice M n cm,.slice S 64 cs] w fun e w'=>e=.returned (.int .i64 (vend kl ml sl g b))∧Below w.heap.size w w':=by
 have hml:ml.length=n:=hm.len.symm
 have hkl:kl.length=32:=hk.len.symm
 have hsl:sl.length=64:=hs.len.symm
 obtain⟨ad,rfl,h64,f1,f2⟩:=first_p hs
 have t1:decide ((65536:Int) < (n:Int))=false:=decide_eq_false (by omega)
 have DC:=PDecode_any A c kl w tab (by have:kl.length≤c:=hk.cap;omega) hk.lt (by have:Sl w A kl.length (bl kl):=hk.row;rwa [hkl] at this)
 rw[hd] at DC
 replace DC:=Lib.hid (show Calls Tryz.prog 10 #[.slice A 32 c] w fun e w'=>e=.returned (.tuple #[.agg p.v,.int .i64 0])∧Below w.heap.size w w' from DC)
 have KK:=Lib.hid hk
 have HM:=Lib.hid hm
 have FF1:=Lib.hid f1
 have FF2:=Lib.hid f2
 have TB:=Lib.hid tab
 have TS:=Lib.hid ts
 have TL:=Lib.hid tl
 have N6:=Lib.hid (show ml.length≤65536 by omega)
 have K6:=Lib.hid hkl
 have S6:=Lib.hid (show(sl.take 32).length=32 by simp[hsl])
 have HB:=Lib.hid hb
 have HG:=Lib.hid hg
 have ev:vend kl ml sl g b=if scErr (sl.drop 32)=0 then(if by_ (gb (ga (ti (le (scb (sl.take 32 ++ (kl ++ ml)))) (gn g)) (ti (le (sl.drop 32)) b))) 32=sl.take 32 then 0 else 42) else 42:=rfl
 generalize vend kl ml sl g b=V at *
 generalize sl.take 32=F at *
 generalize sl.drop 32=Z at *
 have EV:=Lib.hid ev
 have hc32:¬(cs=32):=by omega
 clear ev hml hkl hsl hk hm hs f1 f2 hb hd hg tab ts tl hn
 go_enter Tryz.func17,Tryz.ntmps17
 go_upto_region 5 with(fail)
 refine wp_region_lit ?_
 refine sq_run (.slice A 32 c) rfl (by kernel_rfl) ?_
 refine sq_enter 10 #[.slice A 32 c] rfl (by kernel_rfl) (DC.out.mono ?_)
 rintro e W1 ⟨rfl,D1⟩
 refine⟨_,rfl,?_⟩
 refine sq_run (.tuple #[.agg p.v,.int .i64 0]) rfl (by kernel_rfl) ?_
 refine sq_run (.agg p.v) rfl (by kernel_rfl) ?_
 refine sq_run (.int .i64 0) rfl (by kernel_rfl) ?_
 refine sq_new (W1.alloc (.cells z20 33)) (.pointer (some ⟨W1.heap.size,0,none⟩)) rfl (by kernel_rfl) ?_
 have D3:=D1.alloc D1.size (.cells z20 33)
 have BN:=Bl.new_ W1 33 z20
 have hz:=D1.size
 obtain⟨q,hq⟩:∃q,W1.heap.size=q:=⟨_,rfl⟩
 rw[hq] at BN hz ⊢
 clear D1 hq
 refine sq_store q 33 z20 p.v BN 33 (.tmp 7) (.tmp 28) rfl rfl (by kernel_rfl) (by kernel_rfl) (KP.sz kz4 _) sizeP (KP.ones _) fun W4 C4 G4=>?_
 have D4:=below_only (g:=q) D3 G4 hz
 clear D3 BN G4
 refine sq_run (.int .i64 0) rfl (by kernel_rfl) ?_
 refine sq_done ?_
 simp only[Act.put,List.setIfInBounds_toArray,List.set_cons_zero,List.set_cons_succ]
 have CC4:=Lib.hid C4
 have DD4:=Lib.hid D4
 have HQ:=Lib.hid hz
 clear C4 D4 hz
 go_wp2_with fail
 go_quiet (fail)
 obtain⟨w5,hw5⟩:∃w5,W4.drewN nq=w5:=⟨_,rfl⟩
 have C5:=Lib.hid (CC4.out.drewN nq)
 have D5:=Lib.hid (Gn.below_drewN DD4.out nq)
 rw[hw5] at C5 D5 ⊢
 clear hw5
 obtain⟨z,hz⟩:∃z,scErr Z=z:=⟨_,rfl⟩
 have SC:=scalar_p (TL.out.below D5.out) (FF2.out.below D5.out)
 rw[hz] at SC EV
 have SC:=Lib.hid SC
 obtain⟨K,hK⟩:∃K,scb (F ++ (kl ++ ml))=K:=⟨_,rfl⟩
 have HKK:=Lib.hid hK
 rw[hK] at EV
 clear hz hK CC4 DD4
 by_cases hz0:z=0
 ·subst hz0
  go_upto_region 12 with(first|(go_at_call 44;(with_reducible refine SC.out.mono ?_);rintro e w6 ⟨rfl,b6⟩;have D6:=Lib.hid (D5.out.trans (b6.mono D5.out.size));have C6:=Lib.hid (C5.out.below' b6);have SK:=Lib.hid (scal3 (FF1.out.below D6.out) (KK.out.below D6.out) (HM.out.below D6.out) (by have:=S6.out;have:=K6.out;have:=N6.out;rw[List.length_append,List.length_append];omega) (TS.out.below D6.out) (TL.out.below D6.out));clear b6)|(go_at_call 21;(with_reducible refine SK.out.mono ?_);rintro e w7 ⟨k,rfl,p7,b7⟩;have D7:=Lib.hid (D6.out.trans (b7.mono D6.out.size));have C7:=Lib.hid (C6.out.below' b7);rw[HKK.out] at p7;have P7:=Lib.hid p7;clear b7 p7))
  obtain⟨pn,hpn⟩:∃pn,p.neg=pn:=⟨_,rfl⟩
  have HPN:=Hp.neg HG.out
  have NN:=fun w=>Neg_any p w
  rw[hpn] at HPN
  rw[hpn] at NN
  have HPN:=Lib.hid HPN
  have NN:=Lib.hid NN
  clear hpn
  have BC:=Base_any
  have HB2:=HB.out
  generalize kbase=kb at BC HB2
  have MX:=Lib.hid (show ∀w8:World,Below w.heap.size w w8→Pc w8 (some ⟨k,0,none⟩,32,32,K)→Calls Tryz.prog 45 #[.slice (some ⟨k,0,none⟩) 32 32,.agg pn.v,.slice (some ⟨ad.block,ad.off+32,none⟩) 32 (cs - 32)] w8 (RetPE (ga (ti (le K) (gn g)) (ti (le Z) b)) w8) from fun w8 hw pk=>by
   have pz:=FF2.out.below hw
   have k32:K.length=32:=pk.len.symm
   have z32:Z.length=32:=pz.len.symm
   exact Mix_any (some ⟨k,0,none⟩) 32 32 K pn (some ⟨ad.block,ad.off+32,none⟩) 32 (cs - 32) Z w8 (gn g) b (TB.out.below hw) (Nat.le_refl _) (Nat.le_refl _) pk.lt pz.lt (by have:Sl w8 (some ⟨k,0,none⟩) K.length (bl K):=pk.row;rwa [k32] at this) (by have:Sl w8 (some ⟨ad.block,ad.off+32,none⟩) Z.length (bl Z):=pz.row;rwa [z32] at this) HPN.out kb BC HB2)
  clear BC HB2 SK SC
  refine wp_region_lit ?_
  refine sq_run (.slice (some ⟨k,0,none⟩) 32 32) rfl (by kernel_rfl) ?_
  refine sq_load q 0 20 33 p.v C7.out p.v 33 (.tmp 7) rfl rfl (by kernel_rfl) (by kernel_rfl) (by kernel_rfl) Tryz.underlying33 rfl sizeP ?_
  refine sq_enter 46 #[.agg p.v] rfl (by kernel_rfl) ((NN.out _).mono ?_)
  rintro e W8 ⟨rfl,E8⟩
  refine⟨_,rfl,?_⟩
  have D8:=Lib.hid (D7.out.trans (E8.mono D7.out.size))
  have P8:=Lib.hid (P7.out.below E8)
  clear E8
  refine sq_run (.slice (some ⟨ad.block,ad.off+32,none⟩) 32 (cs - 32)) rfl (by kernel_rfl) ?_
  refine sq_enter 45 #[.slice (some ⟨k,0,none⟩) 32 32,.agg pn.v,.slice (some ⟨ad.block,ad.off+32,none⟩) 32 (cs - 32)] rfl (by kernel_rfl) ((MX.out _ D8.out P8.out).mono ?_)
  rintro e W9 ⟨r,rfl,hr,E9⟩
  refine⟨_,rfl,?_⟩
  have D9:=D8.out.trans (E9.mono D8.out.size)
  have HR:=Lib.hid hr
  clear E9 hr
  refine sq_run (.tuple #[.agg r.v,.int .i64 0]) rfl (by kernel_rfl) ?_
  refine sq_run (.agg r.v) rfl (by kernel_rfl) ?_
  refine sq_run (.int .i64 0) rfl (by kernel_rfl) ?_
  refine sq_new (W9.alloc (.cells z20 33)) (.pointer (some ⟨W9.heap.size,0,none⟩)) rfl (by kernel_rfl) ?_
  have D10:=D9.alloc D9.size (.cells z20 33)
  have BN:=Bl.new_ W9 33 z20
  have hz9:=D9.size
  obtain⟨h,hh⟩:∃h,W9.heap.size=h:=⟨_,rfl⟩
  rw[hh] at BN hz9 ⊢
  clear D9 hh
  refine sq_store h 33 z20 r.v BN 33 (.tmp 12) (.tmp 50) rfl rfl (by kernel_rfl) (by kernel_rfl) (KP.sz kz4 _) sizeP (KP.ones _) fun W11 C11 G11=>?_
  have D11:=below_only (g:=h) D10 G11 hz9
  clear D10 BN G11
  refine sq_run (.int .i64 0) rfl (by kernel_rfl) ?_
  refine sq_done ?_
  simp only[Act.put,List.setIfInBounds_toArray,List.set_cons_zero,List.set_cons_succ]
  have EN:=(PEncode_any W11 HR.out).mono fun e w' h=>RetB.p h (by_length _ _) (by_lt _ _)
  obtain⟨Y,hY⟩:∃Y,by_ (gb (ga (ti (le K) (gn g)) (ti (le Z) b))) 32=Y:=⟨_,rfl⟩
  rw[hY] at EN EV
  clear hY
  have EN:=Lib.hid EN
  go_upto_region 13 with(fail)
  refine wp_region_lit ?_
  refine sq_load h 0 20 33 r.v C11 r.v 33 (.tmp 12) rfl rfl (by kernel_rfl) (by kernel_rfl) (by kernel_rfl) Tryz.underlying33 rfl sizeP ?_
  refine sq_enter 16 #[.agg r.v] rfl (by kernel_rfl) (EN.out.mono ?_)
  rintro e W12 ⟨y,rfl,p12,b12⟩
  refine⟨_,rfl,?_⟩
  have D12:=Lib.hid (D11.trans (b12.mono D11.size))
  have EQ:=equal_p p12 (FF1.out.below D12.out)
  clear D11 p12 b12 C11
  refine sq_run (.slice (some ad) 32 cs) rfl (by kernel_rfl) ?_
  obtain⟨t,ht⟩:∃t,decide (Y=F)=t:=⟨_,rfl⟩
  rw[ht] at EQ
  have EV2:=Lib.hid (show V=if t=true then 0 else 42 by
   rw[EV.out,←ht];simp only[if_true,decide_eq_true_eq])
  have EQ:=Lib.hid EQ
  clear ht EV
  refine sq_enter 47 #[.slice (some ⟨y,0,none⟩) 32 32,.slice (some ad) 32 cs] rfl (by kernel_rfl) (EQ.out.mono ?_)
  rintro e W13 ⟨rfl,rfl⟩
  refine⟨_,rfl,?_⟩
  cases t
  ·refine sq_run (.bool true) rfl (by kernel_rfl) ?_
   refine sq_done ?_
   simp only[Act.put,List.setIfInBounds_toArray,List.set_cons_zero,List.set_cons_succ]
   go_wp2_with fail
   go_ret
   exact⟨ret_int EV2.out.symm,D12.out⟩
  ·refine sq_run (.bool false) rfl (by kernel_rfl) ?_
   refine sq_done ?_
   simp only[Act.put,List.setIfInBounds_toArray,List.set_cons_zero,List.set_cons_succ]
   go_wp2_with fail
   go_ret
   exact⟨ret_int EV2.out.symm,D12.out⟩
 ·have EV2:=Lib.hid (show V=42 by rw[EV.out,if_neg hz0])
  clear EV
  have hzn:(z != 0)=true:=by simpa using hz0
  clear hz0
  go_wp2_with (go_at_call 44;(with_reducible refine SC.out.mono ?_);rintro e w6 ⟨rfl,b6⟩;have D6:=Lib.hid (D5.out.trans (b6.mono D5.out.size));clear b6)
  go_ret
  exact⟨ret_int EV2.out.symm,D6.out⟩
end Go.Proofs.YtoibhnpmemnlfaaGreatDoor.Ed
