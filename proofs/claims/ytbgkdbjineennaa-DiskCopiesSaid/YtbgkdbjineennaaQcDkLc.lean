/- Joined texts. -/
import Derived.Test.YtbgkdbjineennaaQcDkSn
import Derived.Test.YtbgkdbjineennaaQcDkLi
set_option linter.unusedVariables false
namespace Go.Proofs.Ytbgkdbjineennaa.Dk
open Go.IntWalk Go.RowKit Go.Proofs.Ytbgkdbjineennaa.Gn Go.Proofs.Ytbgkdbjineennaa.Fd Go.Deep
theorem blk_size{w:World}{q n:Nat}{t:TypeId}{cs:Array Value}{xs:List Value}(hb:Bl w q t cs)(hs:Sl w (some ⟨q,0,none⟩) n xs):n≤cs.size:=by
 rcases Nat.eq_zero_or_pos n with rfl|hn
 ·exact Nat.zero_le _
 ·obtain⟨v,hv⟩:∃v,xs[n - 1]?=some v:=⟨_,List.getElem?_eq_getElem (by rw[hs.1];omega)⟩
  obtain⟨ad,e,hc⟩:=hs.2 (n - 1) v hv
  cases e
  rw[add_at,Bl.cell hb] at hc
  have:=(Array.getElem?_eq_some_iff.1 hc).1
  omega
def ReadU(w:World)(e:Ending)(w':World):Prop:=∃A k cap er q,e=.returned (.tuple #[.slice A k cap,.int .i64 er])∧Below w.heap.size w w'∧w.heap.size≤q∧k≤64∧(0 < k→A=some ⟨q,0,none⟩∧∃cs,Bl w' q 5 cs∧k≤cs.size)
section
variable {w:World} {base g gb:Nat} {H:Value} {cs:Bool} {cw:Int} {ch:Value} {m:M}
theorem Read_u(D:Dd w base g gb H cs cw ch m)(hk:m.hd.length < 1000000):Calls Try.prog 24 #[.pointer (some ⟨g,0,none⟩),.int .i64 0] w (ReadU w):=by
 by_cases h0:m.reach 0=0
 ·refine(Read_blk D hk 0 h0).mono ?_
  rintro e w' ⟨q,cap,rfl,h1,h2,h3,h4,h5⟩
  obtain⟨cs,hb⟩:=h5
  exact⟨_,_,_,_,q,rfl,h3,h2,Nat.le_refl _,fun _=>⟨rfl,cs,hb,blk_size hb h1⟩⟩
 ·refine(Read_bad D 0 h0).mono ?_
  rintro e w' ⟨rfl,rfl⟩
  exact⟨_,_,_,_,w.heap.size,rfl,Below.refl _ _,Nat.le_refl _,by omega,fun h=>by omega⟩
theorem two_apart(D:Dd w base g gb H cs cw ch m){b2 c cb:Nat}{cH:Value}{cs2:Bool}{cw2:Int}{cch:Value}{m2:M}(E:Dd w b2 c cb cH cs2 cw2 cch m2)(h1:g≠c)(h2:gb≠cb)(h3:∀b,H.ownBlock=some b→cH.ownBlock≠some b){lo:Nat}{w':World}(hF:Fx (Ts g gb H) lo w w'):Dd w' b2 c cb cH cs2 cw2 cch m2:=by
 obtain⟨j1,j2,j3,j4⟩:=D.kinds
 obtain⟨k1,k2,k3,k4⟩:=E.kinds
 refine E.fx hF fun b hb=>?_
 simp only[Ts,List.mem_cons,Option.mem_toList] at hb
 rcases hb with rfl|rfl|hb
 ·exact⟨h1,j1.unlike k2 (by decide),fun e=>j1.unlike (k3 _ e).2 (by decide) rfl,fun e=>j1.unlike (k4 _ e).2 (by decide) rfl⟩
 ·exact⟨j2.unlike k1 (by decide),h2,fun e=>j2.unlike (k3 _ e).2 (by decide) rfl,fun e=>j2.unlike (k4 _ e).2 (by decide) rfl⟩
 ·have hj:=(j3 _ hb).2
  exact⟨hj.unlike k1 (by decide),hj.unlike k2 (by decide),h3 b hb,fun e=>hj.unlike (k4 _ e).2 (by decide) rfl⟩
theorem Dd.new_kept(D:Dd w base g gb H cs cw ch m){w1 w2:World}(h1:Below w.heap.size w w1){q:Nat}(hq:w.heap.size≤q)(hG:Gx [q] w1 w2):Dd w2 base g gb H cs cw ch m :=
 (D.below h1).away D.box hG (fun b hb=>by rw[List.mem_singleton.1 hb];exact .inr hq)
end
theorem playl_take(m:M)(l:List Od){i:Nat}{o:Od}(h:l[i]?=some o):m.playl (l.take (i+1))=(m.playl (l.take i)).play o:=by
 obtain⟨hi,e⟩:=List.getElem?_eq_some_iff.1 h
 rw[List.take_add_one,h]
 show(l.take i ++ [o]).foldl M.play m=_
 rw[List.foldl_append];rfl
theorem playl_size(l:List Od):∀m:M,(m.playl l).ss.length=m.ss.length:=by
 induction l with
 |nil=>intro m;rfl
 |cons o l ih=>intro m;show((m.play o).playl l).ss.length=_;rw[ih,M.play_size]
set_option maxRecDepth 100000 in
set_option maxHeartbeats 16000000 in
theorem walk_diskCopies{w:World}(B:Option Addr)(mm cap:Nat)(bs:List Nat)(hB:Sl w B mm (bl bs))(hB0:B=none→cap=0)(hcap:mm≤cap)(s:Int){L:Option Addr}{l:List Od}(lc:Nat)(hl:Ol w w.heap.size L l){L2:Option Addr}{l2:List Od}(lc2:Nat)(hl2:Ol w w.heap.size L2 l2) :
  Calls Try.prog 6 #[.slice B mm cap,.int .i64 s,.slice L l.length lc,.slice L2 l2.length lc2] w fun e w'=>e=.returned (.bool true)∧Below w.heap.size w w':=by
 have MC:=Lib.hid (made_any lc hl B mm cap bs hB hB0 hcap s)
 have KN:=Lib.hid known_any
 have HO:=Lib.hid hl2
 have n29:=hl2.n9
 obtain⟨K,hK⟩:∃K,l.length=K:=⟨_,rfl⟩
 obtain⟨K2,hK2⟩:∃K2,l2.length=K2:=⟨_,rfl⟩
 have HK2:=Lib.hid hK2
 rw[hK] at MC ⊢
 rw[hK2] at n29 ⊢
 have LC:∀u,Below w.heap.size w u→Calls Try.prog 17 #[.slice L2 K2 lc2] u fun e w'=>e=.returned (.bool (lg 0 l2))∧Below u.heap.size u w':=fun u hu=>by
  have:=long_any lc2 ((hl2.low hu).up hu.size)
  rwa [hK2] at this
 clear hl hB hB0 hcap hK hl2 hK2
 go_enter Try.func6,Try.ntmps6
 go_upto_region 2 with(go_at_call 8;(with_reducible refine MC.out.mono ?_);rintro e w1 ⟨p,rfl,hp,hb1⟩;have B1:=Lib.hid hb1;have HP:=Lib.hid hp;clear hb1 hp)
 have hp:=HP.out
 clear HP
 rcases hp with rfl|⟨g,gb,H,cs,cw,ch,m,rfl,d1,h1,h2,h3,-, -⟩
 ·go_wp2_with (go_at_call 10;(with_reducible refine(KN.out _).mono ?_);rintro e w2 ⟨rfl,hb2⟩;have B2:=Lib.hid hb2;clear hb2)
  go_ret
  exact⟨rfl,B1.out.trans (B2.out.mono B1.out.size)⟩
 have D1:=Lib.hid d1
 clear d1
 have LC1:=LC w1 B1.out
 clear LC
 cases hlg:lg 0 l2 with
 |true =>
  rw[hlg] at LC1
  have LC1:=Lib.hid LC1
  clear hlg
  go_wp2_with (first
   |(go_at_call 17;(with_reducible refine LC1.out.mono ?_);rintro e w3 ⟨rfl,hb3⟩;have B3:=Lib.hid hb3;clear hb3)
   |(go_at_call 10;(with_reducible refine(KN.out _).mono ?_);rintro e w2 ⟨rfl,hb2⟩;have B2:=Lib.hid hb2;clear hb2))
  go_ret
  have b3:=B1.out.trans (B3.out.mono B1.out.size)
  exact⟨rfl,b3.trans (B2.out.mono b3.size)⟩
 |false =>
  rw[hlg] at LC1
  have LC1:=Lib.hid LC1
  have TT:=Lib.hid (lg_tot l2 0 hlg)
  have K29:K2≤3000:=by have:=TT.out;have:=len_tot l2;have:=HK2.out;omega
  clear hlg
  have HM:=Lib.hid (And.intro h1 (And.intro h2 h3))
  clear h1 h2 h3
  go_upto_region 7 with(first
   |(go_at_call 17;(with_reducible refine LC1.out.mono ?_);rintro e w2 ⟨rfl,hb2⟩;have B2:=Lib.hid hb2;have D2:=Lib.hid (D1.out.below hb2);clear hb2)
   |(go_at_call 23;(with_reducible refine(Copy_dd D2.out (by have:=HM.out.1;omega) (by have:=HM.out.2.1;omega)).mono ?_);rintro e w3 ⟨c,cb,cH,cch,cp1,tl1,rfl,dc,hb3⟩;have DC3:=Lib.hid dc;have B3:=Lib.hid hb3;have D3:=Lib.hid (D2.out.below hb3);clear dc hb3)
   |(go_at_call 23;(with_reducible refine(Copy_dd D3.out (by have:=HM.out.1;omega) (by have:=HM.out.2.1;omega)).mono ?_);rintro e w4 ⟨kp,kb,kH,kch,cp2,tl2,rfl,dk,hb4⟩;have DK4:=Lib.hid dk;have B4:=Lib.hid hb4;have D4:=Lib.hid (D3.out.below hb4);have DC4:=Lib.hid (DC3.out.below hb4);clear dk hb4))
  have a02:w.heap.size≤w2.heap.size:=Nat.le_trans B1.out.size B2.out.size
  have a03:w2.heap.size≤w3.heap.size:=B3.out.size
  have a34:w3.heap.size≤w4.heap.size:=B4.out.size
  have BB4:=Lib.hid ((B1.out.trans (B2.out.mono B1.out.size)).trans (((B3.out.trans (B4.out.mono B3.out.size)).mono a02)))
  have bD:=D2.out.box
  have bC:=DC3.out.box
  have NE:=Lib.hid (show g≠c∧gb≠cb∧(∀b,H.ownBlock=some b→b < w2.heap.size)∧(∀b,cH.ownBlock=some b→w2.heap.size≤b∧b < w3.heap.size) from by
   obtain⟨k1,k2,k3,k4⟩:=bD
   obtain⟨j1,j2,j3,j4⟩:=bC
   exact⟨by omega,by omega,fun b hb=>(k3 b hb).2,fun b hb=>j3 b hb⟩)
  clear bD bC
  have X4:=flat_len _ D4.out.ok.row
  obtain⟨N,hN⟩:∃N,m.ss.length=N:=⟨_,rfl⟩
  have N9:N≤100:=by have:=HM.out.1;omega
  have HN:=Lib.hid hN
  rw[hN] at X4
  have BC4:=Lib.hid ((bytes_kd D4.out (by have:=HM.out.1;omega)).mono fun e w' (h:BytK w4 m.ss.flatten e w')=>show ∃q cap,e=.returned (.slice (some ⟨q,0,none⟩) (64*N) cap)∧(∃cu,Bl w' q 5 cu∧64*N≤cu.size)∧w4.heap.size≤q∧64*N≤cap∧Below w4.heap.size w4 w' from by
   unfold BytK at h
   rw[X4] at h
   obtain⟨q,cap,h1,h2,h3,h4,⟨cu,h5⟩,h6⟩:=h
   exact⟨q,cap,h1,⟨cu,h5,blk_size h5 h2⟩,h3,h4,h6⟩)
  clear X4 hN
  go_upto_region 8 with(go_at_call 13;(with_reducible refine BC4.out.mono ?_);rintro e w5 ⟨q5,c5,rfl,k1,k2,k3,k4⟩;have S5:=Lib.hid k1;have Q5:=Lib.hid k2;have B5:=Lib.hid k4;clear k1 k2 k4)
  go_wp2_with fail
  go_loopw [13] (fun a wr=>∃(i:Nat) (cu:Array Value),a=.int .i64 (i:Int)∧i≤64*N∧Bl wr q5 5 cu∧64*N≤cu.size∧Gx [q5] w5 wr) (fun a _=>64*N - (intOf a).toNat)
  case atStart =>
   obtain⟨cu,hcu1,hcu2⟩:=S5.out
   exact⟨0,cu,rfl,Nat.zero_le _,hcu1,hcu2,Gx.refl _ _⟩
  case round =>
   obtain⟨i,cu,rfl,hi,hcu1,hcu2,hg⟩:=hrel
   by_cases hlt:i < 64*N
   ·have q1:(i:Int) < ((64*N:Nat):Int):=by omega
    have cc:wr.cell? ⟨q5,i,none⟩=some (cu[i]'(by omega)):=hcu1.cell_ (Array.getElem?_eq_getElem (by omega))
    have cf:=hcu1.frozen i
    have HB:=Lib.hid hcu1
    have HG:=Lib.hid hg
    clear hcu1 hg
    go_wp2_with fail
    exact⟨⟨i+1,_,by go_num,by omega,HB.out.set_ i _,by rw[Array.size_setIfInBounds];exact hcu2,HG.out.set (by simp) _⟩,by simp[intOf];omega⟩
   ·have q1:¬(i:Int) < ((64*N:Nat):Int):=by omega
    have D6:=Lib.hid (D4.out.new_kept B5.out Q5.out hg)
    have DC6:=Lib.hid (DC4.out.new_kept B5.out Q5.out hg)
    have DK6:=Lib.hid (DK4.out.new_kept B5.out Q5.out hg)
    have B6:=Lib.hid (show Below w4.heap.size w4 wr from B5.out.trans (hg.below B5.out.size (fun k hk=>by rw[List.mem_singleton.1 hk];exact Q5.out)))
    clear hcu1 hcu2 hg hlt hi
    obtain⟨w6,hw6⟩:∃w6,wr=w6:=⟨_,rfl⟩
    rw[hw6] at D6 DC6 DK6 B6 ⊢
    clear hw6 wr
    have RU:=Lib.hid (Read_u D6.out (by have:=HM.out.2.1;omega))
    go_upto_region 13 with(go_at_call 24;(with_reducible refine RU.out.mono ?_);rintro e w7 ⟨A7,k7,c7,er7,q7,rfl,j1,j2,j3,j4⟩;have B7:=Lib.hid j1;have Q7:=Lib.hid j2;have R7:=Lib.hid j4;clear j1 j2 j4)
    go_wp2_with fail
    go_loopw [16] (fun a wr=>∃(i:Nat),a=.int .i64 (i:Int)∧i≤k7∧Gx [q7] w7 wr∧(0 < k7→A7=some ⟨q7,0,none⟩∧∃cs,Bl wr q7 5 cs∧k7≤cs.size)) (fun a _=>k7 - (intOf a).toNat)
    case atStart=>exact⟨0,rfl,Nat.zero_le _,Gx.refl _ _,R7.out⟩
    case round =>
     obtain⟨i,rfl,hi,hg,hr⟩:=hrel
     by_cases hlt:i < k7
     ·have q1:(i:Int) < (k7:Int):=by omega
      obtain⟨rfl,cu,hcu1,hcu2⟩:=hr (by omega)
      have cc:wr.cell? ⟨q7,i,none⟩=some (cu[i]'(by omega)):=hcu1.cell_ (Array.getElem?_eq_getElem (by omega))
      have cf:=hcu1.frozen i
      have HB:=Lib.hid hcu1
      have HG:=Lib.hid hg
      clear hcu1 hg hr
      go_wp2_with fail
      exact⟨⟨i+1,by go_num,by omega,HG.out.set (by simp) _,fun _=>⟨by trivial,_,HB.out.set_ i _,by rw[Array.size_setIfInBounds];exact hcu2⟩⟩,by simp[intOf];omega⟩
     ·have q1:¬(i:Int) < (k7:Int):=by omega
      have D8:=Lib.hid (D6.out.new_kept B7.out Q7.out hg)
      have DC8:=Lib.hid ((DC6.out.new_kept B7.out Q7.out hg).rebase a02)
      have DK8:=Lib.hid (DK6.out.new_kept B7.out Q7.out hg)
      have B8:=Lib.hid (show Below w.heap.size w wr from BB4.out.trans ((B6.out.trans ((B7.out.trans (hg.below B7.out.size (fun k hk=>by rw[List.mem_singleton.1 hk];exact Q7.out))).mono B6.out.size)).mono BB4.out.size))
      have s48:w4.heap.size≤wr.heap.size:=Nat.le_trans B6.out.size (Nat.le_trans B7.out.size hg.size)
      clear hg hlt hi hr
      obtain⟨w8,hw8⟩:∃w8,wr=w8:=⟨_,rfl⟩
      rw[hw8] at D8 DC8 DK8 B8 s48 ⊢
      clear hw8 wr
      have NR:=New_r (w:=w8) (a0:=w.heap.size) B8.out.size none 0 0 [] (Sl.nil_ _ _) (fun _=>rfl) (Nat.le_refl _) 1 (Nat.le_refl _) (by omega) (by omega)
      have NR:=Lib.hid (show Calls Try.prog 25 #[.slice none 0 0,.int .i64 1] w8 (NewRQ w8 w.heap.size 1 0) from NR)
      go_upto_region 18 with(go_at_call 25;(with_reducible refine NR.out.mono ?_);rintro e w9 ⟨r,rfl,r1,r2⟩;have R9:=Lib.hid (show Rd w9 w.heap.size w8.heap.size r 1 3000 from r1.more (by omega));have B9:=Lib.hid r2;clear r1 r2)
      obtain⟨lo,hlo⟩:∃lo,w8.heap.size=lo:=⟨_,rfl⟩
      have D9:=Lib.hid (D8.out.below B9.out)
      have DC9:=Lib.hid (DC8.out.below B9.out)
      have DK9:=Lib.hid (DK8.out.below B9.out)
      have LO:=Lib.hid (show gb < lo∧cb < lo∧w.heap.size≤lo from by
       rw[←hlo]
       exact⟨Bl.lt D8.out.byt,Bl.lt DC8.out.byt,B8.out.size⟩)
      have BB9:=Lib.hid (B8.out.trans (B9.out.mono B8.out.size))
      have s39:w3.heap.size≤w9.heap.size:=Nat.le_trans a34 (Nat.le_trans s48 B9.out.size)
      rw[hlo] at R9
      clear hlo
      go_wp2_with fail
      go_loopw [19] (fun a wr=>∃(i Ki:Nat) (Hi:Value) (csi:Bool) (cwi:Int) (chi:Value),a=.int .i64 (i:Int)∧i≤K2∧Dd wr w.heap.size g gb Hi csi cwi chi (m.playl (l2.take i))∧Dd wr w.heap.size c cb cH cs cw cch (m.re cp1 tl1)∧Rd wr w.heap.size lo r 1 Ki∧Below w.heap.size w wr∧(m.playl (l2.take i)).hd.length≤Ki∧(m.playl (l2.take i)).st≤Ki∧Ki+tot (l2.drop i)≤6000∧(Hi.ownBlock=H.ownBlock∨∃q,Hi.ownBlock=some q∧w9.heap.size≤q)∧w9.heap.size≤wr.heap.size∧(K2=0→w9=wr)) (fun a _=>K2 - (intOf a).toNat)
      case atStart=>exact⟨0,3000,H,cs,cw,ch,rfl,Nat.zero_le _,D9.out,DC9.out,R9.out,BB9.out,HM.out.2.1,HM.out.2.2,by have:=TT.out;simp;omega,.inl rfl,Nat.le_refl _,fun _=>rfl⟩
      case round =>
       obtain⟨i,Ki,Hi,csi,cwi,chi,rfl,hi,hd,hdc,hr,hb,t2,t3,t4,hH,hsz,hz⟩:=hrel
       have HD:=Lib.hid hd
       have HDC:=Lib.hid hdc
       have HR:=Lib.hid hr
       have HBB:=Lib.hid hb
       have HH:=Lib.hid hH
       clear hd hdc hr hb hH
       by_cases hlt:i < K2
       ·have q1:(i:Int) < (K2:Int):=by omega
        obtain⟨o,ho⟩:∃o,l2[i]?=some o:=⟨_,List.getElem?_eq_getElem (by have:=HK2.out;omega)⟩
        have hok:=(HO.out.low HBB.out).ok o (List.mem_of_getElem? ho)
        rw[drop_at ho,tot] at t4
        obtain⟨ad,rfl,ae,hae,k0,k1,k2,k3',k4⟩:=od_cells (HO.out.low HBB.out) ho
        have PC:=Lib.hid (plays_any HD.out HR.out LO.out.1 (by rw[playl_size];exact HM.out.1) o hok (by omega) t2 t3)
        have hbl:o.bs.length=o.bn:=by have:=hok.b.1;rwa [bl_length] at this
        have HS:=Lib.hid ((m.playl (l2.take i)).play_hs o hbl)
        have TT2:=Lib.hid (And.intro t2 (And.intro t3 t4))
        have PT:=Lib.hid (playl_take m l2 ho)
        clear ho hok hbl t2 t3 t4 hz
        go_wp2_with (go_at_call 26;(with_reducible refine PC.out.mono ?_);rintro e w10 ⟨⟨bb,rfl⟩,H1,cs1,cw1,ch1,d1,o1,r1,f1⟩;have E1:=Lib.hid d1;have E2:=Lib.hid r1;have E3:=Lib.hid f1;have E4:=Lib.hid o1;clear d1 r1 f1 o1)
        have hs:=HS.out
        obtain⟨t2,t3,t4⟩:=TT2.out
        refine⟨⟨i+1,Ki+o.bn+1,H1,cs1,cw1,ch1,by go_num,by omega,by rw[PT.out];exact E1.out,two_apart HD.out HDC.out NE.out.1 NE.out.2.1 (fun b hb e=>?_) E3.out,E2.out,HBB.out.trans (E3.out.below HBB.out.size (ts_base HD.out) LO.out.2.2),by rw[PT.out];omega,by rw[PT.out];omega,by omega,own_next hsz HH.out E4.out,Nat.le_trans hsz E3.out.size,fun h=>by omega⟩,by simp[intOf];omega⟩
        have j1:=NE.out.2.2.2 b e
        rcases HH.out with h|⟨q,h,hq⟩
        ·rw[h] at hb;have:=NE.out.2.2.1 b hb;omega
        ·rw[h] at hb;cases hb;omega
       ·have q1:¬(i:Int) < (K2:Int):=by omega
        have e0:l2.take i=l2:=List.take_of_length_le (by have:=HK2.out;omega)
        have e1:l2.drop i=[]:=List.drop_of_length_le (by have:=HK2.out;omega)
        rw[e0] at HD t2 t3
        obtain⟨md,hmd⟩:∃md,m.playl l2=md:=⟨_,rfl⟩
        have HMD:=Lib.hid hmd
        rw[hmd] at HD t2 t3
        have hKi:Ki≤6000:=by omega
        obtain⟨wA,hwA⟩:∃wA,wr=wA:=⟨_,rfl⟩
        rw[hwA] at HD HDC HR HBB hz hsz ⊢
        have RA:=Lib.hid (HR.out.more hKi)
        have HZ:=Lib.hid hz
        have HIA:=Lib.hid (show ∀b,Hi.ownBlock=some b→(b < w2.heap.size∨w9.heap.size≤b)∧b < wA.heap.size from fun b hb=>⟨by
         rcases HH.out with h|⟨q,h,hq⟩
         ·rw[h] at hb;exact .inl (NE.out.2.2.1 b hb)
         ·rw[h] at hb;cases hb;exact .inr hq,own_lt HD.out.own hb⟩)
        clear hmd hwA wr hz e0 e1 t4 hlt hi t2 t3 hKi
        go_wp2_with fail
        go_loopw [20] (fun a wr=>∃(j Kj:Nat) (Hj:Value) (csj:Bool) (cwj:Int) (chj:Value),a=.int .i64 (j:Int)∧j≤K2∧Dd wr w.heap.size c cb Hj csj cwj chj ((m.re cp1 tl1).playl (l2.take j))∧Dd wr w.heap.size g gb Hi csi cwi chi md∧Rd wr w.heap.size lo r 1 Kj∧Below w.heap.size w wr∧((m.re cp1 tl1).playl (l2.take j)).hd.length≤Kj∧((m.re cp1 tl1).playl (l2.take j)).st≤Kj∧Kj+tot (l2.drop j)≤9000∧(Hj.ownBlock=cH.ownBlock∨∃q,Hj.ownBlock=some q∧wA.heap.size≤q)∧wA.heap.size≤wr.heap.size∧(K2=0→wA=wr)) (fun a _=>K2 - (intOf a).toNat)
        case atStart=>exact⟨0,6000,cH,cs,cw,cch,rfl,Nat.zero_le _,HDC.out,HD.out,RA.out,HBB.out,by show m.hd.length≤6000;have:=HM.out.2.1;omega,by show m.st≤6000;have:=HM.out.2.2;omega,by have:=TT.out;simp;omega,.inl rfl,Nat.le_refl _,fun _=>rfl⟩
        case round =>
         obtain⟨j,Kj,Hj,csj,cwj,chj,rfl,hj,hdc,hd,hr,hb,t2,t3,t4,hH,hsz2,hz⟩:=hrel
         have HC2:=Lib.hid hdc
         have HD2:=Lib.hid hd
         have HR2:=Lib.hid hr
         have HB2:=Lib.hid hb
         have HH2:=Lib.hid hH
         clear hd hdc hr hb hH
         by_cases hlt:j < K2
         ·have q1:(j:Int) < (K2:Int):=by omega
          obtain⟨o,ho⟩:∃o,l2[j]?=some o:=⟨_,List.getElem?_eq_getElem (by have:=HK2.out;omega)⟩
          have hok:=(HO.out.low HB2.out).ok o (List.mem_of_getElem? ho)
          rw[drop_at ho,tot] at t4
          obtain⟨ad,rfl,ae,hae,k0,k1,k2,k3',k4⟩:=od_cells (HO.out.low HB2.out) ho
          have PC:=Lib.hid (plays_any HC2.out HR2.out LO.out.2.1 (by rw[playl_size];exact HM.out.1) o hok (by omega) t2 t3)
          have hbl:o.bs.length=o.bn:=by have:=hok.b.1;rwa [bl_length] at this
          have HS:=Lib.hid (((m.re cp1 tl1).playl (l2.take j)).play_hs o hbl)
          have TT2:=Lib.hid (And.intro t2 (And.intro t3 t4))
          have PT:=Lib.hid (playl_take (m.re cp1 tl1) l2 ho)
          clear ho hok hbl t2 t3 t4 hz
          go_wp2_with (go_at_call 26;(with_reducible refine PC.out.mono ?_);rintro e w10 ⟨⟨bb,rfl⟩,H1,cs1,cw1,ch1,d1,o1,r1,f1⟩;have E1:=Lib.hid d1;have E2:=Lib.hid r1;have E3:=Lib.hid f1;have E4:=Lib.hid o1;clear d1 r1 f1 o1)
          have hs:=HS.out
          obtain⟨t2,t3,t4⟩:=TT2.out
          refine⟨⟨j+1,Kj+o.bn+1,H1,cs1,cw1,ch1,by go_num,by omega,by rw[PT.out];exact E1.out,two_apart HC2.out HD2.out (Ne.symm NE.out.1) (Ne.symm NE.out.2.1) (fun b hb e=>?_) E3.out,E2.out,HB2.out.trans (E3.out.below HB2.out.size (ts_base HC2.out) LO.out.2.2),by rw[PT.out];omega,by rw[PT.out];omega,by omega,own_next hsz2 HH2.out E4.out,Nat.le_trans hsz2 E3.out.size,fun h=>by omega⟩,by simp[intOf];omega⟩
          obtain⟨j1,j2⟩:=HIA.out b e
          rcases HH2.out with h|⟨q,h,hq⟩
          ·rw[h] at hb;have:=NE.out.2.2.2 b hb;omega
          ·rw[h] at hb;cases hb;omega
         ·have q1:¬(j:Int) < (K2:Int):=by omega
          have e0:l2.take j=l2:=List.take_of_length_le (by have:=HK2.out;omega)
          rw[e0,playl_re,HMD.out] at HC2
          have hmd9:md.ss.length≤1500:=by rw[←HMD.out,playl_size];have:=HM.out.1;omega
          have BCd:=bytes_new HD2.out hmd9
          obtain⟨X,hX⟩:∃X,md.ss.flatten=X:=⟨_,rfl⟩
          rw[hX] at BCd
          have HX:=Lib.hid hX
          have BCd:=Lib.hid BCd
          have HZ2:=Lib.hid hz
          clear hX e0 t2 t3 t4 hz hlt hj
          by_cases hK0:K2=0
          ·obtain rfl:w9=wA:=HZ.out hK0
           obtain rfl:w9=wr:=HZ2.out hK0
           have hl0:l2=[]:=List.length_eq_zero_iff.1 (by rw[HK2.out];exact hK0)
           have hXm:m.ss.flatten=X:=by rw[←HX.out,←HMD.out,hl0];rfl
           have HXM:=Lib.hid hXm
           have q2:¬(0:Int) < (K2:Int):=by omega
           have hm9:m.ss.length≤1500:=by have:=HM.out.1;omega
           clear hXm hl0 hK0
           go_wp2_with (first
            |(go_at_call 13;(with_reducible refine BCd.out.mono ?_);rintro e u1 ⟨q8,c8,rfl,k1,-, -, k3⟩;have S8:=Lib.hid k1;have U1:=Lib.hid k3;have Dd1:=Lib.hid (HD2.out.below k3);have Dc1:=Lib.hid (HC2.out.below k3);have BCc:=bytes_new Dc1.out (show(md.re cp1 tl1).ss.length≤1500 from hmd9);rw[show(md.re cp1 tl1).ss.flatten=X from HX.out] at BCc;have BCc:=Lib.hid BCc;clear k1 k3)
            |(go_at_call 13;(with_reducible refine BCc.out.mono ?_);rintro e u2 ⟨q9,c9,rfl,k1,-, -, k3⟩;have U2:=Lib.hid k3;have Dd2:=Lib.hid (Dd1.out.below k3);have Dc2:=Lib.hid (Dc1.out.below k3);have SB:=same_any (some ⟨q8,0,none⟩) (some ⟨q9,0,none⟩) X.length X.length c8 c9 X X u2 (S8.out.below k3) k1;rw[decide_eq_true rfl] at SB;have SB:=Lib.hid SB;have HE:=Lib.hid (held_dd Dd2.out);have HEC:=Lib.hid (show Calls Try.prog 16 #[.pointer (some ⟨c,0,none⟩)] u2 (fun e w'=>e=.returned (.int .i64 (md.hd.length:Int))∧u2=w') from held_dd (m:=md.re cp1 tl1) Dc2.out);have SR:=Lib.hid (strokes_dd Dd2.out);have SRC:=Lib.hid (show Calls Try.prog 27 #[.pointer (some ⟨c,0,none⟩)] u2 (fun e w'=>e=.returned (.int .i64 (md.st:Int))∧u2=w') from strokes_dd (m:=md.re cp1 tl1) Dc2.out);have UR:=Lib.hid (up_dd Dd2.out);have URC:=Lib.hid (show Calls Try.prog 9 #[.pointer (some ⟨c,0,none⟩)] u2 (fun e w'=>e=.returned (.bool md.up)∧u2=w') from up_dd (m:=md.re cp1 tl1) Dc2.out);have BCk:=bytes_new (DK9.out.below (U1.out.trans (k3.mono U1.out.size))) (show(m.re cp2 tl2).ss.length≤1500 from hm9);rw[show(m.re cp2 tl2).ss.flatten=X from HXM.out] at BCk;have BCk:=Lib.hid BCk;clear k1 k3)
            |(go_at_call 15;(with_reducible refine SB.out.mono ?_);rintro e wa ⟨rfl,rfl⟩)
            |(go_at_call 9;(with_reducible refine UR.out.mono ?_);rintro e wc ⟨rfl,rfl⟩)
            |(go_at_call 9;(with_reducible refine URC.out.mono ?_);rintro e wc ⟨rfl,rfl⟩)
            |(go_at_call 16;(with_reducible refine HE.out.mono ?_);rintro e wb ⟨rfl,rfl⟩)
            |(go_at_call 16;(with_reducible refine HEC.out.mono ?_);rintro e wb ⟨rfl,rfl⟩)
            |(go_at_call 27;(with_reducible refine SR.out.mono ?_);rintro e wb ⟨rfl,rfl⟩)
            |(go_at_call 27;(with_reducible refine SRC.out.mono ?_);rintro e wb ⟨rfl,rfl⟩)
            |(go_at_call 13;(with_reducible refine BCk.out.mono ?_);rintro e u3 ⟨q10,c10,rfl,k1,-, -, k3⟩;have S10:=Lib.hid k1;have U3:=Lib.hid k3;have Dd3:=Lib.hid (Dd2.out.below k3);have BCe:=bytes_new Dd3.out hmd9;rw[HX.out] at BCe;have BCe:=Lib.hid BCe;clear k1 k3)
            |(go_at_call 13;(with_reducible refine BCe.out.mono ?_);rintro e u4 ⟨q11,c11,rfl,k1,-, -, k3⟩;have U4:=Lib.hid k3;have SB2:=same_any (some ⟨q10,0,none⟩) (some ⟨q11,0,none⟩) X.length X.length c10 c11 X X u4 (S10.out.below k3) k1;rw[decide_eq_true rfl] at SB2;have SB2:=Lib.hid SB2;clear k1 k3)
            |(go_at_call 15;(with_reducible refine SB2.out.mono ?_);rintro e wa ⟨rfl,rfl⟩)
            |(go_at_call 10;(with_reducible refine(KN.out _).mono ?_);rintro e wd ⟨rfl,hbd⟩;have BD:=Lib.hid hbd;clear hbd))
           go_ret
           have b4:=U1.out.trans ((U2.out.trans ((U3.out.trans (U4.out.mono U3.out.size)).mono U2.out.size)).mono U1.out.size)
           have b5:=HB2.out.trans (b4.mono HB2.out.size)
           exact⟨rfl,b5.trans (BD.out.mono b5.size)⟩
          ·have q2:(0:Int) < (K2:Int):=by omega
           go_wp2_with (first
            |(go_at_call 13;(with_reducible refine BCd.out.mono ?_);rintro e u1 ⟨q8,c8,rfl,k1,-, -, k3⟩;have S8:=Lib.hid k1;have U1:=Lib.hid k3;have Dd1:=Lib.hid (HD2.out.below k3);have Dc1:=Lib.hid (HC2.out.below k3);have BCc:=bytes_new Dc1.out (show(md.re cp1 tl1).ss.length≤1500 from hmd9);rw[show(md.re cp1 tl1).ss.flatten=X from HX.out] at BCc;have BCc:=Lib.hid BCc;clear k1 k3)
            |(go_at_call 13;(with_reducible refine BCc.out.mono ?_);rintro e u2 ⟨q9,c9,rfl,k1,-, -, k3⟩;have U2:=Lib.hid k3;have Dd2:=Lib.hid (Dd1.out.below k3);have Dc2:=Lib.hid (Dc1.out.below k3);have SB:=same_any (some ⟨q8,0,none⟩) (some ⟨q9,0,none⟩) X.length X.length c8 c9 X X u2 (S8.out.below k3) k1;rw[decide_eq_true rfl] at SB;have SB:=Lib.hid SB;have HE:=Lib.hid (held_dd Dd2.out);have HEC:=Lib.hid (show Calls Try.prog 16 #[.pointer (some ⟨c,0,none⟩)] u2 (fun e w'=>e=.returned (.int .i64 (md.hd.length:Int))∧u2=w') from held_dd (m:=md.re cp1 tl1) Dc2.out);have SR:=Lib.hid (strokes_dd Dd2.out);have SRC:=Lib.hid (show Calls Try.prog 27 #[.pointer (some ⟨c,0,none⟩)] u2 (fun e w'=>e=.returned (.int .i64 (md.st:Int))∧u2=w') from strokes_dd (m:=md.re cp1 tl1) Dc2.out);have UR:=Lib.hid (up_dd Dd2.out);have URC:=Lib.hid (show Calls Try.prog 9 #[.pointer (some ⟨c,0,none⟩)] u2 (fun e w'=>e=.returned (.bool md.up)∧u2=w') from up_dd (m:=md.re cp1 tl1) Dc2.out);clear k1 k3)
            |(go_at_call 15;(with_reducible refine SB.out.mono ?_);rintro e wa ⟨rfl,rfl⟩)
            |(go_at_call 9;(with_reducible refine UR.out.mono ?_);rintro e wc ⟨rfl,rfl⟩)
            |(go_at_call 9;(with_reducible refine URC.out.mono ?_);rintro e wc ⟨rfl,rfl⟩)
            |(go_at_call 16;(with_reducible refine HE.out.mono ?_);rintro e wb ⟨rfl,rfl⟩)
            |(go_at_call 16;(with_reducible refine HEC.out.mono ?_);rintro e wb ⟨rfl,rfl⟩)
            |(go_at_call 27;(with_reducible refine SR.out.mono ?_);rintro e wb ⟨rfl,rfl⟩)
            |(go_at_call 27;(with_reducible refine SRC.out.mono ?_);rintro e wb ⟨rfl,rfl⟩)
            |(go_at_call 10;(with_reducible refine(KN.out _).mono ?_);rintro e wd ⟨rfl,hbd⟩;have BD:=Lib.hid hbd;clear hbd))
           go_ret
           have b5:=HB2.out.trans ((U1.out.trans (U2.out.mono U1.out.size)).mono HB2.out.size)
           exact⟨rfl,b5.trans (BD.out.mono b5.size)⟩
end Go.Proofs.Ytbgkdbjineennaa.Dk
