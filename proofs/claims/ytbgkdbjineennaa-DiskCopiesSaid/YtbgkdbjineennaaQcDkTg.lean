/- Joined texts. -/
import Derived.Test.YtbgkdbjineennaaQcDkTf
set_option linter.unusedVariables false
namespace Go.Proofs.Ytbgkdbjineennaa.Dk
open Go.IntWalk Go.RowKit Go.Proofs.Ytbgkdbjineennaa.Gn Go.Proofs.Ytbgkdbjineennaa.Fd Go.Deep
theorem ad_add(ad:Addr)(i j:Nat):(ad.add i).add j=ad.add (i+j):=by
 unfold Addr.add
 by_cases h1:i=0
 ·subst h1;simp
 ·by_cases h2:j=0
  ·subst h2;simp
  ·simp[h1,h2,Nat.add_assoc]
theorem ad_pos(ad:Addr){j:Nat}(h:j≠0):ad.add j=⟨ad.block,ad.off+j,none⟩:=by unfold Addr.add;simp[h]
def orow:List Od→List Value
 | []=>[]
 |o :: l=>o.row ++ orow l
theorem orow_len:∀l,(orow l).length=5*l.length
 | []=>rfl
 |o :: l=>by rw[orow,List.length_append,orow_len l];simp[Od.row];omega
theorem orow_at:∀(l:List Od) (i j:Nat) (o:Od),l[i]?=some o→j < 5→(orow l)[5*i+j]?=o.row[j]?
 | [],i,j,o,h,hj=>by simp at h
 |x :: l,0,j,o,h,hj=>by
  simp at h;subst h
  rw[orow,Nat.mul_zero,Nat.zero_add,List.getElem?_append_left (by simpa[Od.row] using hj)]
 |x :: l,i+1,j,o,h,hj=>by
  rw[orow,List.getElem?_append_right (by simp[Od.row];omega),show 5*(i+1)+j - x.row.length=5*i+j by simp[Od.row];omega]
  exact orow_at l i j o (by simpa using h) hj
structure Ol (w:World) (a0:Nat) (L:Option Addr) (l:List Od):Prop where
 s:Sl w L (5*l.length) (orow l)
 ok:∀o∈l,o.ok w a0
 la:∀ad,L=some ad→ad.block < a0
 n9:l.length < 1000000000000000
theorem Ol.low{w w':World}{a0:Nat}{L:Option Addr}{l:List Od}(h:Ol w a0 L l)(hb:Below a0 w w'):Ol w' a0 L l:=⟨sl_low hb (fun ad e _=>h.la ad e) h.s,fun o ho=>(h.ok o ho).low hb,h.la,h.n9⟩
theorem od_cells{w:World}{a0:Nat}{L:Option Addr}{l:List Od}(h:Ol w a0 L l){i:Nat}{o:Od}(hx:l[i]?=some o):∃ad,L=some ad∧∃ae,ad.add (i*5)=ae∧w.cell? ae=some (.int .i64 o.kd)∧w.cell? ⟨ae.block,ae.off+1,none⟩=some (.int .i64 o.at_)∧w.cell? ⟨ae.block,ae.off+2,none⟩=some (.int .i64 o.nn)∧w.cell? ⟨ae.block,ae.off+3,none⟩=some (.slice o.bA o.bn o.bc)∧w.cell? ⟨ae.block,ae.off+4,none⟩=some (.slice o.cA o.cn o.cc):=by
 have key:∀j,j < 5→∃ad,L=some ad∧w.cell? (ad.add (5*i+j))=o.row[j]?:=fun j hj=>by
  have e:=orow_at l i j o hx hj
  obtain⟨v,hv⟩:∃v,o.row[j]?=some v:=⟨_,List.getElem?_eq_getElem (by simpa[Od.row] using hj)⟩
  obtain⟨ad,h1,h2⟩:=h.s.2 _ v (by rw[e,hv])
  exact⟨ad,h1,by rw[hv];exact h2⟩
 obtain⟨ad,rfl,c0⟩:=key 0 (by omega)
 have nx:∀j,0 < j→j < 5→w.cell? ⟨(ad.add (i*5)).block,(ad.add (i*5)).off+j,none⟩=o.row[j]?:=fun j h0 hj=>by
  obtain⟨ad',e,c⟩:=key j hj
  cases e
  rw[←ad_pos (ad.add (i*5)) (by omega:j≠0),ad_add,Nat.mul_comm i 5]
  exact c
 exact⟨ad,rfl,_,rfl,by rw[Nat.mul_comm i 5];exact c0,nx 1 (by omega) (by omega),nx 2 (by omega) (by omega),nx 3 (by omega) (by omega),nx 4 (by omega) (by omega)⟩
theorem Dd.rebase{w:World}{base b2 g gb:Nat}{H:Value}{cs:Bool}{cw:Int}{ch:Value}{m:M}(D:Dd w base g gb H cs cw ch m)(h:b2≤base):Dd w b2 g gb H cs cw ch m:=by
 refine⟨D.blk,D.byt,own_mono D.own h,?_,D.ok,D.n0,D.n9,Nat.le_trans h D.b1,Nat.le_trans h D.b2,D.g1,D.h1,D.h2,D.c1,D.c2,D.hc⟩
 have hc:=D.cut
 cases hm:m.cut with
 |none=>rw[hm] at hc;exact hc
 |some x=>rw[hm] at hc;exact⟨hc.1,hc.2.1,hc.2.2.1,hc.2.2.2.1,own_mono hc.2.2.2.2 h⟩
def lg:Nat→List Od→Bool
 |n,[]=>decide (3000 < n)
 |n,o :: t=>if 3000 < n then true else if 3000 < o.nn∧o.nn < 1099511627776 then true else lg (n+1+o.bn+o.cn) t
def tot:List Od→Nat
 | []=>0
 |o :: t=>1+o.bn+tot t
theorem lg_tot:∀(l:List Od) (n:Nat),lg n l=false→n+tot l≤3000
 | [],n,h=>by
  have:¬3000 < n:=by simpa[lg] using h
  simp[tot];omega
 |o :: t,n,h=>by
  rw[lg] at h
  split at h
  ·cases h
  ·split at h
   ·cases h
   ·have:=lg_tot t _ h
    rw[tot];omega
theorem drop_at{α:Type}{l:List α}{i:Nat}{o:α}(h:l[i]?=some o):l.drop i=o :: l.drop (i+1):=by
 obtain⟨hi,e⟩:=List.getElem?_eq_some_iff.1 h
 rw[List.drop_eq_getElem_cons hi,e]
set_option maxRecDepth 100000 in
set_option maxHeartbeats 8000000 in
theorem long_any{w:World}{a0:Nat}{L:Option Addr}{l:List Od}(lc:Nat)(h:Ol w a0 L l):Calls Try.prog 17 #[.slice L l.length lc] w fun e w'=>e=.returned (.bool (lg 0 l))∧Below a0 w w':=by
 have HO:=Lib.hid h
 obtain⟨R,hR⟩:∃R,lg 0 l=R:=⟨_,rfl⟩
 have HR:=Lib.hid hR
 have n9:=h.n9
 rw[hR]
 obtain⟨K,hK⟩:∃K,l.length=K:=⟨_,rfl⟩
 have HK:=Lib.hid hK
 rw[hK] at n9 ⊢
 clear h hR hK
 go_enter Try.func17,Try.ntmps17
 go_wp2_with fail
 go_loopw [3,4] (fun a b wr=>∃n i:Nat,a=.int .i64 (n:Int)∧b=.int .i64 (i:Int)∧i≤K∧n≤3000000000000000∧lg n (l.drop i)=R∧Below a0 w wr) (fun _ b _=>K - (intOf b).toNat)
 case atStart=>exact⟨0,0,rfl,rfl,Nat.zero_le _,by decide,by simpa using HR.out,Below.refl _ _⟩
 case round =>
  obtain⟨n,i,rfl,rfl,hi,hn,hl,hb⟩:=hrel
  have HB:=Lib.hid hb
  clear hb
  by_cases hlt:i < K
  ·have q1:(i:Int) < (K:Int):=by omega
   obtain⟨o,ho⟩:∃o,l[i]?=some o:=⟨_,List.getElem?_eq_getElem (by have:=HK.out;omega)⟩
   rw[drop_at ho,lg] at hl
   by_cases h3:3000 < n
   ·have q2:¬(n:Int)≤3000:=by omega
    rw[if_pos h3] at hl
    have q3:(3000:Int) < (n:Int):=by omega
    subst hl
    clear ho
    go_wp2_with fail
    go_ret
    exact⟨rfl,HB.out⟩
   ·have q2:(n:Int)≤3000:=by omega
    rw[if_neg h3] at hl
    obtain⟨ad,rfl,ae,hae,k0,k1,k2,k3,k4⟩:=od_cells (HO.out.low HB.out) ho
    have hok:=HO.out.ok o (List.mem_of_getElem? ho)
    have b9:=hok.b9
    have c9:=hok.cb
    clear ho hok
    by_cases g1:3000 < o.nn
    ·by_cases g2:o.nn < 1099511627776
     ·rw[if_pos ⟨g1,g2⟩] at hl
      subst hl
      go_upto_region 5 with fail
      go_quiet (fail)
      go_wp2_with fail
      go_ret
      exact⟨rfl,below_drewN HB.out _⟩
     ·rw[if_neg (fun e=>g2 e.2)] at hl
      have HL:=Lib.hid hl
      clear hl
      go_upto_region 5 with fail
      go_quiet (fail)
      go_wp2_with fail
      exact⟨⟨n+1+o.bn+o.cn,i+1,by go_num,by go_num,by omega,by omega,HL.out,below_drewN HB.out _⟩,by simp[intOf];omega⟩
    ·rw[if_neg (fun e=>g1 e.1)] at hl
     have HL:=Lib.hid hl
     clear hl
     go_upto_region 5 with fail
     go_quiet (fail)
     go_wp2_with fail
     exact⟨⟨n+1+o.bn+o.cn,i+1,by go_num,by go_num,by omega,by omega,HL.out,below_drewN HB.out _⟩,by simp[intOf];omega⟩
  ·have hi2:i=K:=by omega
   have e0:l.drop i=[]:=List.drop_of_length_le (by have:=HK.out;omega)
   rw[e0,lg] at hl
   have q1:¬(i:Int) < (K:Int):=by omega
   clear e0 hi2
   by_cases h3:3000 < n
   ·have q3:(3000:Int) < (n:Int):=by omega
    rw[decide_eq_true h3] at hl
    subst hl
    go_wp2_with fail
    go_ret
    exact⟨rfl,HB.out⟩
   ·have q3:¬(3000:Int) < (n:Int):=by omega
    rw[decide_eq_false h3] at hl
    subst hl
    go_wp2_with fail
    go_ret
    exact⟨rfl,HB.out⟩
def MadeQ(w:World)(a0:Nat)(e:Ending)(w':World):Prop:=∃p:Option Addr,e=.returned (.pointer p)∧(p=none∨∃g gb H cs cw ch m,p=some ⟨g,0,none⟩∧Dd w' a0 g gb H cs cw ch m∧m.ss.length≤100∧m.hd.length≤3000∧m.st≤3000∧w.heap.size≤g∧w.heap.size≤gb)∧Below w.heap.size w w'
set_option maxRecDepth 100000 in
set_option maxHeartbeats 8000000 in
theorem made_any{w:World}{L:Option Addr}{l:List Od}(lc:Nat)(h:Ol w w.heap.size L l)(B:Option Addr)(m cap:Nat)(bs:List Nat)(hB:Sl w B m (bl bs))(hB0:B=none→cap=0)(hcap:m≤cap)(s:Int):Calls Try.prog 8 #[.slice B m cap,.int .i64 s,.slice L l.length lc] w (MadeQ w w.heap.size):=by
 by_cases h1:(1500:Int) < (m:Int)
 ·clear h hB
  go_enter Try.func8,Try.ntmps8
  go_wp2_with fail
  go_ret
  exact⟨none,rfl,.inl rfl,Below.refl _ _⟩
 by_cases h2:(100:Int) < s
 ·clear h hB
  go_enter Try.func8,Try.ntmps8
  go_wp2_with fail
  go_ret
  exact⟨none,rfl,.inl rfl,Below.refl _ _⟩
 have LC:=long_any lc h
 have n9:=h.n9
 have HO:=Lib.hid h
 obtain⟨K,hK⟩:∃K,l.length=K:=⟨_,rfl⟩
 have HK:=Lib.hid hK
 rw[hK] at LC n9 ⊢
 clear hK
 cases hlg:lg 0 l with
 |true =>
  rw[hlg] at LC
  have LC:=Lib.hid LC
  clear h hB hlg
  go_enter Try.func8,Try.ntmps8
  go_wp2_with (go_at_call 17;(with_reducible refine LC.out.mono ?_);rintro e w1 ⟨rfl,k1⟩;have K1:=Lib.hid k1;clear k1)
  go_ret
  exact⟨none,rfl,.inl rfl,K1.out⟩
 |false =>
  rw[hlg] at LC
  have LC:=Lib.hid LC
  have TT:=Lib.hid (lg_tot l 0 hlg)
  have HB:=Lib.hid hB
  by_cases hbad:s < 1∨64*s < (m:Int)
  ·have NP:=Lib.hid (fun(u:World)=>New_no B m cap s u (by omega) (by omega) hbad)
   have NR:=Lib.hid (fun(u:World)=>New_bad (w:=u) B m cap s (by omega) (by omega) hbad)
   clear h hB hlg hbad
   go_enter Try.func8,Try.ntmps8
   go_wp2_with (first
    |(go_at_call 17;(with_reducible refine LC.out.mono ?_);rintro e w1 ⟨rfl,k1⟩;have K1:=Lib.hid k1;clear k1)
    |(go_at_call 29;(with_reducible refine(NP.out _).mono ?_);rintro e w2 ⟨rfl,rfl⟩)
    |(go_at_call 25;(with_reducible refine(NR.out _).mono ?_);rintro e w3 ⟨rfl,rfl⟩))
   go_ret
   exact⟨none,rfl,.inl rfl,K1.out⟩
  ·obtain⟨q,rfl⟩:∃q:Nat,s=(q:Int):=⟨s.toNat,by omega⟩
   have hq1:1≤q:=by omega
   have hq9:q≤100:=by omega
   have hqm:m≤64*q:=by omega
   have NP:=Lib.hid (fun(u:World) (hu:Below w.heap.size w u)=>New_dd u B m cap bs (HB.out.below hu) q hq1 hq9 hqm)
   have NR:=Lib.hid (fun(u:World) (hu:Below w.heap.size w u)=>New_r (w:=u) (a0:=w.heap.size) hu.size B m cap bs (HB.out.below hu) hB0 hcap q hq1 hq9 hqm)
   clear h hB hlg hbad hq1 hqm hB0 hcap
   go_enter Try.func8,Try.ntmps8
   go_wp2_with (first
    |(go_at_call 17;(with_reducible refine LC.out.mono ?_);rintro e w1 ⟨rfl,k1⟩;have K1:=Lib.hid k1;clear k1)
    |(go_at_call 29;(with_reducible refine(NP.out _ K1.out).mono ?_);rintro e w2 ⟨g,gb,M0,rfl,d1,d2,d3,d4,d5,d6⟩;have DD1:=Lib.hid d1;have P0:=Lib.hid (And.intro d2 (And.intro d3 d4));have GBL:=Lib.hid d5;have K2:=Lib.hid d6;clear d1 d2 d3 d4 d5 d6)
    |(go_at_call 25;(with_reducible refine(NR.out _ (K1.out.trans (K2.out.mono K1.out.size))).mono ?_);rintro e w3 ⟨r,rfl,r1,r2⟩;have RR1:=Lib.hid r1;have K3:=Lib.hid r2;clear r1 r2))
   have GG:=Lib.hid (show w.heap.size≤g∧w.heap.size≤gb from⟨Nat.le_trans K1.out.size DD1.out.b1,Nat.le_trans K1.out.size DD1.out.b2⟩)
   obtain⟨lo,hlo⟩:∃lo,w2.heap.size=lo:=⟨_,rfl⟩
   have HLO:=Lib.hid (show gb < lo from hlo▸GBL.out)
   have D0:=Lib.hid ((DD1.out.below K3.out).rebase K1.out.size)
   rw[hlo,Int.toNat_natCast] at RR1
   have LL:=Lib.hid (show w.heap.size≤lo from hlo▸Nat.le_trans K1.out.size K2.out.size)
   have B3:=Lib.hid (K1.out.trans ((K2.out.trans (K3.out.mono K2.out.size)).mono K1.out.size))
   have HP:=Lib.hid (show M0.ss.length≤100∧M0.hd.length≤0∧M0.st≤0 from⟨by rw[P0.out.2.2];exact hq9,by rw[P0.out.1];exact Nat.le_refl _,by rw[P0.out.2.1];exact Nat.le_refl _⟩)
   clear hlo hq9
   go_loopw [11] (fun a wr=>∃(i Ki:Nat) (Hi:Value) (csi:Bool) (cwi:Int) (chi:Value) (mi:M),a=.int .i64 (i:Int)∧i≤K∧Dd wr w.heap.size g gb Hi csi cwi chi mi∧Rd wr w.heap.size lo r q Ki∧Below w.heap.size w wr∧mi.ss.length≤100∧mi.hd.length≤Ki∧mi.st≤Ki∧Ki+tot (l.drop i)≤3000) (fun a _=>K - (intOf a).toNat)
   case atStart=>exact⟨0,0,_,_,_,_,M0,rfl,Nat.zero_le _,D0.out,RR1.out,B3.out,HP.out.1,HP.out.2.1,HP.out.2.2,by simpa using TT.out⟩
   case round =>
    obtain⟨i,Ki,Hi,csi,cwi,chi,mi,rfl,hi,hd,hr,hb,t1,t2,t3,t4⟩:=hrel
    have HD:=Lib.hid hd
    have HR:=Lib.hid hr
    have HBB:=Lib.hid hb
    clear hd hr hb
    by_cases hlt:i < K
    ·have q1:(i:Int) < (K:Int):=by omega
     obtain⟨o,ho⟩:∃o,l[i]?=some o:=⟨_,List.getElem?_eq_getElem (by have:=HK.out;omega)⟩
     have hok:=(HO.out.low HBB.out).ok o (List.mem_of_getElem? ho)
     rw[drop_at ho,tot] at t4
     obtain⟨ad,rfl,ae,hae,k0,k1,k2,k3,k4⟩:=od_cells (HO.out.low HBB.out) ho
     have PC:=Lib.hid (plays_any HD.out HR.out HLO.out t1 o hok (by omega) t2 t3)
     have hbl:o.bs.length=o.bn:=by have:=hok.b.1;rwa [bl_length] at this
     have HS:=Lib.hid (mi.play_hs o hbl)
     have TT2:=Lib.hid (And.intro t1 (And.intro t2 (And.intro t3 t4)))
     clear ho hok hbl t1 t2 t3 t4
     go_wp2_with (go_at_call 26;(with_reducible refine PC.out.mono ?_);rintro e w4 ⟨⟨bb,rfl⟩,H1,cs1,cw1,ch1,d1,-, r1,f1⟩;have E1:=Lib.hid d1;have E2:=Lib.hid r1;have E3:=Lib.hid f1;clear d1 r1 f1)
     have hs:=HS.out
     obtain⟨t1,t2,t3,t4⟩:=TT2.out
     exact⟨⟨i+1,Ki+o.bn+1,H1,cs1,cw1,ch1,mi.play o,by go_num,by omega,E1.out,E2.out,HBB.out.trans (E3.out.below HBB.out.size (ts_base HD.out) LL.out),by rw[mi.play_size];exact t1,by omega,by omega,by omega⟩,by simp[intOf];omega⟩
    ·have q1:¬(i:Int) < (K:Int):=by omega
     go_wp2_with fail
     go_ret
     exact⟨_,rfl,.inr ⟨g,gb,Hi,csi,cwi,chi,mi,rfl,HD.out,t1,by omega,by omega,GG.out.1,GG.out.2⟩,HBB.out⟩
end Go.Proofs.Ytbgkdbjineennaa.Dk
