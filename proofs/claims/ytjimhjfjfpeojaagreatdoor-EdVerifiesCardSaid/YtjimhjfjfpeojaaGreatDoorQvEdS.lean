/- Joined texts. -/
import Derived.Test.YtjimhjfjfpeojaaGreatDoorQvEdL
import Derived.Test.YtjimhjfjfpeojaaGreatDoorQvRfScal
import Derived.Test.YtjimhjfjfpeojaaGreatDoorQvEdN
import Derived.Test.YtjimhjfjfpeojaaGreatDoorQvFaC
set_option maxRecDepth 100000
set_option maxHeartbeats 8000000
set_option linter.unusedVariables false
namespace Go.Proofs.YtjimhjfjfpeojaaGreatDoor.Ed
open Go.RowKit Go.Proofs.YtjimhjfjfpeojaaGreatDoor.Gn Go.Proofs.YtjimhjfjfpeojaaGreatDoor.Fd Go.Deep
def Zrb(rows:List Rw)(g len:Nat)(w1:World)(i:Value)(wr:World):Prop :=
 ∃k:Nat,k≤len∧i=.int .i64 (k:Int)∧Sh.Hs true (cat (rows.take k)) g wr∧w1.grownBy wr (some g)
theorem Zje{T:List Nat}{r:Rw}{g:Nat}{w:World}(hg:8 < g∧5 < g)(h:Pc w r)(hA:0 < r.2.2.2.length→∀ad,r.1=some ad→ad.block≠g)(hs:Sh.Hs true T g w)(hmax:(T ++ r.2.2.2).length≤1048576)(tab:Sh.Tab w) :
  Calls Tryz.prog 106 #[.pointer (some ⟨g,0,none⟩),rwv r] w fun e w'=>e=.returned (.int .i64 0)∧Sh.Hs true (T ++ r.2.2.2) g w'∧w.grownBy w' (some g):=by
 have:=Sh.writex64 T r.2.2.2 _ rfl g r.1 r.2.2.1 w hg h.lt h.row hA h.cap hs (by rwa [List.length_append] at hmax) tab
 unfold rwv
 rw[h.len]
 exact this.mono fun e w' h=>⟨h.1,h.2.1,h.2.2.1⟩
theorem Z9o(rows:List Rw)(A:Option Addr)(len c:Nat)(w:World)(hs:Sl w A len (rows.map rwv))(hp:∀r∈rows,Pc w r)(hlen:len≤1000)(htot:(cat rows).length≤1048576)(ts:Sh.Tab w)(tl:TabL w) :
  Calls Tryz.prog 72 #[.slice A len c] w (RetB (by_ (le (Sh.dg true (cat rows))%Lq) 32) w):=by
 have hrl:rows.length=len:=by have:=hs.1;simpa using this
 have S0:=Lib.hid hs
 have HP:=Lib.hid hp
 have RL:=Lib.hid hrl
 have TT:=Lib.hid htot
 have TS:=Lib.hid ts
 have TL:=Lib.hid tl
 have T2:=Lib.hid ts.size
 have LN:=Lib.hid hlen
 clear hs hp hrl htot ts tl
 obtain⟨D,hD⟩:∃D,Sh.dg true (cat rows)=D:=⟨_,rfl⟩
 have HD:=Lib.hid hD
 have DL:=Lib.hid (show D.length=64 by rw[←hD];exact dg_len _)
 have DB:=Lib.hid (show ∀x∈D,x < 256 by rw[←hD];exact Zge _)
 rw[hD]
 clear hD
 go_enter Tryz.func72,Tryz.ntmps72
 go_wp2_with (go_at_call 105;(with_reducible refine(Sh.new64_any _ TS.out).mono ?_);rintro e w1 ⟨g,rfl,hg,h1,hb,ht⟩;have HG:=Lib.hid hg;have H1:=Lib.hid h1;have B1:=Lib.hid hb;have T1:=Lib.hid ht;clear hg h1 hb ht)
 have hg2:=Lib.hid (show(8 < g∧5 < g) by have:=T2.out;have:=HG.out;omega)
 have R0:=Lib.hid (show Zrb rows g len w1 (.int .i64 0) w1 from⟨0,Nat.zero_le _,rfl,H1.out,World.grownBy.refl _ _⟩)
 go_loopw [15] (fun i wr=>Zrb rows g len w1 i wr) (fun i _=>len - (intOf i).toNat)
 case atStart=>exact R0.out
 case round =>
  obtain⟨k,hk,rfl,hs,hgr⟩:=hrel
  have HS:=Lib.hid hs
  have GR:=Lib.hid hgr
  have BW:=Lib.hid (B1.out.grown hgr B1.out.size (fun x e=>by injection e with e;have:=HG.out;omega))
  have TW:=Lib.hid (T1.out.only hg2.out hgr)
  clear hs hgr
  by_cases hlt:k < len
  ·obtain⟨ad,rfl,hcell⟩:=S0.out.at_ hlt
   obtain⟨r,hr⟩:∃r,rows[k]?=some r:=⟨rows[k]'(by have:=RL.out;omega),List.getElem?_eq_getElem _⟩
   have hc0:w.cell? (ad.add k)=some (rwv r):=by rw[hcell,List.getElem?_map,hr];rfl
   have hc:wr.cell? (ad.add k)=some (rwv r):=Z05 BW.out hc0
   have P1:=HP.out r (List.mem_of_getElem? hr)
   have CN:=Lib.hid (show cat (rows.take (k+1))=cat (rows.take k) ++ r.2.2.2 from Zjc hr)
   have HW:=Lib.hid (Zje (T:=cat (rows.take k)) hg2.out (P1.below BW.out) (fun h0 ad e=>by have:=Sh.Sl_block P1.row h0 ad e;have:=HG.out;omega) HS.out (by rw[←CN.out];exact Nat.le_trans (Zjd _ _) TT.out) TW.out)
   obtain⟨v,hv⟩:∃v,rwv r=v:=⟨_,rfl⟩
   obtain⟨A1,n1,c1,hvs⟩:∃A1 n1 c1,v=.slice A1 n1 c1:=⟨_,_,_,hv.symm⟩
   rw[hv] at hc HW
   subst hvs
   clear hc0 hcell P1 hr hv
   go_wp2_with (go_at_call 106;(with_reducible refine HW.out.mono ?_);rintro e w2 ⟨rfl,hs2,hgr2⟩;have H2:=Lib.hid hs2;have G2:=Lib.hid hgr2;clear hs2 hgr2)
   go_roundw
   case rel=>exact⟨k+1,by omega,by go_num,by rw[CN.out];exact H2.out,Z0s GR.out G2.out⟩
   case measure=>simp[intOf];omega
  ·obtain rfl:k=len:=by omega
   have H9:=Lib.hid (show Sh.Hs true (cat rows) g wr by have:=HS.out;rwa [List.take_of_length_le (by rw[RL.out];exact Nat.le_refl _)] at this)
   have SS:=Lib.hid (show Calls Tryz.prog 108 #[.pointer (some ⟨g,0,none⟩)] wr fun e w'=>∃q,e=.returned (.slice (some ⟨q,0,none⟩) 64 64)∧wr.heap.size≤q∧Sl w' (some ⟨q,0,none⟩) 64 (bl D)∧Below wr.heap.size wr w' from(Sh.hsum64_any (cat rows) g wr TT.out H9.out TW.out).mono fun e w' ⟨q,h1,h2,h3,h4⟩=>⟨q,h1,h2,by
    rw[HD.out] at h3
    have:=Sl.of_bl h3 0 64 (bl D) (by rw[Z15];exact DL.out) (fun k v hk=>by rw[Nat.zero_add];simpa using hk)
    exact this,h4⟩)
   go_wp2_with (first|(go_at_call 108;(with_reducible refine SS.out.mono ?_);rintro e w3 ⟨q,rfl,hq,hsl,hb3⟩;have B3:=Lib.hid (BW.out.trans (hb3.mono BW.out.size));have FF:=Lib.hid (Zjb (some ⟨q,0,none⟩) 64 64 D w3 (TL.out.below B3.out) (Nat.le_refl _) DB.out hsl);clear hq hsl hb3)|(go_at_call 107;(with_reducible refine FF.out.mono ?_);rintro e w4 ⟨h,rfl,hh,hbl,hb4⟩;have HH:=Lib.hid hh;have BL4:=Lib.hid hbl;have B4:=Lib.hid hb4;clear hh hbl hb4))
   go_ret
   exact⟨h,rfl,Nat.le_trans B3.out.size HH.out,BL4.out,B3.out.trans (B4.out.mono B3.out.size)⟩
def Zrc(l:List Nat)(w:World)(e:Ending)(w':World):Prop:=∃g,e=.returned (.slice (some ⟨g,0,none⟩) 32 32)∧Pc w' (some ⟨g,0,none⟩,32,32,l)∧Below w.heap.size w w'
theorem Zrd{w:World}{g:Nat}{l:List Nat}(hl:l.length=32)(hx:∀x∈l,x < 256)(h:Bl w g 5 (bl l).toArray):Pc w (some ⟨g,0,none⟩,32,32,l) :=
 ⟨hl.symm,Sl.of_bl h 0 _ _ (by rw[Z15]) (fun k v hk=>by rw[Nat.zero_add];simpa using hk),hx,by show l.length≤32;omega,fun h=>by cases h⟩
theorem RetB.p{l:List Nat}{w w':World}{e:Ending}(h:RetB l w e w')(hl:l.length=32)(hx:∀x∈l,x < 256):Zrc l w e w':=by
 obtain⟨g,rfl,hg,hb,hw⟩:=h
 exact⟨g,by rw[hl],Zrd hl hx hb,hw⟩
def scb(T:List Nat):List Nat:=by_ (le (Sh.dg true T)%Lq) 32
theorem Z7j(T:List Nat):(scb T).length=32:=by_length _ _
theorem Zkn(T:List Nat):∀x∈scb T,x < 256:=Z60 _ _
theorem Zjf(w:World)(r s t:Rw):Sl (w.alloc (.cells #[rwv r,rwv s,rwv t] 22)) (some ⟨w.heap.size,0,none⟩) 3 ([r,s,t].map rwv):=Sl.new_ w 22 [rwv r,rwv s,rwv t]
theorem Ztt{A B C:Option Addr}{n m o c d f:Nat}{x y z:List Nat}{w:World}(h:Pc w (A,n,c,x))(k:Pc w (B,m,d,y))(j:Pc w (C,o,f,z))(hmax:(x ++ (y ++ z)).length≤1048576)(ts:Sh.Tab w)(tl:TabL w) :
  Calls Tryz.prog 72 #[.slice (some ⟨w.heap.size,0,none⟩) 3 3] (w.alloc (.cells #[.slice A n c,.slice B m d,.slice C o f] 22)) (Zrc (scb (x ++ (y ++ z))) w):=by
 have BB:=(Below.refl w.heap.size w).alloc (Nat.le_refl _) (.cells #[.slice A n c,.slice B m d,.slice C o f] 22)
 have e:cat [(A,n,c,x),(B,m,d,y),(C,o,f,z)]=x ++ (y ++ z):=by simp[cat]
 have:=Z9o [(A,n,c,x),(B,m,d,y),(C,o,f,z)] _ 3 3 _ (Zjf w _ _ _) (by intro r hx;simp at hx;rcases hx with rfl|rfl|rfl <;> first|exact h.below BB|exact k.below BB|exact j.below BB) (by decide) (by rw[e];exact hmax) (ts.below BB) (tl.below BB)
 rw[e] at this
 refine this.mono fun e w' h=>?_
 obtain⟨q,h1,h2,h3⟩:=RetB.p h (Z7j _) (Zkn _)
 exact⟨q,h1,h2,BB.trans (h3.mono BB.size)⟩
end Go.Proofs.YtjimhjfjfpeojaaGreatDoor.Ed
namespace Go.Proofs.YtjimhjfjfpeojaaGreatDoor.Gn
open Go.RowKit Go.Proofs.YtjimhjfjfpeojaaGreatDoor.Fd Go.Deep
theorem Zh0{w:World}{A B:Option Addr}{n m c d:Nat}{l k:List Nat}(ha:Sl w A n (bl l))(hb:Sl w B m (bl k))(hl:∀x∈l,x < 256)(hk:∀x∈k,x < 256) :
  Calls Tryz.prog 78 #[.slice A n c,.slice B m d] w fun e w'=>e=.returned (.bool (decide (l=k)))∧w=w':=by
 have h1:=Z9w w _ _ _ Tryz.underlying22 Tryz.underlying5 Tryz.underlying9 A n c l ha
 have h2:=Z9w w _ _ _ Tryz.underlying22 Tryz.underlying5 Tryz.underlying9 B m d k hb
 have e:((txt l).toList == (txt k).toList)=decide (l=k):=by
  rw[Bool.eq_iff_iff,beq_iff_eq,decide_eq_true_iff,ByteArray.toList_eq,ByteArray.toList_eq]
  exact⟨fun h=>Zdp hl hk (ByteArray.ext (Array.toList_inj.1 h)),fun h=>by rw[h]⟩
 generalize decide (l=k)=r at *
 generalize txt l=s at *
 generalize txt k=t at *
 clear ha hb hl hk
 go_enter Tryz.func78,Tryz.ntmps78
 go_wp2
 go_ret
 exact⟨by simp[←e],rfl⟩
end Go.Proofs.YtjimhjfjfpeojaaGreatDoor.Gn
