/- Joined texts. -/
import Derived.Test.YtoibhnpmemnlfaaGreatDoorQtEdM
import Derived.Test.YtoibhnpmemnlfaaGreatDoorQtFsScalar
import Derived.Test.YtoibhnpmemnlfaaGreatDoorQtGnCat
set_option linter.unusedVariables false
namespace Go.Proofs.YtoibhnpmemnlfaaGreatDoor.Ed
open Go.RowKit Go.Proofs.YtoibhnpmemnlfaaGreatDoor.Gn Go.Proofs.YtoibhnpmemnlfaaGreatDoor.Fd Go.Deep
def ScRel(rows:List Rw)(g len:Nat)(w1:World)(i:Value)(wr:World):Prop :=
 ∃k:Nat,k≤len∧i=.int .i64 (k:Int)∧Sh.Hs true (cat (rows.take k)) g wr∧w1.grownBy wr (some g)
theorem write_pc{T:List Nat}{r:Rw}{g:Nat}{w:World}(hg:8 < g∧5 < g)(h:Pc w r)(hA:0 < r.2.2.2.length→∀ad,r.1=some ad→ad.block≠g)(hs:Sh.Hs true T g w)(hmax:(T ++ r.2.2.2).length≤1048576)(tab:Sh.Tab w) :
  Calls Tryz.prog 51 #[.pointer (some ⟨g,0,none⟩),rwv r] w fun e w'=>e=.returned (.int .i64 0)∧Sh.Hs true (T ++ r.2.2.2) g w'∧w.grownBy w' (some g):=by
 have:=Sh.writex64 T r.2.2.2 _ rfl g r.1 r.2.2.1 w hg h.lt h.row hA h.cap hs (by rwa [List.length_append] at hmax) tab
 unfold rwv
 rw[h.len]
 exact this.mono fun e w' h=>⟨h.1,h.2.1,h.2.2.1⟩
set_option maxRecDepth 100000 in
set_option maxHeartbeats 4000000 in
theorem scalarOf_any(rows:List Rw)(A:Option Addr)(len c:Nat)(w:World)(hs:Sl w A len (rows.map rwv))(hp:∀r∈rows,Pc w r)(hlen:len≤1000)(htot:(cat rows).length≤1048576)(ts:Sh.Tab w)(tl:TabL w) :
  Calls Tryz.prog 21 #[.slice A len c] w (RetB (by_ (le (Sh.dg true (cat rows))%Lq) 32) w):=by
 have hrl:rows.length=len:=by have:=hs.1;simpa using this
 have S0:=Lib.hid hs
 have HP:=Lib.hid hp
 have RL:=Lib.hid hrl
 have TT:=Lib.hid htot
 have TS:=Lib.hid ts
 have TL:=Lib.hid tl
 have T2:=Lib.hid ts.size
 have LN:=Lib.hid hlen
 clear hs hp hrl htot ts tl
 obtain⟨D,hD⟩:∃D,Sh.dg true (cat rows)=D:=⟨_,rfl⟩
 have HD:=Lib.hid hD
 have DL:=Lib.hid (show D.length=64 by rw[←hD];exact dg_len _)
 have DB:=Lib.hid (show ∀x∈D,x < 256 by rw[←hD];exact dg_lt _)
 rw[hD]
 clear hD
 go_enter Tryz.func21,Tryz.ntmps21
 go_wp2_with (go_at_call 50;(with_reducible refine(Sh.new64_any _ TS.out).mono ?_);rintro e w1 ⟨g,rfl,hg,h1,hb,ht⟩;have HG:=Lib.hid hg;have H1:=Lib.hid h1;have B1:=Lib.hid hb;have T1:=Lib.hid ht;clear hg h1 hb ht)
 have hg2:=Lib.hid (show(8 < g∧5 < g) by have:=T2.out;have:=HG.out;omega)
 have R0:=Lib.hid (show ScRel rows g len w1 (.int .i64 0) w1 from⟨0,Nat.zero_le _,rfl,H1.out,World.grownBy.refl _ _⟩)
 go_loopw [15] (fun i wr=>ScRel rows g len w1 i wr) (fun i _=>len - (intOf i).toNat)
 case atStart=>exact R0.out
 case round =>
  obtain⟨k,hk,rfl,hs,hgr⟩:=hrel
  have HS:=Lib.hid hs
  have GR:=Lib.hid hgr
  have BW:=Lib.hid (B1.out.grown hgr B1.out.size (fun x e=>by injection e with e;have:=HG.out;omega))
  have TW:=Lib.hid (T1.out.only hg2.out hgr)
  clear hs hgr
  by_cases hlt:k < len
  ·obtain⟨ad,rfl,hcell⟩:=S0.out.at_ hlt
   obtain⟨r,hr⟩:∃r,rows[k]?=some r:=⟨rows[k]'(by have:=RL.out;omega),List.getElem?_eq_getElem _⟩
   have hc0:w.cell? (ad.add k)=some (rwv r):=by rw[hcell,List.getElem?_map,hr];rfl
   have hc:wr.cell? (ad.add k)=some (rwv r):=keepc BW.out hc0
   have P1:=HP.out r (List.mem_of_getElem? hr)
   have CN:=Lib.hid (show cat (rows.take (k+1))=cat (rows.take k) ++ r.2.2.2 from cat_next hr)
   have HW:=Lib.hid (write_pc (T:=cat (rows.take k)) hg2.out (P1.below BW.out) (fun h0 ad e=>by have:=Sh.Sl_block P1.row h0 ad e;have:=HG.out;omega) HS.out (by rw[←CN.out];exact Nat.le_trans (cat_take _ _) TT.out) TW.out)
   obtain⟨v,hv⟩:∃v,rwv r=v:=⟨_,rfl⟩
   obtain⟨A1,n1,c1,hvs⟩:∃A1 n1 c1,v=.slice A1 n1 c1:=⟨_,_,_,hv.symm⟩
   rw[hv] at hc HW
   subst hvs
   clear hc0 hcell P1 hr hv
   go_wp2_with (go_at_call 51;(with_reducible refine HW.out.mono ?_);rintro e w2 ⟨rfl,hs2,hgr2⟩;have H2:=Lib.hid hs2;have G2:=Lib.hid hgr2;clear hs2 hgr2)
   go_roundw
   case rel=>exact⟨k+1,by omega,by go_num,by rw[CN.out];exact H2.out,only_trans GR.out G2.out⟩
   case measure=>simp[intOf];omega
  ·obtain rfl:k=len:=by omega
   have H9:=Lib.hid (show Sh.Hs true (cat rows) g wr by have:=HS.out;rwa [List.take_of_length_le (by rw[RL.out];exact Nat.le_refl _)] at this)
   have SS:=Lib.hid (show Calls Tryz.prog 52 #[.pointer (some ⟨g,0,none⟩)] wr fun e w'=>∃q,e=.returned (.slice (some ⟨q,0,none⟩) 64 64)∧wr.heap.size≤q∧Sl w' (some ⟨q,0,none⟩) 64 (bl D)∧Below wr.heap.size wr w' from(Sh.hsum64_any (cat rows) g wr TT.out H9.out TW.out).mono fun e w' ⟨q,h1,h2,h3,h4⟩=>⟨q,h1,h2,by
    rw[HD.out] at h3
    have:=Sl.of_bl h3 0 64 (bl D) (by rw[bl_length];exact DL.out) (fun k v hk=>by rw[Nat.zero_add];simpa using hk)
    exact this,h4⟩)
   go_wp2_with (first|(go_at_call 52;(with_reducible refine SS.out.mono ?_);rintro e w3 ⟨q,rfl,hq,hsl,hb3⟩;have B3:=Lib.hid (BW.out.trans (hb3.mono BW.out.size));have FF:=Lib.hid (Fold_any (some ⟨q,0,none⟩) 64 64 D w3 (TL.out.below B3.out) (Nat.le_refl _) DB.out hsl);clear hq hsl hb3)|(go_at_call 9;(with_reducible refine FF.out.mono ?_);rintro e w4 ⟨h,rfl,hh,hbl,hb4⟩;have HH:=Lib.hid hh;have BL4:=Lib.hid hbl;have B4:=Lib.hid hb4;clear hh hbl hb4))
   go_ret
   exact⟨h,rfl,Nat.le_trans B3.out.size HH.out,BL4.out,B3.out.trans (B4.out.mono B3.out.size)⟩
end Go.Proofs.YtoibhnpmemnlfaaGreatDoor.Ed
