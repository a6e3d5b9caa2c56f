/- Joined texts. -/
import Derived.Deep.LoopGhost
import Derived.Deep.OwnRows
import Derived.Deep.QuietTactic
import Derived.BigQuiet
import Derived.Test.YtjimhjfjfpeojaaGreatDoorQvFaA
import Derived.Test.YtjimhjfjfpeojaaGreatDoorQvPuA
set_option maxRecDepth 100000
set_option maxHeartbeats 8000000
set_option linter.unusedVariables false
namespace Go.Proofs.YtjimhjfjfpeojaaGreatDoor.Fd
open Go.RowKit Go.Proofs.YtjimhjfjfpeojaaGreatDoor.Gn Go.Deep
theorem nl_length(l:List Nat):(nl l).length=l.length:=by simp[nl]
theorem Zp5(l:List Nat)(k:Nat):(nl l)[k]?=l[k]?.map fun(x:Nat)=>Value.int .u64 (x:Int):=by simp[nl]
theorem nl_one(l:List Nat):∀u∈nl l,u.oneCell'=true:=by
 intro u hu;obtain⟨x,-, rfl⟩:=List.mem_map.1 hu;rfl
theorem nl_append(l k:List Nat):nl (l ++ k)=nl l ++ nl k:=by simp[nl]
theorem Zer(l:List Nat)(k:Nat):(nl l).take k=nl (l.take k):=by simp[nl,List.map_take]
theorem Z0t(l:List Nat)(k x:Nat):(nl l).toArray.setIfInBounds k (.int .u64 (x:Int))=(nl (l.set k x)).toArray:=by simp[nl,List.setIfInBounds_toArray,List.map_set]
theorem info64:(Tryz.prog.info? 24).map (fun i=>(i.zero,i.size,i.bytes))=some (some (.int .u64 0),1,8):=by kernel_rfl
theorem Zlt(n:Nat):madeCells #[.int .u64 0] n=(nl (List.replicate n 0)).toArray:=by
 apply Array.ext'
 rw[toList_madeCells_one]
 simp[nl]
theorem Z6d(n:Nat)(h:n≤4096)(w:World):(Instr.makeSlice 32 (.int .i64 (n:Int)) (.int .i64 (n:Int))).run Tryz.prog w=.ok (.slice (some ⟨w.heap.size,0,none⟩) n n) (w.alloc (.cells (nl (List.replicate n 0)).toArray 24)):=by
 have:=run_make_row' (P:=Tryz.prog) 32 24 (.int .u64 0) 8 Tryz.underlying32 info64 rfl .i64 .i64 n (by omega) (by omega) w
 rw[Zlt] at this
 exact this
theorem Z09{w:World}{A:Option Addr}{n:Nat}{l:List Nat}(h:Sl w A n (nl l)):l.length=n:=by simpa[nl] using h.1
theorem sl_num{w:World}{ad:Addr}{n:Nat}{l:List Nat}(h:Sl w (some ad) n (nl l)){p:Nat}(hp:p < n):w.cell? (ad.add p)=some (.int .u64 ((l.getD p 0:Nat):Int)):=by
 have hl:=Z09 h
 obtain⟨a,e,hc⟩:=h.2 p (.int .u64 ((l.getD p 0:Nat):Int)) (by
  rw[Zp5,List.getElem?_eq_getElem (by omega)]
  simp[List.getD_eq_getElem?_getD,List.getElem?_eq_getElem (show p < l.length by omega)])
 cases e
 exact hc
theorem sl_byte{w:World}{ad:Addr}{n:Nat}{l:List Nat}(h:Sl w (some ad) n (bl l)){p:Nat}(hp:p < n):w.cell? (ad.add p)=some (.int .u8 ((l.getD p 0:Nat):Int)):=by
 have hl:l.length=n:=by simpa[bl] using h.1
 obtain⟨a,e,hc⟩:=h.2 p (.int .u8 ((l.getD p 0:Nat):Int)) (by
  rw[Z1f,List.getElem?_eq_getElem (by omega)]
  simp[List.getD_eq_getElem?_getD,List.getElem?_eq_getElem (show p < l.length by omega)])
 cases e
 exact hc
theorem Z0u{w:World}{g:Nat}{t:TypeId}{l:List Nat}(h:Bl w g t (nl l).toArray){k:Nat}(hk:k < l.length):w.cell? ⟨g,k,none⟩=some (.int .u64 ((l.getD k 0:Nat):Int)):=by
 refine h.cell_ ?_
 rw[List.getElem?_toArray,Zp5,List.getElem?_eq_getElem hk]
 simp[List.getD_eq_getElem?_getD,List.getElem?_eq_getElem hk]
theorem Z32{w:World}{g n:Nat}{t:TypeId}{l:List Nat}(h:Bl w g t (nl l).toArray)(hn:l.length=n):Sl w (some ⟨g,0,none⟩) n (nl l) :=
 Sl.of_bl h 0 n _ (by simp[nl,hn]) (fun k v hv=>by rw[Nat.zero_add];simpa using hv)
def RetN(n:Nat)(w:World)(e:Ending)(w':World):Prop:=∃A k c,e=.returned (.slice A k c)∧Sl w' A k (nl (dg n))∧k≤c∧Below w.heap.size w w'
theorem RetN.of{n m:Nat}{w w1 w':World}{e:Ending}(h:RetN n w1 e w')(hn:n=m)(hb:Below w.heap.size w w1):RetN m w e w':=by
 obtain⟨A,k,c,h1,h2,h3,h4⟩:=h
 subst hn
 exact⟨A,k,c,h1,h2,h3,hb.trans (h4.mono hb.size)⟩
theorem Z1u(A:Option Addr)(n c:Nat)(l:List Nat)(w:World)(hn:n≤4096)(hc:n≤c)(hl:Dg l)(hs:Sl w A n (nl l)) :
  Calls Tryz.prog 90 #[.slice A n c] w (RetN (vl l) w):=by
 have HS:=Lib.hid hs
 have HL:=Lib.hid hl
 have HN:=Lib.hid (Z09 hs)
 clear hs hl
 go_enter Tryz.func90,Tryz.ntmps90
 go_wp2
 go_loop [0] (fun a=>∃k:Nat,k≤n∧a=.slice A k c∧vl (l.take k)=vl l) (fun a=>slen a)
 case atStart=>exact⟨n,Nat.le_refl _,rfl,by rw[List.take_of_length_le (by rw[HN.out];exact Nat.le_refl _)]⟩
 case round =>
  obtain⟨k,hk,rfl,hv⟩:=hrel
  have HV:=Lib.hid hv
  clear hv
  rcases k with _|p
  ·have HE:=Lib.hid (Zbk l HL.out 0 (Nat.zero_le _) HV.out (.inl rfl))
   go_wp2
   go_ret
   exact⟨A,0,c,rfl,by rw[←HE.out,List.take_zero];exact Sl.nil_ _ _,Nat.zero_le _,Below.refl _ _⟩
  ·obtain⟨ad,rfl,-⟩:=HS.out.at_ (k:=p) (by omega)
   obtain⟨x,hx⟩:∃x,x=l.getD p 0:=⟨_,rfl⟩
   have c1:=sl_num HS.out (p:=p) (by omega)
   rw[←hx] at c1
   have HX:=Lib.hid hx
   clear hx
   have hpc:p+1≤c:=by omega
   by_cases h0:x=0
   ·have t1:((x:Int) == 0)=true:=by rw[beq_iff_eq];omega
    have H0:=Lib.hid h0
    clear h0
    go_wp2
    go_round
    case rel=>exact⟨p,by omega,by simp,by rw[←HV.out];exact(Zef l p (by rw[←HX.out];exact H0.out)).symm⟩
    case measure=>simp[slen]
   ·have t1:((x:Int) == 0)=false:=by rw[beq_eq_false_iff_ne];omega
    have H0:=Lib.hid h0
    clear h0
    have HE:=Lib.hid (Zbk l HL.out (p+1) (by rw[HN.out];omega) HV.out (.inr (by rw[Nat.add_sub_cancel,←HX.out];exact H0.out)))
    have HT:=Lib.hid (HS.out.take_ (p+1) hk)
    go_wp2
    go_ret
    exact⟨some ad,p+1,c,rfl,by rw[←HE.out,←Zer];exact HT.out,hpc,Below.refl _ _⟩
def Zp6(la lb:List Nat)(n g:Nat)(w0:World)(c i:Value)(wr:World):Prop :=
 ∃(k cy:Nat) (o:List Nat),k≤n∧i=.int .i64 (k:Int)∧c=.int .u64 (cy:Int)∧cy≤1∧o.length=n+1∧Dg o∧vl (o.take k)+65536 ^ k*cy=vl (la.take k)+vl (lb.take k) ∧
  Bl wr g 24 (nl o).toArray∧Below g w0 wr
theorem Zk2(A B:Option Addr)(n m c d:Nat)(la lb:List Nat)(w:World)(hn:n≤4000)(hmn:m≤n)(hla:Dg la)(hlb:Dg lb)(ha:Sl w A n (nl la))(hb:Sl w B m (nl lb)) :
  Calls Tryz.prog 92 #[.slice A n c,.slice B m d] w (RetN (vl la+vl lb) w):=by
 have HA:=Lib.hid ha
 have HB:=Lib.hid hb
 have HLA:=Lib.hid hla
 have HLB:=Lib.hid hlb
 have HN:=Lib.hid (Z09 ha)
 have HM:=Lib.hid (Z09 hb)
 obtain⟨N,hN⟩:∃N,N=n+1:=⟨_,rfl⟩
 have eN:(n:Int)+1=(N:Int):=by omega
 have hmk:=Z6d N (by omega)
 have HNN:=Lib.hid hN
 have t0:decide (n < m)=false:=by simp;omega
 clear ha hb hla hlb hN
 go_enter Tryz.func92,Tryz.ntmps92
 go_wp2
 clear hmk eN t0
 have B0:=Lib.hid (Bl.new_ w 24 (nl (List.replicate N 0)).toArray)
 have G0:=Lib.hid ((Below.refl w.heap.size w).alloc (Nat.le_refl _) (.cells (nl (List.replicate N 0)).toArray 24))
 go_loopw [6,7] (fun c i wr=>Zp6 la lb n w.heap.size (w.alloc (.cells (nl (List.replicate N 0)).toArray 24)) c i wr) (fun _ i _=>n - (intOf i).toNat)
 case atStart=>exact⟨0,0,_,Nat.zero_le _,rfl,rfl,by decide,by rw[List.length_replicate];exact HNN.out,Dg.replicate _,by simp[Z3d],B0.out,Below.refl _ _⟩
 case round =>
  obtain⟨k,cy,o,hk,rfl,rfl,hcy,hol,hod,hv,hbl,hbw⟩:=hrel
  have BL:=Lib.hid hbl
  have BW:=Lib.hid hbw
  have OL:=Lib.hid hol
  have OD:=Lib.hid hod
  have HV:=Lib.hid hv
  have GW:=Lib.hid (G0.out.trans hbw)
  clear hbl hbw hol hod hv
  have kN:(k:Int) < (N:Int):=by have:=HNN.out;omega
  by_cases hlt:k < n
  ·obtain⟨ad,rfl,-⟩:=(HA.out.below GW.out).at_ hlt
   obtain⟨x,hx⟩:∃x,x=la.getD k 0:=⟨_,rfl⟩
   have c1:=sl_num (HA.out.below GW.out) hlt
   rw[←hx] at c1
   have fz:=BL.out.frozen k
   have co:=Z0u BL.out (show k < o.length by rw[OL.out];omega)
   have hxb:x < 65536:=by rw[hx];exact HLA.out.get k
   have HX:=Lib.hid hx
   clear hx
   by_cases hlm:k < m
   ·obtain⟨bd,rfl,-⟩:=(HB.out.below GW.out).at_ hlm
    obtain⟨y,hy⟩:∃y,y=lb.getD k 0:=⟨_,rfl⟩
    have c2:=sl_num (HB.out.below GW.out) hlm
    rw[←hy] at c2
    have hyb:y < 65536:=by rw[hy];exact HLB.out.get k
    obtain⟨z1,hz1⟩:∃z1,z1=x+cy:=⟨_,rfl⟩
    have e00:(x:Int)+(cy:Int)=(z1:Int):=by omega
    obtain⟨z,hz⟩:∃z,z=z1+y:=⟨_,rfl⟩
    have e0:(z1:Int)+(y:Int)=(z:Int):=by omega
    have z1b:z1 < 131072:=by omega
    have e1:(z:Int)%65536=((z%65536:Nat):Int):=by omega
    have e2:(z:Int) / 65536=((z / 65536:Nat):Int):=by omega
    have zb:z < 131072:=by omega
    have ST:=Lib.hid (Zbl la lb o k cy z (by rw[OL.out];omega) HV.out (by rw[hz,hz1,HX.out,hy]))
    obtain⟨r,hr⟩:∃r,z%65536=r:=⟨_,rfl⟩
    obtain⟨q,hq⟩:∃q,z / 65536=q:=⟨_,rfl⟩
    rw[hr] at e1
    rw[hq] at e2
    have HR:=Lib.hid hr
    have HQ:=Lib.hid hq
    have q1:q≤1:=by omega
    have r1:r < 65536:=by omega
    clear hz hy hr hq hz1
    go_wp2
    go_roundw
    case rel=>exact⟨k+1,q,o.set k r,by omega,by go_num,rfl,q1,by rw[List.length_set];exact OL.out,OD.out.set _ _ r1,by rw[←HR.out,←HQ.out];exact ST.out,by rw[←Z0t];exact BL.out.set_ k _,BW.out.setCell (p:=⟨w.heap.size,k,none⟩) (Nat.le_refl _) _⟩
    case measure=>simp[intOf];omega
   ·obtain⟨z,hz⟩:∃z,z=x+cy:=⟨_,rfl⟩
    have e0:(x:Int)+(cy:Int)=(z:Int):=by omega
    have e1:(z:Int)%65536=((z%65536:Nat):Int):=by omega
    have e2:(z:Int) / 65536=((z / 65536:Nat):Int):=by omega
    have zb:z < 131072:=by omega
    have ST:=Lib.hid (Zbl la lb o k cy z (by rw[OL.out];omega) HV.out (by rw[hz,HX.out,Z4h lb k (by rw[HM.out];omega),Nat.add_zero]))
    obtain⟨r,hr⟩:∃r,z%65536=r:=⟨_,rfl⟩
    obtain⟨q,hq⟩:∃q,z / 65536=q:=⟨_,rfl⟩
    rw[hr] at e1
    rw[hq] at e2
    have HR:=Lib.hid hr
    have HQ:=Lib.hid hq
    have q1:q≤1:=by omega
    have r1:r < 65536:=by omega
    clear hz hr hq
    go_wp2
    go_roundw
    case rel=>exact⟨k+1,q,o.set k r,by omega,by go_num,rfl,q1,by rw[List.length_set];exact OL.out,OD.out.set _ _ r1,by rw[←HR.out,←HQ.out];exact ST.out,by rw[←Z0t];exact BL.out.set_ k _,BW.out.setCell (p:=⟨w.heap.size,k,none⟩) (Nat.le_refl _) _⟩
    case measure=>simp[intOf];omega
  ·obtain rfl:k=n:=by omega
   have fz:=BL.out.frozen k
   have co:=Z0u BL.out (show k < o.length by rw[OL.out];omega)
   have HE:=Lib.hid (Zld la lb o k cy HN.out (by rw[HM.out];exact hmn) OL.out HV.out)
   have B2:=Lib.hid (show Bl (wr.setCell ⟨w.heap.size,k,none⟩ (.int .u64 (cy:Int))) w.heap.size 24 (nl (o.set k cy)).toArray by rw[←Z0t];exact BL.out.set_ k _)
   have G2:=Lib.hid (show Below w.heap.size w (wr.setCell ⟨w.heap.size,k,none⟩ (.int .u64 (cy:Int))) from GW.out.setCell (p:=⟨w.heap.size,k,none⟩) (Nat.le_refl _) _)
   have hcb:cy < 65536:=by omega
   have D2:=Lib.hid (OD.out.set k cy hcb)
   have SL2:=Lib.hid (Z32 B2.out (show(o.set k cy).length=N by rw[List.length_set,OL.out,HNN.out]))
   go_wp2_with fail
   have hNb:N≤4096:=by have:=HNN.out;omega
   (with_reducible refine(Z1u _ N N (o.set k cy) _ hNb (Nat.le_refl _) D2.out SL2.out).mono ?_)
   intro e w2 h2
   have R2:=Lib.hid (h2.of HE.out G2.out)
   clear h2
   obtain⟨A2,k2,c2,rfl,h3,h4,h5⟩:=R2.out
   have R3:=Lib.hid (show RetN (vl la+vl lb) w (.returned (.slice A2 k2 c2)) w2 from R2.out)
   clear R2 h3 h4 h5
   go_wp2
   go_ret
   exact R3.out
theorem Z48(A B:Option Addr)(n m c d:Nat)(la lb:List Nat)(w:World)(hn:n≤4000)(hm:m≤4000)(hla:Dg la)(hlb:Dg lb)(ha:Sl w A n (nl la))(hb:Sl w B m (nl lb)) :
  Calls Tryz.prog 92 #[.slice A n c,.slice B m d] w (RetN (vl la+vl lb) w):=by
 rcases Nat.lt_or_ge n m with h|h
 ·have C:=Lib.hid (Zk2 B A m n d c lb la w hm (Nat.le_of_lt h) hlb hla hb ha)
  rw[Nat.add_comm]
  clear ha hb hla hlb
  go_enter Tryz.func92,Tryz.ntmps92
  go_wp2_with fail
  (with_reducible refine C.out.mono ?_)
  intro e w2 h2
  have R2:=Lib.hid h2
  clear h2
  obtain⟨A2,k2,c2,rfl,h3,h4,h5⟩:=R2.out
  have R3:=Lib.hid (show RetN (vl lb+vl la) w (.returned (.slice A2 k2 c2)) w2 from R2.out)
  clear R2 h3 h4 h5
  go_wp2
  go_ret
  exact R3.out
 ·exact Zk2 A B n m c d la lb w hn h hla hlb ha hb
def Zp7(la lb:List Nat)(n g:Nat)(w0:World)(c i:Value)(wr:World):Prop :=
 ∃(k bw:Nat) (o:List Nat),k≤n∧i=.int .i64 (k:Int)∧c=.int .u64 (bw:Int)∧bw≤1∧o.length=n∧Dg o∧vl (o.take k)+vl (lb.take k)=vl (la.take k)+65536 ^ k*bw ∧
  Bl wr g 24 (nl o).toArray∧Below g w0 wr
theorem Z2n(A B:Option Addr)(n m c d:Nat)(la lb:List Nat)(w:World)(hn:n≤4000)(hmn:m≤n)(hla:Dg la)(hlb:Dg lb)(hle:vl lb≤vl la)(ha:Sl w A n (nl la))(hb:Sl w B m (nl lb)) :
  Calls Tryz.prog 101 #[.slice A n c,.slice B m d] w (RetN (vl la - vl lb) w):=by
 have HA:=Lib.hid ha
 have HB:=Lib.hid hb
 have HLA:=Lib.hid hla
 have HLB:=Lib.hid hlb
 have HLE:=Lib.hid hle
 have HN:=Lib.hid (Z09 ha)
 have HM:=Lib.hid (Z09 hb)
 have hmk:=Z6d n (by omega)
 clear ha hb hla hlb hle
 go_enter Tryz.func101,Tryz.ntmps101
 go_wp2
 clear hmk
 have B0:=Lib.hid (Bl.new_ w 24 (nl (List.replicate n 0)).toArray)
 have G0:=Lib.hid ((Below.refl w.heap.size w).alloc (Nat.le_refl _) (.cells (nl (List.replicate n 0)).toArray 24))
 go_loopw [6,7] (fun c i wr=>Zp7 la lb n w.heap.size (w.alloc (.cells (nl (List.replicate n 0)).toArray 24)) c i wr) (fun _ i _=>n - (intOf i).toNat)
 case atStart=>exact⟨0,0,_,Nat.zero_le _,rfl,rfl,by decide,by simp,Dg.replicate _,by simp[Z3d],B0.out,Below.refl _ _⟩
 case round =>
  obtain⟨k,bw,o,hk,rfl,rfl,hbo,hol,hod,hv,hbl,hbw⟩:=hrel
  have BL:=Lib.hid hbl
  have BW:=Lib.hid hbw
  have OL:=Lib.hid hol
  have OD:=Lib.hid hod
  have HV:=Lib.hid hv
  have GW:=Lib.hid (G0.out.trans hbw)
  clear hbl hbw hol hod hv
  by_cases hlt:k < n
  ·obtain⟨ad,rfl,-⟩:=(HA.out.below GW.out).at_ hlt
   obtain⟨x,hx⟩:∃x,x=la.getD k 0:=⟨_,rfl⟩
   have c1:=sl_num (HA.out.below GW.out) hlt
   rw[←hx] at c1
   have fz:=BL.out.frozen k
   have co:=Z0u BL.out (show k < o.length by rw[OL.out];omega)
   have hxb:x < 65536:=by rw[hx];exact HLA.out.get k
   have HX:=Lib.hid hx
   clear hx
   obtain⟨z0,hz0⟩:∃z0,z0=65536+x:=⟨_,rfl⟩
   have e00:(65536:Int)+(x:Int)=(z0:Int):=by omega
   obtain⟨z1,hz1⟩:∃z1,z1=z0 - bw:=⟨_,rfl⟩
   have e01:(z0:Int) - (bw:Int)=(z1:Int):=by omega
   have z0b:z0 < 131072:=by omega
   have z1b:z1 < 131072:=by omega
   have z1c:65535≤z1:=by omega
   by_cases hlm:k < m
   ·obtain⟨bd,rfl,-⟩:=(HB.out.below GW.out).at_ hlm
    obtain⟨y,hy⟩:∃y,y=lb.getD k 0:=⟨_,rfl⟩
    have c2:=sl_num (HB.out.below GW.out) hlm
    rw[←hy] at c2
    have hyb:y < 65536:=by rw[hy];exact HLB.out.get k
    obtain⟨z,hz⟩:∃z,z=z1 - y:=⟨_,rfl⟩
    have e0:(z1:Int) - (y:Int)=(z:Int):=by omega
    have e1:(z:Int)%65536=((z%65536:Nat):Int):=by omega
    have e2:(z:Int) / 65536=((z / 65536:Nat):Int):=by omega
    have zb:z < 131072:=by omega
    have ST:=Lib.hid (Z76 la lb o k bw z (by rw[OL.out];omega) hbo HLA.out HLB.out HV.out (by rw[←HX.out,←hy];omega))
    obtain⟨r,hr⟩:∃r,z%65536=r:=⟨_,rfl⟩
    obtain⟨q,hq⟩:∃q,z / 65536=q:=⟨_,rfl⟩
    obtain⟨b',hb'⟩:∃b',1 - q=b':=⟨_,rfl⟩
    rw[hr] at e1
    rw[hq] at e2
    have HR:=Lib.hid hr
    have HQ:=Lib.hid hq
    have HQ':=Lib.hid hb'
    have q1:q≤1:=by omega
    have e3:(1:Int) - (q:Int)=(b':Int):=by omega
    have b1:b'≤1:=by omega
    have r1:r < 65536:=by omega
    clear hz hy hr hq hz0 hz1 hb'
    go_wp2
    go_roundw
    case rel=>exact⟨k+1,b',o.set k r,by omega,by go_num,rfl,b1,by rw[List.length_set];exact OL.out,OD.out.set _ _ r1,by rw[←HQ'.out,←HR.out,←HQ.out];exact ST.out.1,by rw[←Z0t];exact BL.out.set_ k _,BW.out.setCell (p:=⟨w.heap.size,k,none⟩) (Nat.le_refl _) _⟩
    case measure=>simp[intOf];omega
   ·have e1:(z1:Int)%65536=((z1%65536:Nat):Int):=by omega
    have e2:(z1:Int) / 65536=((z1 / 65536:Nat):Int):=by omega
    have ST:=Lib.hid (Z76 la lb o k bw z1 (by rw[OL.out];omega) hbo HLA.out HLB.out HV.out (by rw[←HX.out,Z4h lb k (by rw[HM.out];omega)];omega))
    obtain⟨r,hr⟩:∃r,z1%65536=r:=⟨_,rfl⟩
    obtain⟨q,hq⟩:∃q,z1 / 65536=q:=⟨_,rfl⟩
    obtain⟨b',hb'⟩:∃b',1 - q=b':=⟨_,rfl⟩
    rw[hr] at e1
    rw[hq] at e2
    have HR:=Lib.hid hr
    have HQ:=Lib.hid hq
    have HQ':=Lib.hid hb'
    have q1:q≤1:=by omega
    have e3:(1:Int) - (q:Int)=(b':Int):=by omega
    have b1:b'≤1:=by omega
    have r1:r < 65536:=by omega
    clear hr hq hz0 hz1 hb'
    go_wp2
    go_roundw
    case rel=>exact⟨k+1,b',o.set k r,by omega,by go_num,rfl,b1,by rw[List.length_set];exact OL.out,OD.out.set _ _ r1,by rw[←HQ'.out,←HR.out,←HQ.out];exact ST.out.1,by rw[←Z0t];exact BL.out.set_ k _,BW.out.setCell (p:=⟨w.heap.size,k,none⟩) (Nat.le_refl _) _⟩
    case measure=>simp[intOf];omega
  ·obtain rfl:k=n:=by omega
   have HE:=Lib.hid (Zeg la lb o k bw HN.out (by rw[HM.out];exact hmn) OL.out OD.out HLE.out HV.out)
   have SL2:=Lib.hid (Z32 BL.out OL.out)
   go_wp2_with fail
   (with_reducible refine(Z1u _ k k o _ (by omega) (Nat.le_refl _) OD.out SL2.out).mono ?_)
   intro e w2 h2
   have R2:=Lib.hid (h2.of HE.out GW.out)
   clear h2
   obtain⟨A2,k2,c2,rfl,h3,h4,h5⟩:=R2.out
   have R3:=Lib.hid (show RetN (vl la - vl lb) w (.returned (.slice A2 k2 c2)) w2 from R2.out)
   clear R2 h3 h4 h5
   go_wp2
   go_ret
   exact R3.out
theorem Zcs{a b:Nat}(p:Nat)(hd:(dg a).drop (p+1)=(dg b).drop (p+1))(hn:(dg a).getD p 0≠(dg b).getD p 0):decide ((dg a).getD p 0 < (dg b).getD p 0)=decide (a < b):=by
 have ha:=Z4g (dg a) (p+1)
 have hb:=Z4g (dg b) (p+1)
 rw[Z0n,Z0l] at ha hb
 rw[hd] at ha
 have la:vl ((dg a).take p) < 65536 ^ p:=Nat.lt_of_lt_of_le (Z3z _ ((Z0o a).take p)) (Nat.pow_le_pow_right (by decide) (by rw[List.length_take];omega))
 have lb:vl ((dg b).take p) < 65536 ^ p:=Nat.lt_of_lt_of_le (Z3z _ ((Z0o b).take p)) (Nat.pow_le_pow_right (by decide) (by rw[List.length_take];omega))
 generalize(dg a).getD p 0=x at *
 generalize(dg b).getD p 0=y at *
 generalize vl ((dg a).take p)=s at *
 generalize vl ((dg b).take p)=t at *
 generalize 65536 ^ (p+1)*vl ((dg b).drop (p+1))=z at *
 generalize 65536 ^ p=B at *
 rw[decide_eq_decide]
 constructor
 ·intro h
  have:=Nat.mul_le_mul_left B (show x+1≤y from h)
  rw[Nat.mul_add] at this
  omega
 ·intro h
  rcases Nat.lt_or_ge x y with h1|h1
  ·exact h1
  ·have:=Nat.mul_le_mul_left B (show y+1≤x by omega)
   rw[Nat.mul_add] at this
   omega
theorem Zes{a b:Nat}(h:(dg a).length≠(dg b).length):decide ((dg a).length < (dg b).length)=decide (a < b):=by
 rw[decide_eq_decide]
 constructor
 ·intro h1
  have:=Z74 (Z0o a) (Z0o b) (Zoo b) h1
  rwa [Z0l,Z0l] at this
 ·intro h1
  rcases Nat.lt_or_ge (dg a).length (dg b).length with h2|h2
  ·exact h2
  ·have:=Z74 (Z0o b) (Z0o a) (Zoo a) (by omega)
   rw[Z0l,Z0l] at this
   omega
theorem Zet{a b:List Nat}(p:Nat)(ha:p < a.length)(hb:p < b.length)(hd:a.drop (p+1)=b.drop (p+1))(he:a.getD p 0=b.getD p 0):a.drop p=b.drop p:=by
 rw[List.drop_eq_getElem_cons ha,List.drop_eq_getElem_cons hb,hd]
 rw[List.getD_eq_getElem?_getD,List.getD_eq_getElem?_getD,List.getElem?_eq_getElem ha,List.getElem?_eq_getElem hb] at he
 simp only[Option.getD_some] at he
 rw[he]
theorem Z26 (A B : Option Addr) (n m c d : Nat) (a b : Nat) (w : World) (hn : n ≤ 4000) (hm : m ≤ 4000) (ha : Sl w A n (nl (dg a))) (hb : Sl w B m (nl (dg b))) :
    Calls Tryz.prog 86 #[.slice A n c, .slice B m d] w fun e w' => e = .returned (.bool (decide (a < b))) ∧ Below w.heap.size w w' := by
  have HA := Lib.hid ha
  have HB := Lib.hid hb
  have HN := Lib.hid (Z09 ha)
  have HM := Lib.hid (Z09 hb)
  obtain ⟨R, hR⟩ : ∃ R, decide (a < b) = R := ⟨_, rfl⟩
  rw [hR]
  have HR := Lib.hid hR
  clear ha hb hR
  by_cases hnm : n = m
  · subst hnm
    have t1 : ((n : Int) != (n : Int)) = false := by simp
    go_enter Tryz.func86, Tryz.ntmps86
    go_wp2
    clear t1
    go_loopw [5] (fun i wr => ∃ j : Nat, j ≤ n ∧ i = .int .i64 ((j : Int) - 1) ∧ (dg a).drop j = (dg b).drop j ∧ Below w.heap.size w wr) (fun i _ => (intOf i + 1).toNat)
    case atStart => exact ⟨n, Nat.le_refl _, rfl, by rw [List.drop_of_length_le (by rw [HN.out]; exact Nat.le_refl _), List.drop_of_length_le (by rw [HM.out]; exact Nat.le_refl _)], Below.refl _ _⟩
    case round =>
      obtain ⟨j, hj, rfl, hd, hw⟩ := hrel
      have HD := Lib.hid hd
      have W0 := Lib.hid hw
      clear hd hw
      rcases j with _ | p
      · have HF := Lib.hid (show R = false by
          rw [← HR.out]
          have : a = b := Zjz (by simpa using HD.out)
          rw [this]; simp)
        go_wp2
        go_ret
        exact ⟨Z3n HF.out.symm, W0.out⟩
      · have e : (((p + 1 : Nat) : Int) - 1) = (p : Int) := by omega
        rw [e]
        clear e
        obtain ⟨ad, rfl, -⟩ := (HA.out.below W0.out).at_ (k := p) (by omega)
        obtain ⟨bd, rfl, -⟩ := (HB.out.below W0.out).at_ (k := p) (by omega)
        obtain ⟨x, hx⟩ : ∃ x, x = (dg a).getD p 0 := ⟨_, rfl⟩
        obtain ⟨y, hy⟩ : ∃ y, y = (dg b).getD p 0 := ⟨_, rfl⟩
        have c1 := sl_num (HA.out.below W0.out) (p := p) (by omega)
        have c2 := sl_num (HB.out.below W0.out) (p := p) (by omega)
        rw [← hx] at c1
        rw [← hy] at c2
        have HX := Lib.hid hx
        have HY := Lib.hid hy
        have pn : (p : Int) < (n : Int) := by omega
        have p0 : (0 : Int) ≤ (p : Int) := by omega
        clear hx hy
        by_cases hxy : x = y
        · have t1 : ((x : Int) != (y : Int)) = false := by simp; omega
          have HXY := Lib.hid hxy
          clear hxy
          go_wp2
          go_quiet (fail)
          clear c1 c2
          go_wp2
          go_roundw
          case rel => exact ⟨p, by omega, rfl, Zet p (by rw [HN.out]; omega) (by rw [HM.out]; omega) HD.out (by rw [← HX.out, ← HY.out]; exact HXY.out), below_drewN W0.out _⟩
          case measure => simp [intOf] <;> omega
        · have t1 : ((x : Int) != (y : Int)) = true := by simp; omega
          have HE := Lib.hid (show decide (x < y) = R by rw [← HR.out, HX.out, HY.out]; exact Zcs p HD.out (by rw [← HX.out, ← HY.out]; exact hxy))
          clear hxy
          go_wp2
          go_quiet (fail)
          have W1 := Lib.hid (show Below w.heap.size w (wr.drewN nq) from below_drewN W0.out nq)
          generalize wr.drewN nq = w1 at *
          clear c1 c2
          have c1 := sl_num (HA.out.below W1.out) (p := p) (by omega)
          have c2 := sl_num (HB.out.below W1.out) (p := p) (by omega)
          rw [← HX.out] at c1
          rw [← HY.out] at c2
          go_wp2
          go_quiet (fail)
          go_wp2
          go_ret
          exact ⟨Z3n (by rw [← HE.out]), below_drewN W1.out _⟩
  · have t1 : ((n : Int) != (m : Int)) = true := by simp; omega
    have HE := Lib.hid (show decide (n < m) = R by rw [← HR.out, ← HN.out, ← HM.out]; exact Zes (by rw [HN.out, HM.out]; exact hnm))
    clear hnm
    go_enter Tryz.func86, Tryz.ntmps86
    go_wp2
    go_ret
    exact ⟨Z3n (by rw [← HE.out]), Below.refl _ _⟩
def TmO(la lb:List Nat)(n N g:Nat)(w0:World)(i:Value)(wr:World):Prop :=
 ∃(j:Nat) (o:List Nat),j≤n∧i=.int .i64 (j:Int)∧o.length=N∧Dg o∧vl o=vl (la.take j)*vl lb∧Bl wr g 24 (nl o).toArray∧Below g w0 wr
def TmI(la lb o:List Nat)(j m N g:Nat)(w0:World)(c i:Value)(wr:World):Prop :=
 ∃(k cy:Nat) (o':List Nat),k≤m∧i=.int .i64 (k:Int)∧c=.int .u64 (cy:Int)∧cy < 65536∧o'.length=N∧Dg o'∧(∀p,j+k≤p→o'.getD p 0=o.getD p 0) ∧
  vl o'+65536 ^ (j+k)*cy=vl o+65536 ^ j*(la.getD j 0*vl (lb.take k))∧Bl wr g 24 (nl o').toArray∧Below g w0 wr
theorem Z90(A B:Option Addr)(n m c d:Nat)(la lb:List Nat)(w:World)(hn:n≤1000)(hm:m≤1000)(hla:Dg la)(hlb:Dg lb)(ha:Sl w A n (nl la))(hb:Sl w B m (nl lb)) :
  Calls Tryz.prog 91 #[.slice A n c,.slice B m d] w (RetN (vl la*vl lb) w):=by
 obtain⟨N1,hN1⟩:∃N1,N1=n+m:=⟨_,rfl⟩
 have eN1:(n:Int)+(m:Int)=(N1:Int):=by omega
 obtain⟨N,hN⟩:∃N,N=N1+1:=⟨_,rfl⟩
 have eN:(N1:Int)+1=(N:Int):=by omega
 have hN2:N≤2001:=by omega
 have hN3:N1≤2000:=by omega
 have hmk:=Z6d N (by omega)
 have HA:=Lib.hid ha
 have HB:=Lib.hid hb
 have HLA:=Lib.hid hla
 have HLB:=Lib.hid hlb
 have HL:=Lib.hid (And.intro (Z09 ha) (Z09 hb))
 have HN:=Lib.hid (show N=n+m+1 by omega)
 clear ha hb hla hlb hN hN1
 go_enter Tryz.func91,Tryz.ntmps91
 go_wp2_with fail
 clear hmk eN1 eN
 have B0:=Lib.hid (Bl.new_ w 24 (nl (List.replicate N 0)).toArray)
 have G0:=Lib.hid ((Below.refl w.heap.size w).alloc (Nat.le_refl _) (.cells (nl (List.replicate N 0)).toArray 24))
 obtain⟨g,hg⟩:∃g,g=w.heap.size:=⟨_,rfl⟩
 have HG:=Lib.hid hg
 rw[←hg] at B0 ⊢
 generalize hw0:w.alloc _=w0 at B0 G0 ⊢
 clear hw0 hg
 go_loopw [6] (fun i wr=>TmO la lb n N g w0 i wr) (fun i _=>n - (intOf i).toNat)
 case atStart=>exact⟨0,_,Nat.zero_le _,rfl,by simp,Dg.replicate _,by simp[Z3d,Z3e],B0.out,Below.refl _ _⟩
 case round =>
  obtain⟨j,o,hj,rfl,hol,hod,hov,hbl,hgr⟩:=hrel
  have BL0:=Lib.hid hbl
  have GR:=Lib.hid hgr
  have OL:=Lib.hid hol
  have OD:=Lib.hid hod
  have OV:=Lib.hid hov
  clear hbl hgr hol hod hov
  by_cases hlt:j < n
  ·obtain⟨X,hX⟩:∃X,X=la.getD j 0:=⟨_,rfl⟩
   have HX:=Lib.hid hX
   clear hX
   have R0:=Lib.hid (show TmI la lb o j m N g w0 (.int .u64 0) (.int .i64 0) wr from⟨0,0,o,Nat.zero_le _,rfl,rfl,by decide,OL.out,OD.out,fun _ _=>rfl,by simp[Z3d],BL0.out,GR.out⟩)
   go_wp2_with fail
   go_loopw [7,8] (fun c i wx=>TmI la lb o j m N g w0 c i wx) (fun _ i _=>m - (intOf i).toNat)
   case atStart=>exact R0.out
   case round =>
    obtain⟨k,cy,L,hk,rfl,rfl,hcy,hLl,hLd,hsame,hv,hbl,hgr⟩:=hrel
    have BX:=Lib.hid hbl
    have GX:=Lib.hid hgr
    have LL:=Lib.hid hLl
    have LD:=Lib.hid hLd
    have LS:=Lib.hid hsame
    have LV:=Lib.hid hv
    have GW:=Lib.hid (show Below w.heap.size w wr from G0.out.trans (by have:=HG.out;subst this;exact hgr))
    clear hbl hgr hLl hLd hsame hv
    by_cases hlk:k < m
    ·obtain⟨p,hp⟩:∃p,p=j+k:=⟨_,rfl⟩
     have ep:(j:Int)+(k:Int)=(p:Int):=by omega
     have wp:IntKind.i64.wrap (p:Int)=(p:Int):=by rw[IntKind.wrap_i64];omega
     have p0:(0:Int)≤(p:Int):=by omega
     have pN:(p:Int) < (N:Int):=by have:=HN.out;omega
     have hpN:p < N:=by have:=HN.out;omega
     obtain⟨a1,rfl,-⟩:=(HA.out.below GW.out).at_ hlt
     obtain⟨b1,rfl,-⟩:=(HB.out.below GW.out).at_ hlk
     obtain⟨Y,hY⟩:∃Y,Y=lb.getD k 0:=⟨_,rfl⟩
     obtain⟨O,hO⟩:∃O,O=L.getD p 0:=⟨_,rfl⟩
     have ca:=sl_num (HA.out.below GW.out) hlt
     have cb:=sl_num (HB.out.below GW.out) hlk
     have co:=Z0u BX.out (show p < L.length by rw[LL.out];exact hpN)
     rw[←HX.out] at ca
     rw[←hY] at cb
     rw[←hO] at co
     obtain⟨V,hV⟩:∃V,V=O+X*Y+cy:=⟨_,rfl⟩
     have VS:V < 4294967296:=by
      rw[hV,hO,hY,HX.out]
      exact Zaa LD.out p _ _ cy (HLA.out.get j) (HLB.out.get k) hcy
     have eV:IntKind.u64.wrap (IntKind.u64.wrap ((O:Int)+IntKind.u64.wrap ((X:Int)*(Y:Int)))+(cy:Int))=(V:Int):=by
      rw[hV] at VS ⊢
      rw[←Int.natCast_mul]
      generalize X*Y=Q at *
      simp only[IntKind.wrap_u64]
      omega
     obtain⟨V1,hV1⟩:∃V1,V1=V%65536:=⟨_,rfl⟩
     obtain⟨V2,hV2⟩:∃V2,V2=V / 65536:=⟨_,rfl⟩
     have e1:(V:Int)%65536=(V1:Int):=by omega
     have e2:(V:Int) / 65536=(V2:Int):=by omega
     have e1':IntKind.u64.wrap (V1:Int)=(V1:Int):=by rw[IntKind.wrap_u64];omega
     have e2':IntKind.u64.wrap (V2:Int)=(V2:Int):=by rw[IntKind.wrap_u64];omega
     have NX:=Lib.hid (show vl (L.set p V1)+65536 ^ (j+(k+1))*V2=vl o+65536 ^ j*(la.getD j 0*vl (lb.take (k+1))) by
      rw[hp,hV1,hV2]
      refine Zht la lb o L j k cy V (vl o) (by rw[LL.out,←hp];exact hpN) ?_ LV.out
      rw[hV,hO,hY,HX.out,hp])
     have HP:=Lib.hid hp
     have V1b:=Lib.hid (show V1 < 65536 by omega)
     have V2b:=Lib.hid (show V2 < 65536 by omega)
     have E:=Lib.hid (And.intro (And.intro e1 e2) (And.intro e1' e2'))
     clear hp hV hV1 hV2 hY hO e1 e2 e1' e2' VS
     go_wp2_with fail
     go_quiet (fail)
     have BX2:=Lib.hid (BX.out.drewN nq)
     have GX2:=Lib.hid (below_drewN GX.out nq)
     have e1:=E.out.1.1
     have e2:=E.out.1.2
     have e1':=E.out.2.1
     have e2':=E.out.2.2
     clear ca cb co eV
     generalize hw3:wr.drewN nq=w3 at BX2 GX2 ⊢
     clear hw3
     have co:=Z0u BX2.out (show p < L.length by rw[LL.out];exact hpN)
     have fz:=BX2.out.frozen p
     go_wp2_with fail
     go_roundw
     case rel=>exact⟨k+1,V2,L.set p V1,by omega,by go_num,rfl,V2b.out,by rw[List.length_set];exact LL.out,LD.out.set _ _ V1b.out,fun q hq=>by rw[getD_set_ne _ _ _ _ (by have:=HP.out;omega)];exact LS.out q (by omega),NX.out,by rw[←Z0t];exact BX2.out.set_ p _,GX2.out.setCell (p:=⟨g,p,none⟩) (Nat.le_refl _) _⟩
     case measure=>simp[intOf];omega
    ·obtain⟨p,hp⟩:∃p,p=j+m:=⟨_,rfl⟩
     obtain rfl:k=m:=by omega
     have ep:(j:Int)+(k:Int)=(p:Int):=by omega
     have wp:IntKind.i64.wrap (p:Int)=(p:Int):=by rw[IntKind.wrap_i64];omega
     have p0:(0:Int)≤(p:Int):=by omega
     have pN:(p:Int) < (N:Int):=by have:=HN.out;omega
     have hpN:p < N:=by have:=HN.out;omega
     have co:=Z0u BX.out (show p < L.length by rw[LL.out];exact hpN)
     have fz:=BX.out.frozen p
     have NX:=Lib.hid (show vl (L.set p cy)=vl (la.take (j+1))*vl lb by
      have hlk:lb.length=k:=HL.out.2
      have h0:L.getD (j+lb.length) 0=0:=by
       rw[LS.out _ (by omega)]
       exact Zcq OD.out HLA.out HLB.out j _ OV.out (Nat.le_refl _)
      have:=Zeh la lb o L j cy OV.out (by rw[LL.out,hlk,←hp];exact hpN) h0 (by rw[hlk,LV.out,←hlk,List.take_length])
      rw[hlk,←hp] at this
      exact this)
     clear hp
     go_wp2_with fail
     go_roundw
     case rel=>exact⟨j+1,L.set p cy,by omega,by go_num,by rw[List.length_set];exact LL.out,LD.out.set _ _ hcy,NX.out,by rw[←Z0t];exact BX.out.set_ p _,GX.out.setCell (p:=⟨g,p,none⟩) (Nat.le_refl _) _⟩
     case measure=>simp[intOf];omega
  ·obtain rfl:j=n:=by omega
   have SL2:=Lib.hid (Z32 BL0.out OL.out)
   have GW:=Lib.hid (show Below w.heap.size w wr from G0.out.trans (by have:=HG.out;subst this;exact GR.out))
   have HE:=Lib.hid (show vl o=vl la*vl lb by rw[OV.out,←HL.out.1,List.take_length])
   go_wp2_with fail
   (with_reducible refine(Z1u _ N N o _ (by omega) (Nat.le_refl _) OD.out SL2.out).mono ?_)
   intro e w2 h2
   have R2:=Lib.hid (h2.of HE.out GW.out)
   clear h2
   obtain⟨A2,k2,c2,rfl,h3,h4,h5⟩:=R2.out
   have R3:=Lib.hid (show RetN (vl la*vl lb) w (.returned (.slice A2 k2 c2)) w2 from R2.out)
   clear R2 h3 h4 h5
   go_wp2
   go_ret
   exact R3.out
end Go.Proofs.YtjimhjfjfpeojaaGreatDoor.Fd
