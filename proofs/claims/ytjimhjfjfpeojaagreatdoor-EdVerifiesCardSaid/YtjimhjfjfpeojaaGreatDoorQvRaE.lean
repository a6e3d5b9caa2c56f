/- Joined texts. -/
import Derived.Test.YtjimhjfjfpeojaaGreatDoorQvRaA
import Derived.Test.YtjimhjfjfpeojaaGreatDoorQvRaB
import Derived.Test.YtjimhjfjfpeojaaGreatDoorQvFaA
import Derived.Test.YtjimhjfjfpeojaaGreatDoorQvRaC
set_option maxRecDepth 100000
set_option maxHeartbeats 8000000
set_option linter.unusedVariables false
namespace Go.Proofs.YtjimhjfjfpeojaaGreatDoor.Fd
open Go.RowKit Go.Proofs.YtjimhjfjfpeojaaGreatDoor.Gn Go.Deep
theorem Zpc:(Tryz.prog.info? 5).map (fun i=>(i.zero,i.size,i.bytes))=some (some (.int .u8 0),1,8 / 8):=by kernel_rfl
theorem Zlv(n:Nat):madeCells #[.int .u8 0] n=(bl (List.replicate n 0)).toArray:=by
 apply Array.ext'
 rw[toList_madeCells_one]
 simp[bl]
theorem Zs8(n:Nat)(h:n≤4096)(w:World):(Instr.makeSlice 22 (.int .i64 (n:Int)) (.int .i64 (n:Int))).run Tryz.prog w=.ok (.slice (some ⟨w.heap.size,0,none⟩) n n) (w.alloc (.cells (bl (List.replicate n 0)).toArray 5)):=by
 have:=run_make_row' (P:=Tryz.prog) 22 5 (.int .u8 0) 1 Tryz.underlying22 Zpc rfl .i64 .i64 n (by omega) (by omega) w
 rw[Zlv] at this
 exact this
theorem Zev(l:List Nat)(k x:Nat):(bl l).toArray.setIfInBounds k (.int .u8 (x:Int))=(bl (l.set k x)).toArray:=by simp[bl,List.setIfInBounds_toArray,List.map_set]
theorem Zak{w:World}{g:Nat}{t:TypeId}{l:List Nat}(h:Bl w g t (bl l).toArray){k:Nat}(hk:k < l.length):w.cell? ⟨g,k,none⟩=some (.int .u8 ((l.getD k 0:Nat):Int)):=by
 refine h.cell_ ?_
 rw[List.getElem?_toArray,Z1f,List.getElem?_eq_getElem hk]
 simp[List.getD_eq_getElem?_getD,List.getElem?_eq_getElem hk]
theorem Zlw{w:World}{g n:Nat}{t:TypeId}{l:List Nat}(h:Bl w g t (bl l).toArray)(hn:l.length=n):Sl w (some ⟨g,0,none⟩) n (bl l) :=
 Sl.of_bl h 0 n _ (by simp[bl,hn]) (fun k v hv=>by rw[Nat.zero_add];simpa using hv)
def RetY(l:List Nat)(w:World)(e:Ending)(w':World):Prop:=∃g,e=.returned (.slice (some ⟨g,0,none⟩) l.length l.length)∧w.heap.size≤g∧Bl w' g 5 (bl l).toArray∧Below w.heap.size w w'
def Zs9(la:List Nat)(n m g:Nat)(w0:World)(i:Value)(wr:World):Prop :=
 ∃k:Nat,k≤n∧i=.int .i64 (k:Int)∧Bl wr g 5 (bl (byk (vl la) m (2*k))).toArray∧Below g w0 wr
theorem Z2o(A:Option Addr)(n c m:Nat)(la:List Nat)(w:World)(hn:n≤1000)(hm:m≤1000)(hla:Dg la)(ha:Sl w A n (nl la)) :
  Calls Tryz.prog 39 #[.slice A n c,.int .i64 (m:Int)] w (RetY (by_ (vl la) m) w):=by
 have HA:=Lib.hid ha
 have HLA:=Lib.hid hla
 have HN:=Lib.hid (Z09 ha)
 have hmk:=Zs8 m (by omega)
 clear ha hla
 go_enter Tryz.func39,Tryz.ntmps39
 go_wp2
 clear hmk
 have B0:=Lib.hid (Bl.new_ w 5 (bl (List.replicate m 0)).toArray)
 have G0:=Lib.hid ((Below.refl w.heap.size w).alloc (Nat.le_refl _) (.cells (bl (List.replicate m 0)).toArray 5))
 obtain⟨g,hg⟩:∃g,g=w.heap.size:=⟨_,rfl⟩
 have HG:=Lib.hid hg
 rw[←hg] at B0 ⊢
 generalize hw0:w.alloc _=w0 at B0 G0 ⊢
 clear hw0 hg
 go_loopw [6] (fun i wr=>Zs9 la n m g w0 i wr) (fun i _=>n - (intOf i).toNat)
 case atStart=>exact⟨0,Nat.zero_le _,rfl,by rw[Nat.mul_zero,Zhu];exact B0.out,Below.refl _ _⟩
 case round =>
  obtain⟨k,hk,rfl,hbl,hgr⟩:=hrel
  have BL:=Lib.hid hbl
  have GR:=Lib.hid hgr
  have GW:=Lib.hid (show Below w.heap.size w wr from G0.out.trans (by have:=HG.out;subst this;exact hgr))
  clear hbl hgr
  by_cases hlt:k < n
  ·obtain⟨ad,rfl,-⟩:=(HA.out.below GW.out).at_ hlt
   obtain⟨x,hx⟩:∃x,x=la.getD k 0:=⟨_,rfl⟩
   have c1:=sl_num (HA.out.below GW.out) hlt
   rw[←hx] at c1
   have hxb:x < 65536:=by rw[hx];exact HLA.out.get k
   obtain⟨p,hp⟩:∃p,p=2*k:=⟨_,rfl⟩
   have ep:(2:Int)*(k:Int)=(p:Int):=by omega
   have pb:p≤2000:=by omega
   obtain⟨p1,hp1⟩:∃p1,p1=p+1:=⟨_,rfl⟩
   have ep1:(p:Int)+1=(p1:Int):=by omega
   obtain⟨r,hr⟩:∃r,r=x%256:=⟨_,rfl⟩
   obtain⟨s,hs⟩:∃s,s=x / 256:=⟨_,rfl⟩
   have e1:(x:Int)%256=(r:Int):=by omega
   have e2:(x:Int) / 256=(s:Int):=by omega
   have e1':IntKind.u8.wrap (r:Int)=(r:Int):=by rw[IntKind.wrap_u8];omega
   have e2':IntKind.u8.wrap (s:Int)=(s:Int):=by rw[IntKind.wrap_u8];omega
   have S1:=Lib.hid (show(byk (vl la) m (2*k)).set p r=byk (vl la) m (2*k+1) by rw[hp];exact Zei _ _ _ _ (by rw[hr,hx];exact Zlf la HLA.out k))
   have S2:=Lib.hid (show(byk (vl la) m (2*k+1)).set p1 s=byk (vl la) m (2*(k+1)) by rw[hp1,hp];exact Zei _ _ _ _ (by rw[hs,hx];exact Zor la HLA.out k))
   have HP:=Lib.hid (And.intro hp hp1)
   clear hx hr hs hp hp1
   by_cases h1:p < m
   ·have pm:(p:Int) < (m:Int):=by omega
    have c2:=Zak BL.out (show p < (byk (vl la) m (2*k)).length by rw[Z47];exact h1)
    have f2:=BL.out.frozen p
    have B1:=Lib.hid (show Bl (wr.setCell ⟨g,p,none⟩ (.int .u8 (r:Int))) g 5 (bl (byk (vl la) m (2*k+1))).toArray by rw[←S1.out,←Zev];exact BL.out.set_ p _)
    have G1:=Lib.hid (show Below g w0 (wr.setCell ⟨g,p,none⟩ (.int .u8 (r:Int))) from GR.out.setCell (p:=⟨g,p,none⟩) (Nat.le_refl _) _)
    have GW1:=Lib.hid (show Below w.heap.size w (wr.setCell ⟨g,p,none⟩ (.int .u8 (r:Int))) from G0.out.trans (by have:=HG.out;subst this;exact G1.out))
    by_cases h2:p1 < m
    ·have pm1:(p1:Int) < (m:Int):=by omega
     have c3:=sl_num (HA.out.below GW1.out) hlt
     rw[show la.getD k 0=x from by
      have h5:=sl_num (HA.out.below GW.out) hlt
      rw[c1] at h5
      have h6:=Option.some.inj h5
      injection h6 with _ h7
      omega] at c3
     have c4:=Zak B1.out (show p1 < (byk (vl la) m (2*k+1)).length by rw[Z47];exact h2)
     have f4:=B1.out.frozen p1
     go_wp2
     go_roundw
     case rel=>exact⟨k+1,by omega,by go_num,by rw[←S2.out,←Zev];exact B1.out.set_ p1 _,G1.out.setCell (p:=⟨g,p1,none⟩) (Nat.le_refl _) _⟩
     case measure=>simp[intOf];omega
    ·go_wp2
     go_roundw
     case rel=>exact⟨k+1,by omega,by go_num,by rw[show 2*(k+1)=(2*k+1)+1 by omega,Z7x _ _ _ (by have:=HP.out;omega)];exact B1.out,G1.out⟩
     case measure=>simp[intOf];omega
   ·have h2:¬p1 < m:=by have:=HP.out;omega
    go_wp2
    go_roundw
    case rel=>exact⟨k+1,by omega,by go_num,by rw[show 2*(k+1)=(2*k+1)+1 by omega,Z7x _ _ _ (by have:=HP.out;omega),Z7x _ _ _ (by have:=HP.out;omega)];exact BL.out,GR.out⟩
    case measure=>simp[intOf];omega
  ·obtain rfl:k=n:=by omega
   have HE:=Lib.hid (show byk (vl la) m (2*k)=by_ (vl la) m from Zle _ _ _ (by rw[←HN.out];exact Zhv la HLA.out))
   go_wp2
   go_ret
   exact⟨g,by rw[by_length];rfl,by rw[HG.out];exact Nat.le_refl _,by rw[←HE.out];exact BL.out,GW.out⟩
def Zsa(l:List Nat)(n N g:Nat)(w0:World)(i:Value)(wr:World):Prop :=
 ∃(k:Nat) (o:List Nat),k≤n∧i=.int .i64 (k:Int)∧o.length=N∧Dg o∧vl o=le (l.take k)∧Bl wr g 24 (nl o).toArray∧Below g w0 wr
theorem Z2p(A:Option Addr)(n c:Nat)(l:List Nat)(w:World)(hn:n≤1000)(hl:∀x∈l,x < 256)(ha:Sl w A n (bl l)) :
  Calls Tryz.prog 50 #[.slice A n c] w (RetN (le l) w):=by
 obtain⟨h,hh⟩:∃h,h=n / 2:=⟨_,rfl⟩
 have eh:(n:Int) / 2=(h:Int):=by omega
 have eh':(n:Int).tdiv 2=(h:Int):=by rw[Int.tdiv_eq_ediv_of_nonneg (by omega)];omega
 obtain⟨N,hN⟩:∃N,N=h+1:=⟨_,rfl⟩
 have eN:(h:Int)+1=(N:Int):=by omega
 have hmk:=Z6d N (by omega)
 have HA:=Lib.hid ha
 have HL:=Lib.hid hl
 have HN:=Lib.hid (show l.length=n by simpa[bl] using ha.1)
 have HNN:=Lib.hid (show N=n / 2+1 by omega)
 have hhb:h≤500:=by omega
 clear ha hl hh hN
 go_enter Tryz.func50,Tryz.ntmps50
 go_wp2
 clear hmk eN eh eh'
 have B0:=Lib.hid (Bl.new_ w 24 (nl (List.replicate N 0)).toArray)
 have G0:=Lib.hid ((Below.refl w.heap.size w).alloc (Nat.le_refl _) (.cells (nl (List.replicate N 0)).toArray 24))
 obtain⟨g,hg⟩:∃g,g=w.heap.size:=⟨_,rfl⟩
 have HG:=Lib.hid hg
 rw[←hg] at B0 ⊢
 generalize hw0:w.alloc _=w0 at B0 G0 ⊢
 clear hw0 hg
 go_loopw [4] (fun i wr=>Zsa l n N g w0 i wr) (fun i _=>n - (intOf i).toNat)
 case atStart=>exact⟨0,_,Nat.zero_le _,rfl,by simp,Dg.replicate _,by simp[Z3e,le_nil],B0.out,Below.refl _ _⟩
 case round =>
  obtain⟨k,o,hk,rfl,hol,hod,hv,hbl,hgr⟩:=hrel
  have BL:=Lib.hid hbl
  have GR:=Lib.hid hgr
  have OL:=Lib.hid hol
  have OD:=Lib.hid hod
  have HV:=Lib.hid hv
  have GW:=Lib.hid (show Below w.heap.size w wr from G0.out.trans (by have:=HG.out;subst this;exact hgr))
  clear hbl hgr hol hod hv
  by_cases hlt:k < n
  ·obtain⟨ad,rfl,-⟩:=(HA.out.below GW.out).at_ hlt
   obtain⟨x,hx⟩:∃x,x=l.getD k 0:=⟨_,rfl⟩
   have c1:=sl_byte (HA.out.below GW.out) hlt
   rw[←hx] at c1
   have hxb:x < 256:=by
    rw[hx,List.getD_eq_getElem?_getD,List.getElem?_eq_getElem (by rw[HN.out];exact hlt)]
    exact HL.out _ (List.getElem_mem _)
   have ew:IntKind.u64.wrap (x:Int)=(x:Int):=by rw[IntKind.wrap_u64];omega
   obtain⟨q,hq⟩:∃q,q=k / 2:=⟨_,rfl⟩
   have eq:(k:Int) / 2=(q:Int):=by omega
   have eq':(k:Int).tdiv 2=(q:Int):=by rw[Int.tdiv_eq_ediv_of_nonneg (by omega)];omega
   have hqN:q < N:=by have:=HNN.out;omega
   have qN:(q:Int) < (N:Int):=by omega
   have c2:=Z0u BL.out (show q < o.length by rw[OL.out];exact hqN)
   have f2:=BL.out.frozen q
   obtain⟨y,hy⟩:∃y,y=o.getD q 0:=⟨_,rfl⟩
   rw[←hy] at c2
   by_cases hpar:k%2=0
   ·have e1:(k:Int)%2=0:=by omega
    have e1':(k:Int).tmod 2=0:=by rw[Int.tmod_eq_emod_of_nonneg (by omega)];omega
    have y0:y=0:=by rw[hy];exact Zab OD.out HL.out k q (by omega) HV.out
    have ST:=Lib.hid (show vl (o.set q x)=le (l.take (k+1)) by
     have:=Z5j (l:=l) (o:=o) k q x (by omega) (by rw[OL.out];exact hqN) hx (by rw[←hy];exact y0) HV.out
     rwa [←hy,y0,Nat.zero_add] at this)
    have ez:(y:Int)+(x:Int)=(x:Int):=by omega
    have ex:(0:Int)+(x:Int)=(x:Int):=by omega
    have xb:=Lib.hid (show x < 65536 by omega)
    subst y0
    clear hx hq hy hpar
    go_wp2
    go_roundw
    case rel=>exact⟨k+1,o.set q x,by omega,by go_num,by rw[List.length_set];exact OL.out,OD.out.set _ _ xb.out,ST.out,by rw[←Z0t];exact BL.out.set_ q _,GR.out.setCell (p:=⟨g,q,none⟩) (Nat.le_refl _) _⟩
    case measure=>simp[intOf];omega
   ·have e1:(k:Int)%2=1:=by omega
    have e1':(k:Int).tmod 2=1:=by rw[Int.tmod_eq_emod_of_nonneg (by omega)];omega
    have y0:y < 256:=by rw[hy];exact Zcr OD.out HL.out k q (by omega) HV.out
    obtain⟨u,hu⟩:∃u,u=x*256:=⟨_,rfl⟩
    have eu:(x:Int)*256=(u:Int):=by omega
    obtain⟨z,hz⟩:∃z,z=y+u:=⟨_,rfl⟩
    have ez:(y:Int)+(u:Int)=(z:Int):=by omega
    have ub:u < 65536:=by omega
    have ST:=Lib.hid (show vl (o.set q z)=le (l.take (k+1)) by
     rw[hz,hu,hy]
     exact Z65 (l:=l) (o:=o) k q x (by omega) (by rw[OL.out];exact hqN) hx HV.out)
    have zb:=Lib.hid (show z < 65536 by omega)
    clear hx hq hy hpar hu hz
    go_wp2
    go_roundw
    case rel=>exact⟨k+1,o.set q z,by omega,by go_num,by rw[List.length_set];exact OL.out,OD.out.set _ _ zb.out,ST.out,by rw[←Z0t];exact BL.out.set_ q _,GR.out.setCell (p:=⟨g,q,none⟩) (Nat.le_refl _) _⟩
    case measure=>simp[intOf];omega
  ·obtain rfl:k=n:=by omega
   have SL2:=Lib.hid (Z32 BL.out OL.out)
   have HE:=Lib.hid (show vl o=le l by rw[HV.out,←HN.out,List.take_length])
   have hNb:N≤4096:=by have:=HNN.out;omega
   go_wp2_with fail
   (with_reducible refine(Z1u _ N N o _ hNb (Nat.le_refl _) OD.out SL2.out).mono ?_)
   intro e w2 h2
   have R2:=Lib.hid (h2.of HE.out GW.out)
   clear h2
   obtain⟨A2,k2,c2,rfl,h3,h4,h5⟩:=R2.out
   have R3:=Lib.hid (show RetN (le l) w (.returned (.slice A2 k2 c2)) w2 from R2.out)
   clear R2 h3 h4 h5
   go_wp2
   go_ret
   exact R3.out
def Zsb(N g:Nat)(w0:World)(i:Value)(wr:World):Prop :=
 ∃k:Nat,k≤255∧i=.int .i64 (k:Int)∧Bl wr g 26 (nl (lbs N k)).toArray∧Below g w0 wr
theorem Zi3(N:Nat):lbs N 0=[0,0,0,0,0]:=by simp[lbs,Zlj]
theorem Zlx(N k j:Nat):lb N k j < 2251799813685248:=by
 unfold lb
 refine Nat.lt_of_lt_of_le (Nat.mod_lt _ (Nat.pow_pos (by decide))) ?_
 exact Nat.le_trans (Nat.pow_le_pow_right (by decide) (Nat.min_le_left _ _)) (by decide)
theorem Zew(A:Option Addr)(n c:Nat)(N:Nat)(w:World)(hn:n≤100)(hN:N < pp)(ha:Sl w A n (nl (dg N))) :
  Calls Tryz.prog 88 #[.slice A n c] w fun e w'=>e=.returned (.agg (el N).v)∧Below w.heap.size w w':=by
 have A0:=(Below.refl w.heap.size w).alloc (Nat.le_refl _) (.cells z5 26)
 have Z0:=Lib.hid (Bl.new_ w 26 z5)
 have BY:=Z2o A n c 32 (dg N) (w.alloc (.cells z5 26)) (by omega) (by decide) (Z0o _) (ha.below A0)
 rw[Z0l] at BY
 have BY:=Lib.hid (show Calls Tryz.prog 39 #[.slice A n c,.int .i64 32] (w.alloc (.cells z5 26)) (RetY (by_ N 32) (w.alloc (.cells z5 26))) from BY)
 have W0:=Lib.hid A0
 have HN:=Lib.hid hN
 obtain⟨y,hy⟩:∃y,el N=y:=⟨_,rfl⟩
 have HY:=Lib.hid hy
 rw[hy]
 clear ha A0 hN hy
 go_enter Tryz.func88,Tryz.ntmps88
 go_wp2_with fail
 change Calls _ _ _ (w.alloc (.cells z5 26)) _
 (with_reducible refine BY.out.mono ?_)
 rintro e w1 ⟨gb,rfl,hgb,hbb,hb1⟩
 rw[by_length]
 have B1:=Lib.hid hbb
 have W1:=Lib.hid (Z0g W0.out (Nat.le_refl _) hb1)
 have Z1:=Lib.hid (Z0.out.below' hb1)
 clear hgb hbb hb1 BY W0 Z0
 go_wp2_with fail
 have hel:Bl (w1.alloc (.cells (nl [0,0,0,0,0]).toArray 26)) w1.heap.size 26 (nl (lbs N 0)).toArray:=by rw[Zi3];exact Bl.new_ _ _ _
 have a1:=(Below.refl w1.heap.size w1).alloc (Nat.le_refl _) (.cells (nl [0,0,0,0,0]).toArray 26)
 change Code.wp _ _ _ _ (w1.alloc (.cells (nl [0,0,0,0,0]).toArray 26))
 obtain⟨g,hg⟩:∃g,g=w1.heap.size:=⟨_,rfl⟩
 have HG:=Lib.hid hg
 rw[←hg] at hel a1 ⊢
 generalize w1.alloc (.cells (nl [0,0,0,0,0]).toArray 26)=w2 at hel a1 ⊢
 have E2:=Lib.hid hel
 have A2:=Lib.hid a1
 clear hel a1 hg
 go_loopw [5] (fun i wr=>Zsb N g w2 i wr) (fun i _=>255 - (intOf i).toNat)
 case atStart=>exact⟨0,Nat.zero_le _,rfl,E2.out,Below.refl _ _⟩
 case round =>
  obtain⟨k,hk,rfl,hbl,hbw⟩:=hrel
  have BL:=Lib.hid hbl
  have BW:=Lib.hid hbw
  have WX:=Lib.hid (show Below w1.heap.size w1 wr from A2.out |> fun h=>by have h2:=HG.out;subst h2;exact h.trans hbw)
  have BB:=Lib.hid (B1.out.below' WX.out)
  clear hbl hbw
  by_cases hlt:k < 255
  ·obtain⟨q,hq⟩:∃q,q=k / 8:=⟨_,rfl⟩
   obtain⟨m,hm⟩:∃m,m=k%8:=⟨_,rfl⟩
   obtain⟨u,hu⟩:∃u,u=k / 51:=⟨_,rfl⟩
   obtain⟨r,hr⟩:∃r,r=k%51:=⟨_,rfl⟩
   have e1:(k:Int) / 8=(q:Int):=by omega
   have e2:(k:Int)%8=(m:Int):=by omega
   have e3:(k:Int) / 51=(u:Int):=by omega
   have e4:(k:Int)%51=(r:Int):=by omega
   have q32:(q:Int) < 32:=by omega
   have u5:(u:Int) < 5:=by omega
   have m64:(m:Int) < 64:=by omega
   have r64:(r:Int) < 64:=by omega
   have em:IntKind.u64.wrap (m:Int)=(m:Int):=by rw[IntKind.wrap_u64];omega
   have er:IntKind.u64.wrap (r:Int)=(r:Int):=by rw[IntKind.wrap_u64];omega
   obtain⟨x,hx⟩:∃x,x=(by_ N 32).getD q 0:=⟨_,rfl⟩
   have hxv:x=N / 256 ^ q%256:=by
    rw[hx,List.getD_eq_getElem?_getD]
    unfold by_
    simp[show q < 32 by omega]
   have cb:=Zak BB.out (k:=q) (by rw[by_length];omega)
   rw[←hx] at cb
   have ex:IntKind.u64.wrap (x:Int)=(x:Int):=by rw[IntKind.wrap_u64,hxv];omega
   obtain⟨y,hy⟩:∃y,y=x / 2 ^ m:=⟨_,rfl⟩
   have ey:(x:Int) / 2 ^ m=(y:Int):=by rw[hy];simp
   obtain⟨d,hd⟩:∃d,d=y%2:=⟨_,rfl⟩
   have ed:(y:Int)%2=(d:Int):=by omega
   have hdv:d=N / 2 ^ k%2:=by rw[hd,hy,hxv,hq,hm,Zbr]
   obtain⟨o,ho⟩:∃o,o=lb N k u:=⟨_,rfl⟩
   have co:=Z0u BL.out (k:=u) (by rw[Z80];omega)
   rw[show(lbs N k).getD u 0=o by rw[ho,List.getD_eq_getElem?_getD,Zad _ _ _ (by omega)];rfl] at co
   have fo:=BL.out.frozen u
   obtain⟨z,hz⟩:∃z,z=d*2 ^ r:=⟨_,rfl⟩
   have hp51:2 ^ r≤2251799813685248:=Nat.le_trans (Nat.pow_le_pow_right (by decide) (show r≤51 by omega)) (by decide)
   have hzb:z≤2251799813685248:=by
    rw[hz]
    have:d≤1:=by omega
    exact Nat.le_trans (Nat.mul_le_mul_right _ this) (by omega)
   have ez:IntKind.u64.wrap ((d:Int)*2 ^ r)=(z:Int):=by
    have:(d:Int)*2 ^ r=(z:Int):=by rw[hz];simp
    rw[this,IntKind.wrap_u64];omega
   obtain⟨v,hv⟩:∃v,v=o+z:=⟨_,rfl⟩
   have hol:o < 2251799813685248:=by rw[ho];exact Zlx _ _ _
   have ev:IntKind.u64.wrap ((o:Int)+(z:Int))=(v:Int):=by rw[IntKind.wrap_u64];omega
   have ST:=Lib.hid (show(lbs N k).set u v=lbs N (k+1) by
    refine Zll N k u r v (by omega) (by omega) (by omega) ?_
    rw[(Zlk N k u r (by omega) (by omega)).1,hv,hz,hdv,ho])
   clear hq hm hu hr hx hxv hy hd hdv ho hz hp51 hzb hv hol
   go_wp2_with fail
   clear e1 e2 e3 e4 q32 u5 m64 r64 em er ex ey ed ez ev
   go_roundw
   case rel=>exact⟨k+1,by omega,by go_num,by rw[←ST.out,←Z0t];exact BL.out.set_ u _,BW.out.setCell (p:=⟨g,u,none⟩) (Nat.le_refl _) _⟩
   case measure=>simp[intOf];omega
  ·obtain rfl:k=255:=by omega
   have hE:(nl (lbs N 255)).toArray=(el N).v:=by
    rw[Zlm N (by have:=HN.out;have:=Z3f;omega)];rfl
   have hbe:=BL.out
   rw[hE,HY.out] at hbe
   obtain⟨⟨a0,a1,a2,a3,a4⟩,-⟩:=cells5 hbe
   obtain⟨⟨r0,r1,r2,r3,r4⟩,f0,f1,f2,f3,f4⟩:=cells5 (Z1.out.below' WX.out)
   have WW:=Lib.hid (Z0g W1.out (Nat.le_refl _) WX.out)
   clear hE hbe hlt
   go_wp2
   refine bodyPost_ret (v:=.agg y.v) ?_ rfl ⟨rfl,Z08 WW.out (Nat.le_refl _) _ _ _ _ _⟩
   simp[results,Tryz.results88,go_sem,E5.v,r0,r1,r2,r3,r4]
theorem len16{x:Nat}(h:x < pp):(dg x).length≤16:=by
 have:=Z0y (Nat.le_of_lt h)
 rw[Z69] at this
 exact this
theorem Zpd(l:List Nat)(k:Nat)(h:∀x∈l,x < 256):le l / 256 ^ k%256=l.getD k 0:=by
 have h1:=Z3p l k
 have h2:=Z51 l k h
 have e:le l / 256 ^ k=le (l.drop k):=by
  rw[h1,Nat.add_mul_div_left _ _ (Nat.pow_pos (by decide)),Nat.div_eq_of_lt h2,Nat.zero_add]
 rw[e,List.getD_eq_getElem?_getD]
 cases hk:l[k]? with
 |none=>rw[List.drop_of_length_le (by exact List.getElem?_eq_none_iff.1 hk)];rfl
 |some x =>
  obtain⟨hlt,he⟩:=List.getElem?_eq_some_iff.1 hk
  rw[List.drop_eq_getElem_cons hlt,he,Z1i]
  have:=h x (List.mem_of_getElem? hk)
  simp;omega
theorem le_bit(l:List Nat)(i:Nat)(h:∀x∈l,x < 256):l.getD (i / 8) 0 / 2 ^ (i%8)%2=le l / 2 ^ i%2:=by
 rw[←Zpd l (i / 8) h,Zbr]
theorem Zpe(l:List Nat)(h:∀x∈l,x < 256):le l / 2 ^ (8*l.length)=0:=by
 have:=Zco l h
 rw[show(256:Nat)=2 ^ 8 from rfl,←Nat.pow_mul] at this
 exact Nat.div_eq_of_lt this
theorem Zly(a E p:Nat)(h:E / 2 ^ p%2=0):(a ^ (E / 2 ^ (p+1))%pp)*(a ^ (E / 2 ^ (p+1))%pp)%pp=a ^ (E / 2 ^ p)%pp:=by
 rw[←Nat.mul_mod,←Nat.pow_add]
 congr 2
 rw[Nat.pow_succ,←Nat.div_div_eq_div_mul];omega
theorem Zi4(a E p:Nat)(h:E / 2 ^ p%2=1):((a ^ (E / 2 ^ (p+1))%pp)*(a ^ (E / 2 ^ (p+1))%pp)%pp)*a%pp=a ^ (E / 2 ^ p)%pp:=by
 rw[←Nat.mul_mod,←Nat.pow_add,Nat.mod_mul_mod,←Nat.pow_succ]
 congr 2
 rw[Nat.pow_succ,←Nat.div_div_eq_div_mul];omega
def Zk4(a E m:Nat)(w0:World)(o i:Value)(wr:World):Prop :=
 ∃(j k c:Nat) (A:Option Addr),j≤8*m∧i=.int .i64 ((j:Int) - 1)∧o=.slice A k c∧Sl wr A k (nl (dg (a ^ (E / 2 ^ j)%pp)))∧k≤c∧Below w0.heap.size w0 wr
theorem Z6f (A B : Option Addr) (n m c d : Nat) (a : Nat) (e : List Nat) (w : World) (hn : n ≤ 16) (hm : m ≤ 1000) (he : ∀ x ∈ e, x < 256) (ha : Sl w A n (nl (dg a))) (hb : Sl w B m (bl e)) :
    Calls Tryz.prog 115 #[.slice A n c, .slice B m d] w (RetN (a ^ le e % pp) w) := by
  obtain ⟨E, hE⟩ : ∃ E, E = le e := ⟨_, rfl⟩
  rw [← hE]
  have HE := Lib.hid hE
  have HA := Lib.hid ha
  have HB := Lib.hid hb
  have HX := Lib.hid he
  have HN := Lib.hid (show e.length = m by simpa [bl] using hb.1)
  obtain ⟨M, hM⟩ : ∃ M, M = 8 * m := ⟨_, rfl⟩
  have eM : (8 : Int) * (m : Int) = (M : Int) := by omega
  have R0 := Lib.hid (show Zk4 a E m w (.slice (some ⟨w.heap.size, 0, none⟩) 1 1) (.int .i64 ((M : Int) - 1)) (w.alloc (.cells #[.int .u64 1] 24)) from
    ⟨M, 1, 1, _, by omega, rfl, rfl, by
      have h0 : E / 2 ^ M = 0 := by rw [hE, hM, ← HN.out]; exact Zpe e he
      have h1 : dg (a ^ (E / 2 ^ M) % pp) = [1] := by
        rw [h0, Nat.pow_zero, Nat.mod_eq_of_lt Z19]
        exact Zcp [1] (by unfold Dg; decide) (by unfold Tr; decide)
      rw [h1]
      exact Z32 (Bl.new_ w 24 (nl [1]).toArray) rfl, Nat.le_refl _, (Below.refl _ _).alloc (Nat.le_refl _) _⟩)
  have hMb : M ≤ 8000 := by omega
  have HM := Lib.hid hM
  clear ha hb he hE hM
  go_enter Tryz.func115, Tryz.ntmps115
  go_wp2_with fail
  go_loopw [5, 6] (fun o i wr => Zk4 a E m w o i wr) (fun _ i _ => (intOf i + 1).toNat)
  case atStart => exact R0.out
  case round =>
    clear R0 eM
    obtain ⟨wq, rfl⟩ : ∃ wq : World, wq = wr := ⟨_, rfl⟩
    obtain ⟨j, k, c', A', hj, rfl, rfl, hsl, hkc, hbw⟩ := hrel
    have S0 := Lib.hid hsl
    have W0 := Lib.hid hbw
    have K0 := Lib.hid (show k ≤ 16 by rw [← Z09 hsl]; exact len16 (mod_lt _))
    clear hsl hbw
    rcases j with _ | p
    · have S1 := Lib.hid (show Sl wq A' k (nl (dg (a ^ E % pp))) by
        have := S0.out
        rwa [Nat.pow_zero, Nat.div_one] at this)
      go_wp2_with fail
      go_ret
      exact ⟨A', k, c', rfl, S1.out, hkc, W0.out⟩
    · have ep : (((p + 1 : Nat) : Int) - 1) = (p : Int) := by omega
      rw [ep]
      clear ep
      have p0 : (0 : Int) ≤ (p : Int) := by omega
      obtain ⟨Y, hY⟩ : ∃ Y, Y = a ^ (E / 2 ^ (p + 1)) % pp := ⟨_, rfl⟩
      rw [← hY] at S0
      have MM := Lib.hid (Z2d A' A' k k c' c' Y Y wq K0.out K0.out S0.out S0.out)
      go_wp2_with fail
      (with_reducible refine MM.out.mono ?_)
      rintro en w1 ⟨A1, k1, c1, rfl, h11, h12, h13⟩
      have T1 := Lib.hid h11
      have W1 := Lib.hid (Z0g W0.out (Nat.le_refl _) h13)
      have K1 := Lib.hid (show k1 ≤ 16 by rw [← Z09 h11]; exact len16 (mod_lt _))
      have HY := Lib.hid hY
      obtain ⟨q, hq⟩ : ∃ q, q = p / 8 := ⟨_, rfl⟩
      obtain ⟨u, hu⟩ : ∃ u, u = p % 8 := ⟨_, rfl⟩
      have e1 : (p : Int) / 8 = (q : Int) := by omega
      have e2 : (p : Int) % 8 = (u : Int) := by omega
      have qm : q < m := by omega
      have qmI : (q : Int) < (m : Int) := by omega
      have u64 : (u : Int) < 64 := by omega
      have eu : IntKind.u64.wrap (u : Int) = (u : Int) := by rw [IntKind.wrap_u64]; omega
      obtain ⟨bd, rfl, -⟩ := (HB.out.below W1.out).at_ qm
      obtain ⟨x, hx⟩ : ∃ x, x = e.getD q 0 := ⟨_, rfl⟩
      have cb := sl_byte (HB.out.below W1.out) qm
      rw [← hx] at cb
      obtain ⟨y, hy⟩ : ∃ y, y = x / 2 ^ u := ⟨_, rfl⟩
      have ey : (x : Int) / 2 ^ u = (y : Int) := by rw [hy]; simp
      obtain ⟨b, hb⟩ : ∃ b, b = y % 2 := ⟨_, rfl⟩
      have ed : (y : Int) % 2 = (b : Int) := by omega
      have HBIT := Lib.hid (show E / 2 ^ p % 2 = b by rw [hb, hy, hx, hq, hu, HE.out]; exact (le_bit e p HX.out).symm)
      have hb01 : b = 0 ∨ b = 1 := by omega
      clear h11 h13 hY hq hu hx hy hb MM
      rcases hb01 with rfl | rfl
      · have HV := Lib.hid (show Y * Y % pp = a ^ (E / 2 ^ p) % pp by rw [HY.out]; exact Zly a E p HBIT.out)
        go_wp2_with fail
        go_roundw
        case rel => exact ⟨p, k1, c1, A1, by omega, rfl, rfl, by rw [← HV.out]; exact T1.out, h12, W1.out⟩
        case measure => simp [intOf] <;> omega
      · have HV := Lib.hid (show Y * Y % pp * a % pp = a ^ (E / 2 ^ p) % pp by rw [HY.out]; exact Zi4 a E p HBIT.out)
        have M2 := Lib.hid (Z2d A1 A k1 n c1 c (Y * Y % pp) a w1 K1.out hn T1.out (HA.out.below W1.out))
        go_wp2_with fail
        (with_reducible refine M2.out.mono ?_)
        rintro en w2 ⟨A2, k2, c2, rfl, h21, h22, h23⟩
        have T2 := Lib.hid h21
        have W2 := Lib.hid (Z0g W1.out (Nat.le_refl _) h23)
        clear h21 h23 M2 e1 e2 eu ey ed cb
        go_wp2_with fail
        go_roundw
        case rel => exact ⟨p, k2, c2, A2, by omega, rfl, rfl, by rw [← HV.out]; exact T2.out, h22, W2.out⟩
        case measure => simp [intOf] <;> omega
theorem Zby(A:Option Addr)(n c:Nat)(a:Nat)(w:World)(hn:n≤16)(ha:Sl w A n (nl (dg a))) :
  Calls Tryz.prog 100 #[.slice A n c] w (RetN (a ^ (pp - 2)%pp) w):=by
 have HA:=Lib.hid ha
 clear ha
 go_enter Tryz.func100,Tryz.ntmps100
 go_wp2_with fail
 (with_reducible refine(Zai w).mono ?_)
 rintro e w1 ⟨A1,k1,c1,rfl,h11,h12,h13⟩
 have K1:=Lib.hid (show k1=16 by rw[←Z09 h11,Z69];rfl)
 have W1:=Lib.hid h13
 have A2:=(Below.refl w1.heap.size w1).alloc (Nat.le_refl _) (.cells #[.int .u64 2] 24)
 have T1:=Lib.hid (h11.below A2)
 have S2:=Lib.hid (show Sl (w1.alloc (.cells #[.int .u64 2] 24)) (some ⟨w1.heap.size,0,none⟩) 1 (nl [2]) from Z32 (Bl.new_ w1 24 (nl [2]).toArray) rfl)
 have W2:=Lib.hid (Z0g W1.out (Nat.le_refl _) A2)
 have MM:=Z2n A1 _ k1 1 c1 1 (dg pp) [2] _ (by have:=K1.out;omega) (by have:=K1.out;omega) (Z0o _) (by unfold Dg;decide) (by rw[Z0l];exact pp_2) T1.out S2.out
 rw[Z0l,show vl [2]=2 from rfl] at MM
 have MM:=Lib.hid MM
 clear h11 h13 A2 S2
 go_wp2_with fail
 (with_reducible refine MM.out.mono ?_)
 rintro e w3 ⟨A3,k3,c3,rfl,h31,h32,h33⟩
 have W3:=Lib.hid (W2.out.trans (h33.mono W2.out.size))
 have K3:=Lib.hid (show k3≤16 by rw[←Z09 h31];exact len16 (Nat.sub_lt Z1y (by decide)))
 have BB:=Z2o A3 k3 c3 32 (dg (pp - 2)) w3 (by have:=K3.out;omega) (by decide) (Z0o _) h31
 rw[Z0l] at BB
 have BB:=Lib.hid (show Calls Tryz.prog 39 #[.slice A3 k3 c3,.int .i64 32] w3 (RetY (by_ (pp - 2) 32) w3) from BB)
 clear h31 h33 MM
 go_wp2_with fail
 (with_reducible refine BB.out.mono ?_)
 rintro e w4 ⟨g4,rfl,h41,h42,h43⟩
 rw[by_length] at *
 have W4:=Lib.hid (Z0g W3.out (Nat.le_refl _) h43)
 have PP:=Z6f A _ n 32 c 32 a (by_ (pp - 2) 32) w4 hn (by decide) (Z60 _ _) (HA.out.below W4.out) (Zlw h42 (by_length _ _))
 rw[Zeb,Nat.mod_eq_of_lt (show pp - 2 < 256 ^ 32 by rw[Z1b];decide)] at PP
 have PP:=Lib.hid PP
 clear h41 h42 h43 BB
 go_wp2_with fail
 (with_reducible refine PP.out.mono ?_)
 intro e w5 h5
 have R5:=Lib.hid (h5.of rfl W4.out)
 clear h5
 obtain⟨A6,k6,c6,rfl,h3,h4,h5⟩:=R5.out
 have R7:=Lib.hid (show RetN (a ^ (pp - 2)%pp) w (.returned (.slice A6 k6 c6)) w5 from R5.out)
 clear R5 h3 h4 h5
 go_wp2
 go_ret
 exact R7.out
end Go.Proofs.YtjimhjfjfpeojaaGreatDoor.Fd
