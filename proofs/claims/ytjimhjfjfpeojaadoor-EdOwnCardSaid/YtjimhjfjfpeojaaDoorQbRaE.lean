/- Joined texts. -/
import Derived.Laws.CopyOwn
import Derived.Deep.Cut
import Derived.StillTailTactics
import Derived.Test.YtjimhjfjfpeojaaDoorQbRaA
import Derived.Test.YtjimhjfjfpeojaaDoorQbFaA
set_option linter.unusedVariables false
namespace Go.Proofs.YtjimhjfjfpeojaaDoor.Fd
open Go.RowKit Go.Proofs.YtjimhjfjfpeojaaDoor.Gn Go.Deep
theorem infou8:(Tryd.prog.info? 5).map (fun i=>(i.zero,i.size,i.bytes))=some (some (.int .u8 0),1,8 / 8):=by kernel_rfl
theorem made_bl(n:Nat):madeCells #[.int .u8 0] n=(bl (List.replicate n 0)).toArray:=by
 apply Array.ext'
 rw[toList_madeCells_one]
 simp[bl]
theorem make8(n:Nat)(h:n≤4096)(w:World):(Instr.makeSlice 22 (.int .i64 (n:Int)) (.int .i64 (n:Int))).run Tryd.prog w=.ok (.slice (some ⟨w.heap.size,0,none⟩) n n) (w.alloc (.cells (bl (List.replicate n 0)).toArray 5)):=by
 have:=run_make_row' (P:=Tryd.prog) 22 5 (.int .u8 0) 1 Tryd.underlying22 infou8 rfl .i64 .i64 n (by omega) (by omega) w
 rw[made_bl] at this
 exact this
theorem blu_set(l:List Nat)(k x:Nat):(bl l).toArray.setIfInBounds k (.int .u8 (x:Int))=(bl (l.set k x)).toArray:=by simp[bl,List.setIfInBounds_toArray,List.map_set]
theorem bl_cell{w:World}{g:Nat}{t:TypeId}{l:List Nat}(h:Bl w g t (bl l).toArray){k:Nat}(hk:k < l.length):w.cell? ⟨g,k,none⟩=some (.int .u8 ((l.getD k 0:Nat):Int)):=by
 refine h.cell_ ?_
 rw[List.getElem?_toArray,bl_get,List.getElem?_eq_getElem hk]
 simp[List.getD_eq_getElem?_getD,List.getElem?_eq_getElem hk]
def RetY(l:List Nat)(w:World)(e:Ending)(w':World):Prop:=∃g,e=.returned (.slice (some ⟨g,0,none⟩) l.length l.length)∧w.heap.size≤g∧Bl w' g 5 (bl l).toArray∧Below w.heap.size w w'
def BtRel(la:List Nat)(n m g:Nat)(w0:World)(i:Value)(wr:World):Prop :=
 ∃k:Nat,k≤n∧i=.int .i64 (k:Int)∧Bl wr g 5 (bl (byk (vl la) m (2*k))).toArray∧Below g w0 wr
set_option maxHeartbeats 2000000 in
theorem Bytes_any(A:Option Addr)(n c m:Nat)(la:List Nat)(w:World)(hn:n≤1000)(hm:m≤1000)(hla:Dg la)(ha:Sl w A n (nl la)) :
  Calls Tryd.prog 10 #[.slice A n c,.int .i64 (m:Int)] w (RetY (by_ (vl la) m) w):=by
 have HA:=Lib.hid ha
 have HLA:=Lib.hid hla
 have HN:=Lib.hid (sl_len ha)
 have hmk:=make8 m (by omega)
 clear ha hla
 go_enter Tryd.func10,Tryd.ntmps10
 go_wp2
 clear hmk
 have B0:=Lib.hid (Bl.new_ w 5 (bl (List.replicate m 0)).toArray)
 have G0:=Lib.hid ((Below.refl w.heap.size w).alloc (Nat.le_refl _) (.cells (bl (List.replicate m 0)).toArray 5))
 obtain⟨g,hg⟩:∃g,g=w.heap.size:=⟨_,rfl⟩
 have HG:=Lib.hid hg
 rw[←hg] at B0 ⊢
 generalize hw0:w.alloc _=w0 at B0 G0 ⊢
 clear hw0 hg
 go_loopw [6] (fun i wr=>BtRel la n m g w0 i wr) (fun i _=>n - (intOf i).toNat)
 case atStart=>exact⟨0,Nat.zero_le _,rfl,by rw[Nat.mul_zero,byk_zero];exact B0.out,Below.refl _ _⟩
 case round =>
  obtain⟨k,hk,rfl,hbl,hgr⟩:=hrel
  have BL:=Lib.hid hbl
  have GR:=Lib.hid hgr
  have GW:=Lib.hid (show Below w.heap.size w wr from G0.out.trans (by have:=HG.out;subst this;exact hgr))
  clear hbl hgr
  by_cases hlt:k < n
  ·obtain⟨ad,rfl,-⟩:=(HA.out.below GW.out).at_ hlt
   obtain⟨x,hx⟩:∃x,x=la.getD k 0:=⟨_,rfl⟩
   have c1:=sl_num (HA.out.below GW.out) hlt
   rw[←hx] at c1
   have hxb:x < 65536:=by rw[hx];exact HLA.out.get k
   obtain⟨p,hp⟩:∃p,p=2*k:=⟨_,rfl⟩
   have ep:(2:Int)*(k:Int)=(p:Int):=by omega
   have pb:p≤2000:=by omega
   obtain⟨p1,hp1⟩:∃p1,p1=p+1:=⟨_,rfl⟩
   have ep1:(p:Int)+1=(p1:Int):=by omega
   obtain⟨r,hr⟩:∃r,r=x%256:=⟨_,rfl⟩
   obtain⟨s,hs⟩:∃s,s=x / 256:=⟨_,rfl⟩
   have e1:(x:Int)%256=(r:Int):=by omega
   have e2:(x:Int) / 256=(s:Int):=by omega
   have e1':IntKind.u8.wrap (r:Int)=(r:Int):=by rw[IntKind.wrap_u8];omega
   have e2':IntKind.u8.wrap (s:Int)=(s:Int):=by rw[IntKind.wrap_u8];omega
   have S1:=Lib.hid (show(byk (vl la) m (2*k)).set p r=byk (vl la) m (2*k+1) by rw[hp];exact byk_set _ _ _ _ (by rw[hr,hx];exact by_even la HLA.out k))
   have S2:=Lib.hid (show(byk (vl la) m (2*k+1)).set p1 s=byk (vl la) m (2*(k+1)) by rw[hp1,hp];exact byk_set _ _ _ _ (by rw[hs,hx];exact by_odd la HLA.out k))
   have HP:=Lib.hid (And.intro hp hp1)
   clear hx hr hs hp hp1
   by_cases h1:p < m
   ·have pm:(p:Int) < (m:Int):=by omega
    have c2:=bl_cell BL.out (show p < (byk (vl la) m (2*k)).length by rw[byk_len];exact h1)
    have f2:=BL.out.frozen p
    have B1:=Lib.hid (show Bl (wr.setCell ⟨g,p,none⟩ (.int .u8 (r:Int))) g 5 (bl (byk (vl la) m (2*k+1))).toArray by rw[←S1.out,←blu_set];exact BL.out.set_ p _)
    have G1:=Lib.hid (show Below g w0 (wr.setCell ⟨g,p,none⟩ (.int .u8 (r:Int))) from GR.out.setCell (p:=⟨g,p,none⟩) (Nat.le_refl _) _)
    have GW1:=Lib.hid (show Below w.heap.size w (wr.setCell ⟨g,p,none⟩ (.int .u8 (r:Int))) from G0.out.trans (by have:=HG.out;subst this;exact G1.out))
    by_cases h2:p1 < m
    ·have pm1:(p1:Int) < (m:Int):=by omega
     have c3:=sl_num (HA.out.below GW1.out) hlt
     rw[show la.getD k 0=x from by
      have h5:=sl_num (HA.out.below GW.out) hlt
      rw[c1] at h5
      have h6:=Option.some.inj h5
      injection h6 with _ h7
      omega] at c3
     have c4:=bl_cell B1.out (show p1 < (byk (vl la) m (2*k+1)).length by rw[byk_len];exact h2)
     have f4:=B1.out.frozen p1
     go_wp2
     go_roundw
     case rel=>exact⟨k+1,by omega,by go_num,by rw[←S2.out,←blu_set];exact B1.out.set_ p1 _,G1.out.setCell (p:=⟨g,p1,none⟩) (Nat.le_refl _) _⟩
     case measure=>simp[intOf];omega
    ·go_wp2
     go_roundw
     case rel=>exact⟨k+1,by omega,by go_num,by rw[show 2*(k+1)=(2*k+1)+1 by omega,byk_skip _ _ _ (by have:=HP.out;omega)];exact B1.out,G1.out⟩
     case measure=>simp[intOf];omega
   ·have h2:¬p1 < m:=by have:=HP.out;omega
    go_wp2
    go_roundw
    case rel=>exact⟨k+1,by omega,by go_num,by rw[show 2*(k+1)=(2*k+1)+1 by omega,byk_skip _ _ _ (by have:=HP.out;omega),byk_skip _ _ _ (by have:=HP.out;omega)];exact BL.out,GR.out⟩
    case measure=>simp[intOf];omega
  ·obtain rfl:k=n:=by omega
   have HE:=Lib.hid (show byk (vl la) m (2*k)=by_ (vl la) m from byk_all _ _ _ (by rw[←HN.out];exact vl_lt256 la HLA.out))
   go_wp2
   go_ret
   exact⟨g,by rw[by_length];rfl,by rw[HG.out];exact Nat.le_refl _,by rw[←HE.out];exact BL.out,GW.out⟩
end Go.Proofs.YtjimhjfjfpeojaaDoor.Fd
namespace Go.Proofs.YtjimhjfjfpeojaaDoor.Fd
open Go.RowKit Go.Proofs.YtjimhjfjfpeojaaDoor.Gn Go.Deep
end Go.Proofs.YtjimhjfjfpeojaaDoor.Fd
namespace Go.Proofs.YtjimhjfjfpeojaaDoor.Fd
open Go.RowKit Go.Proofs.YtjimhjfjfpeojaaDoor.Gn Go.Deep
end Go.Proofs.YtjimhjfjfpeojaaDoor.Fd
