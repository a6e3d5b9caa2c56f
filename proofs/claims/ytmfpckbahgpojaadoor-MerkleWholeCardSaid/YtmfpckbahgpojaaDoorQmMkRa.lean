/- Joined texts. -/
import Derived.Test.YtmfpckbahgpojaaDoorQmMkF
set_option linter.unusedVariables false
namespace Go.Proofs.YtmfpckbahgpojaaDoor.Mk
open Go.RowKit Go.Proofs.YtmfpckbahgpojaaDoor.Gn Go.Proofs.YtmfpckbahgpojaaDoor.Fd Go.Deep
def Qt(w w':World):Prop:=∃m,w'=w.drewN m
theorem Qt.refl(w:World):Qt w w:=⟨0,rfl⟩
theorem Qt.below{w w':World}(h:Qt w w'):Below w.heap.size w w':=by
 obtain⟨m,rfl⟩:=h
 exact below_drewN (Below.refl _ _) m
theorem Qt.more{w w':World}(h:Qt w w')(n:Nat):Qt w (w'.drewN n):=by
 obtain⟨m,rfl⟩:=h
 exact⟨m+n,World.drewN_drewN _ _ _⟩
theorem Qt.trans{w w' w'':World}(h:Qt w w')(k:Qt w' w''):Qt w w'':=by
 obtain⟨m,rfl⟩:=k
 exact h.more m
def RqRel(l:List Nat)(n:Nat)(w:World)(i:Value)(wr:World):Prop :=
 ∃k,n+k≤8*l.length∧i=.int .i64 ((n+k:Nat):Int)∧clr l n k=true∧Qt w wr
set_option maxRecDepth 100000 in
theorem RRight_arg(n:Int)(hn:n < 0∨4096 < n)(A:Option Addr)(m c:Nat)(hm:m≤100000)(w:World) :
  Calls Tryd.prog 16 #[.slice A m c,.int .i64 n] w fun e w'=>e=.returned (.bool false)∧Qt w w':=by
 by_cases h1:n < 0
 ·have t1:decide (n < 0)=true:=decide_eq_true h1
  clear hn
  go_enter Tryd.func16,Tryd.ntmps16
  go_wp2_with fail
  go_ret
  exact⟨rfl,Qt.refl _⟩
 ·have h2:4096 < n:=by omega
  have t1:decide (n < 0)=false:=decide_eq_false h1
  have t2:decide (4096 < n)=true:=decide_eq_true h2
  clear hn
  go_enter Tryd.func16,Tryd.ntmps16
  go_wp2_with fail
  go_ret
  exact⟨rfl,Qt.refl _⟩
theorem dig_shr{l:List Nat}{p q r x:Nat}(hq:p / 8=q)(hr:p%8=r)(hx:l.getD q 0=x):(((x:Int) / 2 ^ r).tmod 2 == 1)=dig l p:=by
 have h0:((x:Int) / 2 ^ r).tmod 2=(x:Int) / 2 ^ r%2:=Int.tmod_eq_emod_of_nonneg (Int.ediv_nonneg (by omega) (by exact_mod_cast Nat.zero_le (2 ^ r)))
 rw[h0]
 unfold dig
 rw[hq,hr,hx,Bool.eq_iff_iff,decide_eq_true_eq,beq_iff_eq]
 constructor
 ·intro h;exact_mod_cast h
 ·intro h;exact_mod_cast h
set_option maxRecDepth 100000 in
set_option maxHeartbeats 2000000 in
theorem RRight_any{A:Option Addr}{n c:Nat}{l:List Nat}{w:World}(h:Pc w (A,l.length,c,l))(hn:n≤4096)(hl:l.length≤100000) :
  Calls Tryd.prog 16 #[.slice A l.length c,.int .i64 (n:Int)] w fun e w'=>e=.returned (.bool (rightB l n))∧Qt w w':=by
 have t1:decide ((n:Int) < 0)=false:=decide_eq_false (by omega)
 have t2:decide ((4096:Int) < (n:Int))=false:=decide_eq_false (by omega)
 obtain⟨L,hL⟩:∃L,l.length=L:=⟨_,rfl⟩
 by_cases hlm:L=(n+7) / 8
 ·have er:rightB l n=clr l n (8*L - n):=by unfold rightB;rw[hL,decide_eq_true hlm];rfl
  have t3:decide ((L:Int)*8 < (n:Int))=false:=decide_eq_false (by omega)
  have t4:decide ((7:Int) < (L:Int)*8 - (n:Int))=false:=decide_eq_false (by omega)
  have hnL:n≤8*L:=by omega
  rw[hL] at h hl
  rw[er,hL]
  have HLE:=Lib.hid hL
  by_cases h0:L=0
  ·have t5:((L:Int) == 0)=true:=by rw[beq_iff_eq];omega
   have NX:=Lib.hid (show clr l n (8*L - n)=true by rw[h0];rw[show 8*0 - n=0 by omega];rfl)
   clear er hL h hlm h0
   go_enter Tryd.func16,Tryd.ntmps16
   go_wp2_with fail
   go_ret
   exact⟨by rw[NX.out];rfl,Qt.refl _⟩
  ·have t5:((L:Int) == 0)=false:=by rw[beq_eq_false_iff_ne];omega
   have HP:=Lib.hid h
   have CE:=Lib.hid (fun(p q r x:Nat) (hq:p / 8=q) (hr:p%8=r) (hx:l.getD q 0=x)=>dig_shr hq hr hx)
   clear er hL h hlm h0
   go_enter Tryd.func16,Tryd.ntmps16
   go_wp2_with fail
   have R0:=Lib.hid (show RqRel l n w (.int .i64 (n:Int)) w from⟨0,by rw[HLE.out];omega,rfl,rfl,Qt.refl _⟩)
   clear t1 t2 t3 t4 t5
   go_loopw [5] (fun i wr=>RqRel l n w i wr) (fun i _=>8*L - (intOf i).toNat)
   case atStart=>exact R0.out
   case round =>
    obtain⟨k,hk,rfl,hc,hb⟩:=hrel
    rw[HLE.out] at hk
    obtain⟨p,hp⟩:∃p,n+k=p:=⟨_,rfl⟩
    rw[hp] at hk ⊢
    by_cases hlt:p < 8*L
    ·have hpw:=HP.out.below hb.below
     obtain⟨q,hq⟩:∃q,p / 8=q:=⟨_,rfl⟩
     obtain⟨r,hr⟩:∃r,p%8=r:=⟨_,rfl⟩
     obtain⟨x,hx⟩:∃x,l.getD q 0=x:=⟨_,rfl⟩
     have hqn:q < L:=by omega
     have hrow:Sl wr A L (bl l):=by have:=hpw.row;rwa [show((A,L,c,l):Rw).2.2.2.length=L from HLE.out] at this
     obtain⟨ad,rfl,hcell⟩:=hrow.at_ hqn
     have hg:l[q]?=some x:=by rw[←hx,List.getD_eq_getElem?_getD,List.getElem?_eq_getElem (by rw[HLE.out];exact hqn)];rfl
     have hx8:x < 256:=hpw.lt x (List.mem_of_getElem? hg)
     have hcc:wr.cell? (ad.add q)=some (.int .u8 (x:Int)):=by rw[hcell,bl_get,hg];rfl
     have e1:(p:Int) / 8=(q:Int):=by omega
     have e2:(p:Int)%8=(r:Int):=by omega
     have ew:IntKind.i64.wrap (q:Int)=(q:Int):=_root_.Go.IntWalk.i64_in _ (by omega)
     have ew2:IntKind.u64.wrap (r:Int)=(r:Int):=by rw[IntKind.wrap_u64];omega
     have hr8:r≤8:=by omega
     have EQ:=CE.out p q r x hq hr hx
     clear hcell hpw hrow hg
     rcases hd:dig l p with _|_
     ·rw[hd] at EQ
      have HB:=Lib.hid hb
      have NX:=Lib.hid (show clr l n (k+1)=true by unfold clr;rw[hc,hp,hd];rfl)
      have HP2:=Lib.hid hp
      clear hb hc hd hp hq hr hx
      go_wp2_with fail
      refine⟨⟨k+1,by rw[HLE.out];have:=HP2.out;omega,by rw[show n+(k+1)=p+1 by have:=HP2.out;omega];go_num,NX.out,HB.out⟩,by simp[intOf];omega⟩
     ·rw[hd] at EQ
      have HB:=Lib.hid hb
      have NX:=Lib.hid (show clr l n (8*L - n)=false from clr_false l n (k:=k) (by omega) (by rw[hp];exact hd))
      clear hb hc hd hp hq hr hx
      go_wp2_with fail
      go_ret
      exact⟨by rw[NX.out];rfl,HB.out⟩
    ·have HB:=Lib.hid hb
     have NX:=Lib.hid (show clr l n (8*L - n)=true by rw[show 8*L - n=k by omega];exact hc)
     clear hb hc hp
     go_wp2_with fail
     go_ret
     exact⟨by rw[NX.out];rfl,HB.out⟩
 ·have er:rightB l n=false:=by unfold rightB;rw[hL,decide_eq_false hlm];rfl
  rw[er,hL]
  rw[hL] at hl
  clear er h
  by_cases h3:L*8 < n
  ·have t3:decide ((L:Int)*8 < (n:Int))=true:=decide_eq_true (by omega)
   clear hL hlm
   go_enter Tryd.func16,Tryd.ntmps16
   go_wp2_with fail
   go_ret
   exact⟨rfl,Qt.refl _⟩
  ·have t3:decide ((L:Int)*8 < (n:Int))=false:=decide_eq_false (by omega)
   have t4:decide ((7:Int) < (L:Int)*8 - (n:Int))=true:=decide_eq_true (by omega)
   clear hL hlm
   go_enter Tryd.func16,Tryd.ntmps16
   go_wp2_with fail
   go_ret
   exact⟨rfl,Qt.refl _⟩
end Go.Proofs.YtmfpckbahgpojaaDoor.Mk
