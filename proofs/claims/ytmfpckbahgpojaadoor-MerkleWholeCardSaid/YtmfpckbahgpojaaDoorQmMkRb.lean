/- Joined texts. -/
import Derived.Test.YtmfpckbahgpojaaDoorQmMkRa
import Derived.Test.YtmfpckbahgpojaaDoorQmMkR
set_option linter.unusedVariables false
namespace Go.Proofs.YtmfpckbahgpojaaDoor.Mk
open Go.RowKit Go.Proofs.YtmfpckbahgpojaaDoor.Gn Go.Proofs.YtmfpckbahgpojaaDoor.Fd Go.Deep
set_option maxRecDepth 100000 in
theorem RHas_arg(n:Int)(hn:n < 0∨4096 < n)(A:Option Addr)(m c:Nat)(hm:m≤100000)(p:Int)(w:World) :
  Calls Tryd.prog 21 #[.slice A m c,.int .i64 n,.int .i64 p] w fun e w'=>e=.returned (.bool false)∧Qt w w':=by
 have C:=Lib.hid (fun w=>RRight_arg n hn A m c hm w)
 clear hn
 by_cases h0:0 < m
 ·have t0:decide (0 < (m:Int))=true:=decide_eq_true (by omega)
  go_enter Tryd.func21,Tryd.ntmps21
  go_wp2_with (go_at_call 16;(with_reducible refine(C.out _).mono ?_);rintro e w1 ⟨rfl,q1⟩;have Q1:=Lib.hid q1;clear q1)
  go_ret
  exact⟨rfl,Q1.out⟩
 ·have t0:decide (0 < (m:Int))=false:=decide_eq_false (by omega)
  go_enter Tryd.func21,Tryd.ntmps21
  go_wp2_with fail
  go_ret
  exact⟨rfl,Qt.refl _⟩
theorem hasB_zero{l:List Nat}{n:Nat}{p:Int}(h:l.length=0):hasB l n p=false:=by
 unfold hasB holdsB
 rcases hr:rightB l n with _|_
 ·rfl
 ·have:=right_len hr
  rw[h] at this
  have:n=0:=by omega
  subst this
  by_cases hp:0≤p
  ·rw[show decide (p < ((0:Nat):Int))=false from decide_eq_false (by omega)];simp
  ·rw[show decide (0≤p)=false from decide_eq_false hp];rfl
set_option maxRecDepth 100000 in
set_option maxHeartbeats 2000000 in
theorem RHas_any{A:Option Addr}{n c:Nat}{l:List Nat}{w:World}(h:Pc w (A,l.length,c,l))(hn:n≤4096)(hl:l.length≤100000)(p:Int) :
  Calls Tryd.prog 21 #[.slice A l.length c,.int .i64 (n:Int),.int .i64 p] w fun e w'=>e=.returned (.bool (hasB l n p))∧Qt w w':=by
 have C:=RRight_any h hn hl
 obtain⟨L,hL⟩:∃L,l.length=L:=⟨_,rfl⟩
 by_cases h0:0 < L
 ·have t0:decide (0 < (L:Int))=true:=decide_eq_true (by omega)
  rcases hr:rightB l n with _|_
  ·have NX:hasB l n p=false:=by unfold hasB holdsB;rw[hr];rfl
   rw[NX]
   rw[hr,hL] at C
   rw[hL]
   have C:=Lib.hid C
   clear hr NX h hL
   go_enter Tryd.func21,Tryd.ntmps21
   go_wp2_with (go_at_call 16;(with_reducible refine C.out.mono ?_);rintro e w1 ⟨rfl,q1⟩;have Q1:=Lib.hid q1;clear q1)
   go_ret
   exact⟨rfl,Q1.out⟩
  ·have hlen:=right_len hr
   by_cases h1:0≤p
   ·by_cases h2:p < (n:Int)
    ·obtain⟨k,rfl⟩:∃k:Nat,p=(k:Int):=⟨p.toNat,by omega⟩
     have NX:hasB l n (k:Int)=dig l k:=by unfold hasB holdsB;rw[hr,decide_eq_true h1,decide_eq_true h2,Int.toNat_natCast];rfl
     rw[NX]
     obtain⟨q,hq⟩:∃q,k / 8=q:=⟨_,rfl⟩
     obtain⟨r,hr8⟩:∃r,k%8=r:=⟨_,rfl⟩
     obtain⟨x,hx⟩:∃x,l.getD q 0=x:=⟨_,rfl⟩
     have hqn:q < L:=by omega
     have hrow:Sl w A L (bl l):=by have:=h.row;rwa [show((A,l.length,c,l):Rw).2.2.2.length=L from hL] at this
     obtain⟨ad,rfl,hcell⟩:=hrow.at_ hqn
     have hg:l[q]?=some x:=by rw[←hx,List.getD_eq_getElem?_getD,List.getElem?_eq_getElem (by rw[hL];exact hqn)];rfl
     have hx8:x < 256:=h.lt x (List.mem_of_getElem? hg)
     have hcc:w.cell? (ad.add q)=some (.int .u8 (x:Int)):=by rw[hcell,bl_get,hg];rfl
     have e1:(k:Int) / 8=(q:Int):=by omega
     have e2:(k:Int)%8=(r:Int):=by omega
     have ew:IntKind.i64.wrap (q:Int)=(q:Int):=_root_.Go.IntWalk.i64_in _ (by omega)
     have ew2:IntKind.u64.wrap (r:Int)=(r:Int):=by rw[IntKind.wrap_u64];omega
     have hr9:r≤8:=by omega
     have EQ:=dig_shr hq hr8 hx
     rw[hr,hL] at C
     rw[hL]
     have HD:=Lib.hid (fun w1 (q1:Qt w w1)=>(q1.below.cell (cell_lt hcc)).trans hcc)
     have HG:=Lib.hid EQ
     have C:=Lib.hid C
     have t1:decide ((0:Int)≤(k:Int))=true:=decide_eq_true h1
     have t2:decide (k < n)=true:=decide_eq_true (by omega)
     have hkn:k < n:=by omega
     clear hr NX h hL hcell hg hx hq hr8 hrow EQ hcc h1 h2 hlen
     go_enter Tryd.func21,Tryd.ntmps21
     go_wp2_with (go_at_call 16;(with_reducible refine C.out.mono ?_);rintro e w1 ⟨rfl,q1⟩;have Q1:=Lib.hid q1;have hcc:=HD.out w1 q1;clear q1)
     go_ret
     exact⟨by rw[←HG.out];rfl,Q1.out⟩
    ·have t2:decide (p < (n:Int))=false:=decide_eq_false h2
     have NX:hasB l n p=false:=by unfold hasB holdsB;rw[hr,t2];simp
     rw[NX]
     rw[hr,hL] at C
     rw[hL]
     have C:=Lib.hid C
     clear hr NX h hL hlen
     go_enter Tryd.func21,Tryd.ntmps21
     go_wp2_with (go_at_call 16;(with_reducible refine C.out.mono ?_);rintro e w1 ⟨rfl,q1⟩;have Q1:=Lib.hid q1;clear q1)
     go_ret
     exact⟨rfl,Q1.out⟩
   ·have t2:decide (0≤p)=false:=decide_eq_false h1
    have NX:hasB l n p=false:=by unfold hasB holdsB;rw[hr,t2];rfl
    rw[NX]
    rw[hr,hL] at C
    rw[hL]
    have C:=Lib.hid C
    clear hr NX h hL hlen
    go_enter Tryd.func21,Tryd.ntmps21
    go_wp2_with (go_at_call 16;(with_reducible refine C.out.mono ?_);rintro e w1 ⟨rfl,q1⟩;have Q1:=Lib.hid q1;clear q1)
    go_ret
    exact⟨rfl,Q1.out⟩
 ·have t0:decide (0 < (L:Int))=false:=decide_eq_false (by omega)
  rw[hasB_zero (by omega),hL]
  clear h hL C
  go_enter Tryd.func21,Tryd.ntmps21
  go_wp2_with fail
  go_ret
  exact⟨rfl,Qt.refl _⟩
set_option maxRecDepth 100000 in
theorem RMissing_arg(n:Int)(hn:n < 0∨4096 < n)(A:Option Addr)(m c:Nat)(hm:m≤100000)(w:World) :
  Calls Tryd.prog 17 #[.slice A m c,.int .i64 n] w fun e w'=>e=.returned (.int .i64 (-1))∧Qt w w':=by
 have C:=Lib.hid (RRight_arg n hn A m c hm w)
 clear hn
 go_enter Tryd.func17,Tryd.ntmps17
 go_wp2_with (go_at_call 16;(with_reducible refine C.out.mono ?_);rintro e w1 ⟨rfl,q1⟩;have Q1:=Lib.hid q1;clear q1)
 go_ret
 exact⟨rfl,Q1.out⟩
def MqRel(l:List Nat)(n:Nat)(w:World)(i:Value)(wr:World):Prop :=
 ∃k,k≤n∧i=.int .i64 (k:Int)∧(∀j,j < k→dig l j=true)∧Qt w wr
def MissQt(l:List Nat)(n:Nat)(w:World)(e:Ending)(w':World):Prop:=MissR l n e (rightB l n)∧Qt w w'
theorem hasB_dig{l:List Nat}{n k:Nat}(hr:rightB l n=true)(hk:k < n):hasB l n (k:Int)=dig l k:=by
 unfold hasB holdsB
 rw[hr,decide_eq_true (by omega:(0:Int)≤(k:Int)),decide_eq_true (by omega:(k:Int) < (n:Int)),Int.toNat_natCast];rfl
set_option maxRecDepth 100000 in
set_option maxHeartbeats 2000000 in
theorem RMissing_any{A:Option Addr}{n c:Nat}{l:List Nat}{w:World}(h:Pc w (A,l.length,c,l))(hn:n≤4096)(hl:l.length≤100000) :
  Calls Tryd.prog 17 #[.slice A l.length c,.int .i64 (n:Int)] w (MissQt l n w):=by
 have C:=RRight_any h hn hl
 unfold MissQt
 rcases hr:rightB l n with _|_
 ·rw[hr] at C
  have C:=Lib.hid C
  obtain⟨L,hL⟩:∃L,l.length=L:=⟨_,rfl⟩
  rw[hL] at C ⊢
  clear hL hr hl h
  go_enter Tryd.func17,Tryd.ntmps17
  go_wp2_with (go_at_call 16;(with_reducible refine C.out.mono ?_);rintro e w1 ⟨rfl,q1⟩;have Q1:=Lib.hid q1;clear q1)
  go_ret
  exact⟨rfl,Q1.out⟩
 ·have HS:=Lib.hid (fun(p:Nat) (hp:p < n) (wr:World) (hb:Qt w wr)=>RHas_any (h.below hb.below) hn hl (p:Int))
  have HD:=Lib.hid (fun(p:Nat) (hp:p < n)=>hasB_dig hr hp)
  rw[hr] at C
  have C:=Lib.hid C
  obtain⟨L,hL⟩:∃L,l.length=L:=⟨_,rfl⟩
  rw[hL] at C HS ⊢
  clear hL hr hl h
  go_enter Tryd.func17,Tryd.ntmps17
  go_wp2_with (go_at_call 16;(with_reducible refine C.out.mono ?_);rintro e w1 ⟨rfl,q1⟩;have R0:=Lib.hid (show MqRel l n w (.int .i64 0) w1 from⟨0,Nat.zero_le _,rfl,fun j hj=>by omega,q1⟩);clear q1 C)
  go_loopw [5] (fun i wr=>MqRel l n w i wr) (fun i _=>n - (intOf i).toNat)
  case atStart=>exact R0.out
  case round =>
   obtain⟨k,hk,rfl,hc,hb⟩:=hrel
   by_cases hlt:k < n
   ·have C:=HS.out k hlt _ hb
    rw[HD.out k hlt] at C
    rcases hd:dig l k with _|_
    ·rw[hd] at C
     have C:=Lib.hid C
     have HB:=Lib.hid hb
     have NX:=Lib.hid (show MissAt l n k from⟨hk,hc,fun _=>hd⟩)
     clear hb hc hd
     go_wp2_with (go_at_call 21;(with_reducible refine C.out.mono ?_);rintro e w2 ⟨rfl,b1⟩;have D1:=Lib.hid (HB.out.trans b1);clear b1)
     go_ret
     exact⟨⟨k,rfl,NX.out⟩,D1.out⟩
    ·rw[hd] at C
     have C:=Lib.hid C
     have HB:=Lib.hid hb
     have NX:=Lib.hid (show ∀j,j < k+1→dig l j=true from fun j hj=>by
      rcases Nat.lt_or_ge j k with h1|h1
      ·exact hc j h1
      ·obtain rfl:j=k:=by omega
       exact hd)
     clear hb hc hd
     go_wp2_with (go_at_call 21;(with_reducible refine C.out.mono ?_);rintro e w2 ⟨rfl,b1⟩;have D1:=Lib.hid (HB.out.trans b1);clear b1)
     refine⟨⟨k+1,by omega,by go_num,NX.out,D1.out⟩,by simp[intOf];omega⟩
   ·obtain rfl:k=n:=by omega
    have HB:=Lib.hid hb
    have NX:=Lib.hid (show MissAt l k k from⟨hk,hc,fun h=>by omega⟩)
    clear hb hc
    go_wp2_with fail
    go_ret
    exact⟨⟨k,rfl,NX.out⟩,HB.out⟩
end Go.Proofs.YtmfpckbahgpojaaDoor.Mk
