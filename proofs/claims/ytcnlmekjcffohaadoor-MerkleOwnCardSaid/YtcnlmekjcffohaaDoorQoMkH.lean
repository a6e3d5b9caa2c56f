/- Joined texts. -/
import Derived.Test.YtcnlmekjcffohaaDoorQoMkG
set_option linter.unusedVariables false
namespace Go.Proofs.YtcnlmekjcffohaaDoor.Mk
open Go.RowKit Go.Proofs.YtcnlmekjcffohaaDoor.Gn Go.Proofs.YtcnlmekjcffohaaDoor.Fd Go.Deep
def MissAt(l:List Nat)(n m:Nat):Prop:=m≤n∧(∀j,j < m→dig l j=true)∧(m < n→dig l m=false)
def MsRel(l:List Nat)(n:Nat)(w:World)(i:Value)(wr:World):Prop :=
 ∃k,k≤n∧i=.int .i64 (k:Int)∧(∀j,j < k→dig l j=true)∧Below w.heap.size w wr
def MissR(l:List Nat)(n:Nat)(e:Ending):Bool→Prop
 |true=>∃m,e=.returned (.int .i64 ((m:Nat):Int))∧MissAt l n m
 |false=>e=.returned (.int .i64 (-1))
def MissQ(l:List Nat)(n:Nat)(w:World)(e:Ending)(w':World):Prop:=MissR l n e (rightB l n)∧Below w.heap.size w w'
set_option maxRecDepth 100000 in
set_option maxHeartbeats 2000000 in
theorem Missing_any{A:Option Addr}{n c:Nat}{l:List Nat}{w:World}(h:Pc w (A,l.length,c,l))(hn:n≤4096)(hl:l.length≤100000) :
  Calls Tryd.prog 30 #[.slice A l.length c,.int .i64 (n:Int)] w (MissQ l n w):=by
 have C:=Right_any h hn hl
 unfold MissQ
 rcases hr:rightB l n with _|_
 ·rw[hr] at C
  have C:=Lib.hid C
  obtain⟨L,hL⟩:∃L,l.length=L:=⟨_,rfl⟩
  rw[hL] at C ⊢
  clear hL hr hl h
  go_enter Tryd.func30,Tryd.ntmps30
  go_wp2_with (go_at_call 56;(with_reducible refine C.out.mono ?_);rintro e w1 ⟨rfl,b1⟩;have D1:=Lib.hid b1;clear b1)
  go_ret
  exact⟨rfl,D1.out⟩
 ·have hlen:=right_len hr
  rw[hr] at C
  have C:=Lib.hid C
  have MK:=Lib.hid (fun(p:Nat) (hp:p < n) (wr:World) (hb:Below w.heap.size w wr)=>marked_any (h.below hb) p (by omega) hl)
  obtain⟨L,hL⟩:∃L,l.length=L:=⟨_,rfl⟩
  rw[hL] at C MK ⊢
  clear hL hr hl h hlen
  go_enter Tryd.func30,Tryd.ntmps30
  go_wp2_with (go_at_call 56;(with_reducible refine C.out.mono ?_);rintro e w1 ⟨rfl,b1⟩;have R0:=Lib.hid (show MsRel l n w (.int .i64 0) w1 from⟨0,Nat.zero_le _,rfl,fun j hj=>by omega,b1⟩);clear b1 C)
  go_loopw [11] (fun i wr=>MsRel l n w i wr) (fun i _=>n - (intOf i).toNat)
  case atStart=>exact R0.out
  case round =>
   obtain⟨k,hk,rfl,hc,hb⟩:=hrel
   by_cases hlt:k < n
   ·have C:=MK.out k hlt _ hb
    rcases hd:dig l k with _|_
    ·rw[hd] at C
     have C:=Lib.hid C
     have HB:=Lib.hid hb
     have NX:=Lib.hid (show MissAt l n k from⟨hk,hc,fun _=>hd⟩)
     clear hb hc hd
     go_wp2_with (go_at_call 57;(with_reducible refine C.out.mono ?_);rintro e w2 ⟨rfl,b1⟩;have D1:=Lib.hid (HB.out.trans (b1.mono HB.out.size));clear b1)
     go_ret
     exact⟨⟨k,rfl,NX.out⟩,D1.out⟩
    ·rw[hd] at C
     have C:=Lib.hid C
     have HB:=Lib.hid hb
     have NX:=Lib.hid (show ∀j,j < k+1→dig l j=true from fun j hj=>by
      rcases Nat.lt_or_ge j k with h1|h1
      ·exact hc j h1
      ·obtain rfl:j=k:=by omega
       exact hd)
     clear hb hc hd
     go_wp2_with (go_at_call 57;(with_reducible refine C.out.mono ?_);rintro e w2 ⟨rfl,b1⟩;have D1:=Lib.hid (HB.out.trans (b1.mono HB.out.size));clear b1)
     refine⟨⟨k+1,by omega,by go_num,NX.out,D1.out⟩,by simp[intOf];omega⟩
   ·obtain rfl:k=n:=by omega
    have HB:=Lib.hid hb
    have NX:=Lib.hid (show MissAt l k k from⟨hk,hc,fun h=>by omega⟩)
    clear hb hc
    go_wp2_with fail
    go_ret
    exact⟨⟨k,rfl,NX.out⟩,HB.out⟩
end Go.Proofs.YtcnlmekjcffohaaDoor.Mk
