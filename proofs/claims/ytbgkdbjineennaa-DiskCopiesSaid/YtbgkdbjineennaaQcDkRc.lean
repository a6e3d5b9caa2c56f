/- Joined texts. -/
import Derived.Test.YtbgkdbjineennaaQcDkRb
set_option linter.unusedVariables false
namespace Go.Proofs.Ytbgkdbjineennaa.Dk
open Go.IntWalk Go.RowKit Go.Proofs.Ytbgkdbjineennaa.Gn Go.Proofs.Ytbgkdbjineennaa.Fd Go.Deep
section
variable {w:World} {a0 lo r n:Nat} {S V:Value} {dn:Bool} {st lf:Int} {A:Option Addr} {k c:Nat} {xs:List Value} {hs:List (Nat × Value)} {cb:List Bool}
theorem Rq.turn(h:Rq w a0 lo r n S V dn st lf A k c xs hs cb){w':World}(hG:Gx [r] w w'){dn':Bool}{st' lf':Int}{A':Option Addr}{k' c':Nat}{cb':List Bool}
  (hb:Bl w' r 76 #[S,V,.bool dn',.int .i64 st',.int .i64 lf',.slice A' k' c']) (h1:0≤st'∧st' < 1000000000) (h2 : -1≤lf'∧lf' < 9223372036854775808) (hc:Sl w A' k' (cb'.map Value.bool)) (h9:k'≤4096) (hA:∀ad,A'=some ad→0 < k'→ad.block < a0):Rq w' a0 lo r n S V dn' st' lf' A' k' c' xs hs cb':=by
 obtain⟨b1,b2,b3,b4,b5⟩:=h.beside hG
 exact⟨hb,b1,b2,b3,b4,h1.1,h1.2,h.hl9,h2.1,h2.2,b5 hA hc,h9,hA,h.rlo,h.al,h.n9⟩
theorem Rq.empty(h:Rq w a0 lo r n S V dn st lf A k c xs hs cb){w':World}(hG:Gx [r] w w'){dn':Bool}
  (hb:Bl w' r 76 #[S,.slice none 0 0,.bool dn',.int .i64 st,.int .i64 lf,.slice A k c]):Rq w' a0 lo r n S (.slice none 0 0) dn' st lf A k c xs [] cb:=by
 obtain⟨b1,b2,b3,b4,b5⟩:=h.beside hG
 exact⟨hb,b1,b2,⟨rfl,.inl ⟨rfl,rfl⟩⟩,(fun x hx=>by cases hx),h.st0,h.st9,(by decide),h.lf0,h.lf9,b5 h.cA h.cho,h.k9,h.cA,h.rlo,h.al,h.n9⟩
theorem Rq.fz(h:Rq w a0 lo r n S V dn st lf A k c xs hs cb)(i:Nat):w.frozen? ⟨r,i,none⟩=false:=h.blk.frozen i
theorem Rq.c0(h:Rq w a0 lo r n S V dn st lf A k c xs hs cb):w.cell? ⟨r,0,none⟩=some S:=h.blk.cell_ rfl
theorem Rq.c1(h:Rq w a0 lo r n S V dn st lf A k c xs hs cb):w.cell? ⟨r,1,none⟩=some V:=h.blk.cell_ rfl
theorem Rq.c2(h:Rq w a0 lo r n S V dn st lf A k c xs hs cb):w.cell? ⟨r,2,none⟩=some (.bool dn):=h.blk.cell_ rfl
theorem Rq.c3(h:Rq w a0 lo r n S V dn st lf A k c xs hs cb):w.cell? ⟨r,3,none⟩=some (.int .i64 st):=h.blk.cell_ rfl
theorem Rq.c4(h:Rq w a0 lo r n S V dn st lf A k c xs hs cb):w.cell? ⟨r,4,none⟩=some (.int .i64 lf):=h.blk.cell_ rfl
theorem Rq.c5(h:Rq w a0 lo r n S V dn st lf A k c xs hs cb):w.cell? ⟨r,5,none⟩=some (.slice A k c):=h.blk.cell_ rfl
def thereE(dn:Bool)(n:Nat)(a:Int):Int:=if dn=true then 60 else if a < 0∨(n:Int)≤a then 61 else 0
def spanE(dn:Bool)(n:Nat)(a x:Int):Int:=if dn=true then 60 else if a < 0∨(n:Int) < a∨64*((n:Int) - a) < x then 61 else 0
set_option maxRecDepth 100000 in
theorem there_any(h:Rq w a0 lo r n S V dn st lf A k c xs hs cb)(a:Int):Calls Try.prog 51 #[.pointer (some ⟨r,0,none⟩),.int .i64 a] w fun e w'=>e=.returned (.int .i64 (thereE dn n a))∧w=w':=by
 obtain⟨sA,sc,rfl⟩:=own_len h.row
 have c0:=h.c0
 have c2:=h.c2
 clear h
 unfold thereE
 cases dn with
 |true =>
  rw[if_pos rfl]
  go_enter Try.func51,Try.ntmps51
  go_wp2_with fail
  go_ret
  exact⟨rfl,rfl⟩
 |false =>
  rw[if_neg (by decide)]
  by_cases h1:a < 0
  ·rw[if_pos (.inl h1)]
   go_enter Try.func51,Try.ntmps51
   go_wp2_with fail
   go_ret
   exact⟨rfl,rfl⟩
  ·by_cases h2:(n:Int)≤a
   ·rw[if_pos (.inr h2)]
    go_enter Try.func51,Try.ntmps51
    go_wp2_with fail
    go_ret
    exact⟨rfl,rfl⟩
   ·rw[if_neg (by omega)]
    go_enter Try.func51,Try.ntmps51
    go_wp2_with fail
    go_ret
    exact⟨rfl,rfl⟩
set_option maxRecDepth 100000 in
theorem rspan_any(h:Rq w a0 lo r n S V dn st lf A k c xs hs cb)(a x:Int):Calls Try.prog 53 #[.pointer (some ⟨r,0,none⟩),.int .i64 a,.int .i64 x] w fun e w'=>e=.returned (.int .i64 (spanE dn n a x))∧w=w':=by
 obtain⟨sA,sc,rfl⟩:=own_len h.row
 have c0:=h.c0
 have c2:=h.c2
 have n9:=h.n9
 clear h
 unfold spanE
 cases dn with
 |true =>
  rw[if_pos rfl]
  go_enter Try.func53,Try.ntmps53
  go_wp2_with fail
  go_ret
  exact⟨rfl,rfl⟩
 |false =>
  rw[if_neg (by decide)]
  by_cases h1:a < 0
  ·rw[if_pos (.inl h1)]
   go_enter Try.func53,Try.ntmps53
   go_wp2_with fail
   go_ret
   exact⟨rfl,rfl⟩
  ·by_cases h2:(n:Int) < a
   ·rw[if_pos (.inr (.inl h2))]
    go_enter Try.func53,Try.ntmps53
    go_wp2_with fail
    go_ret
    exact⟨rfl,rfl⟩
   ·by_cases h3:64*((n:Int) - a) < x
    ·rw[if_pos (.inr (.inr h3))]
     go_enter Try.func53,Try.ntmps53
     go_wp2_with fail
     go_ret
     exact⟨rfl,rfl⟩
    ·rw[if_neg (by omega)]
     go_enter Try.func53,Try.ntmps53
     go_wp2_with fail
     go_ret
     exact⟨rfl,rfl⟩
def RstrQ(w:World)(a0 lo r n:Nat)(S V:Value)(dn:Bool)(st:Int)(A:Option Addr)(k c:Nat)(xs:List Value)(hs:List (Nat × Value))(cb:List Bool)(b:Bool)(e:Ending)(w':World):Prop:=∃lf',e=.returned (.bool b)∧Rq w' a0 lo r n S V dn (st+1) lf' A k c xs hs cb∧Gx [r] w w'
set_option maxRecDepth 100000 in
theorem rstroke_any(h:Rq w a0 lo r n S V dn st lf A k c xs hs cb)(hst:st < 999999999)(b:Bool)(hb:b=decide (lf=0)):Calls Try.prog 52 #[.pointer (some ⟨r,0,none⟩)] w (RstrQ w a0 lo r n S V dn st A k c xs hs cb b):=by
 have H:=Lib.hid h
 have c3:=h.c3
 have c4:=h.c4
 have f3:=h.fz 3
 have f4:=h.fz 4
 have s0:=h.st0
 have l0:=h.lf0
 have l9:=h.lf9
 have K1:∀lf',-1≤lf'→lf' < 9223372036854775808→Rq ((w.setCell ⟨r,3,none⟩ (.int .i64 (st+1))).setCell ⟨r,4,none⟩ (.int .i64 lf')) a0 lo r n S V dn (st+1) lf' A k c xs hs cb∧Gx [r] w ((w.setCell ⟨r,3,none⟩ (.int .i64 (st+1))).setCell ⟨r,4,none⟩ (.int .i64 lf')):=fun lf' g1 g2=>by
  have hG:Gx [r] w ((w.setCell ⟨r,3,none⟩ (.int .i64 (st+1))).setCell ⟨r,4,none⟩ (.int .i64 lf')):=((Gx.refl _ _).set (by simp) _).set (by simp) _
  exact⟨h.turn hG ((h.blk.set_ 3 _).set_ 4 _) ⟨by omega,by omega⟩ ⟨g1,g2⟩ h.cho h.k9 h.cA,hG⟩
 have K2:Rq (((w.setCell ⟨r,3,none⟩ (.int .i64 (st+1))).setCell ⟨r,4,none⟩ (.int .i64 (-2))).setCell ⟨r,4,none⟩ (.int .i64 (-1))) a0 lo r n S V dn (st+1) (-1) A k c xs hs cb∧Gx [r] w (((w.setCell ⟨r,3,none⟩ (.int .i64 (st+1))).setCell ⟨r,4,none⟩ (.int .i64 (-2))).setCell ⟨r,4,none⟩ (.int .i64 (-1))):=by
  have hG:Gx [r] w (((w.setCell ⟨r,3,none⟩ (.int .i64 (st+1))).setCell ⟨r,4,none⟩ (.int .i64 (-2))).setCell ⟨r,4,none⟩ (.int .i64 (-1))):=(((Gx.refl _ _).set (by simp) _).set (by simp) _).set (by simp) _
  exact⟨h.turn hG (((h.blk.set_ 3 _).set_ 4 _).set_ 4 _) ⟨by omega,by omega⟩ ⟨by omega,by omega⟩ h.cho h.k9 h.cA,hG⟩
 have K1:=Lib.hid K1
 have K2:=Lib.hid K2
 clear h
 subst hb
 rcases(by omega:lf=-1∨lf=0∨1≤lf) with rfl|rfl|h1
 ·rw[decide_eq_false (by decide)]
  go_enter Try.func52,Try.ntmps52
  go_wp2_with fail
  go_ret
  exact⟨_,rfl,K2.out.1,K2.out.2⟩
 ·rw[decide_eq_true rfl]
  go_enter Try.func52,Try.ntmps52
  go_wp2_with fail
  go_ret
  exact⟨_,rfl,(K1.out (-1) (by omega) (by omega)).1,(K1.out (-1) (by omega) (by omega)).2⟩
 ·have q1:(lf - 1 == -1)=false:=by rw[beq_eq_false_iff_ne];omega
  have q2:¬lf - 1 < -1:=by omega
  rw[decide_eq_false (by omega:¬lf=0)]
  go_enter Try.func52,Try.ntmps52
  go_wp2_with fail
  go_ret
  exact⟨_,rfl,(K1.out (lf - 1) (by omega) (by omega)).1,(K1.out (lf - 1) (by omega) (by omega)).2⟩
end
end Go.Proofs.Ytbgkdbjineennaa.Dk
