/- Joined texts. -/
import Derived.Test.YtbgkdbjineennaaQcDkRg
set_option linter.unusedVariables false
namespace Go.Proofs.Ytbgkdbjineennaa.Dk
open Go.IntWalk Go.RowKit Go.Proofs.Ytbgkdbjineennaa.Gn Go.Proofs.Ytbgkdbjineennaa.Fd Go.Deep
section
variable {w:World} {a0 lo r n:Nat} {S V:Value} {dn:Bool} {st lf:Int} {A:Option Addr} {k c:Nat} {xs:List Value} {hs:List (Nat × Value)} {cb:List Bool}
def TwoQ(w:World)(e:Ending)(w':World):Prop:=∃(A:Option Addr) (k cp:Nat) (l:List Nat) (er:Int),e=.returned (.tuple #[.slice A k cp,.int .i64 er])∧Sl w' A k (bl l)∧k≤6400∧Below w.heap.size w w'
theorem span_ok{a x:Int}(h:spanE dn n a x=0):dn=false∧0≤a∧a≤n∧x≤64*((n:Int) - a):=by
 unfold spanE at h
 split at h
 ·cases h
 ·rename_i hd
  split at h
  ·cases h
  ·exact⟨by simpa using hd,by omega,by omega,by omega⟩
theorem there_ok{a:Int}(hd:dn=false)(h0:0≤a)(h1:a < n):thereE dn n a=0:=by
 unfold thereE
 rw[if_neg (by rw[hd];decide),if_neg (by omega)]
set_option maxRecDepth 100000 in
set_option maxHeartbeats 8000000 in
theorem Load_r{K:Nat}(h:Rd w a0 lo r n K)(a x:Int):Calls Try.prog 49 #[.pointer (some ⟨r,0,none⟩),.int .i64 a,.int .i64 x] w (TwoQ w):=by
 obtain⟨S,V,dn,st,lf,A,k,c,xs,hs,cb,h,h1,h2⟩:=h
 have c2:=h.c2
 have SP:=rspan_any h a x
 have h0:=Lib.hid h
 cases dn with
 |true =>
  clear h
  go_enter Try.func49,Try.ntmps49
  go_wp2_with fail
  go_ret2
  exact⟨_,_,_,[],_,rfl,Sl.nil_ _ _,by omega,Below.refl _ _⟩
 |false =>
  by_cases hx:x < 0
  ·clear h
   go_enter Try.func49,Try.ntmps49
   go_wp2_with fail
   go_ret2
   exact⟨_,_,_,[],_,rfl,Sl.nil_ _ _,by omega,Below.refl _ _⟩
  ·by_cases hE:spanE false n a x=0
   ·rw[hE] at SP
    have SP:=Lib.hid SP
    obtain⟨-, g1,g2,g3⟩:=span_ok hE
    have n9:=h.n9
    obtain⟨p,rfl⟩:∃p:Nat,a=(p:Int):=⟨a.toNat,by omega⟩
    obtain⟨y,rfl⟩:∃y:Nat,x=(y:Int):=⟨x.toNat,by omega⟩
    obtain⟨i0,hi,hz0,hz1,hz2⟩:=info_parts infob
    have hy:y≤6400:=by omega
    have hp:p≤100:=by omega
    have GG:=Lib.hid (show 64*p+y≤64*n by omega)
    clear h h1 h2 hE g1 g2 g3 n9
    go_enter Try.func49,Try.ntmps49
    go_wp2_with (go_at_call 53;(with_reducible refine SP.out.mono ?_);rintro e w9 ⟨rfl,rfl⟩)
    go_loopw [1,9] (fun q v wr=>∃(i P j:Nat) (l:List Nat),q=.int .i64 (P:Int)∧P=p+i∧j=64*i∧j < y+64∧wr.ownsRow w.heap.size 5 1 v j (bl l)∧Below w.heap.size w wr) (fun q _ _=>y+p+1 - (intOf q).toNat)
    case atStart=>exact⟨0,p,0,[],rfl,rfl,rfl,by omega,own_nil _ _ _,Below.refl _ _⟩
    case round =>
     obtain⟨i,P,j,l,rfl,hP,hj,hj2,ho,hb⟩:=hrel
     obtain⟨vA,vc,rfl⟩:=own_len ho
     have HO:=Lib.hid ho
     have HB:=Lib.hid hb
     clear ho hb
     by_cases hlt:j < y
     ·have q1:(j:Int) < (y:Int):=by omega
      have hPn:P < n:=by have:=GG.out;omega
      have RC:=Lib.hid (Read_r (h0.out.below HB.out) (P:Int))
      have EE:=Lib.hid (there_ok (dn:=false) (n:=n) (a:=(P:Int)) rfl (by omega) (by omega))
      have VB:=Lib.hid (fun b (e:(Value.slice vA j vc).ownBlock=some b)=>own_ge HO.out e)
      have HI:=Lib.hid (And.intro hP hj)
      have hP9:P≤200:=by omega
      have hPm:P < p+y:=by omega
      clear hP hj
      go_wp2_with (first|(go_at_call 48;(with_reducible refine RC.out.mono ?_);rintro e w2 ⟨rfl,X,rfl,k1,-⟩;obtain⟨q,qc,ql,rfl,k2,k3,k4,k5⟩:=k1 EE.out;have K5:=Lib.hid k5;clear k1 k2 k3 k4 k5)|(at_builtin;refine wpList_append_sl rfl (.tmp 35) (.tmp 36) 22 rfl w.heap.size 5 i0 _ (8 / 8) Try.underlying22 hi hz0 hz1 hz2 rfl (.slice vA j vc) j _ rfl HO.out (some ⟨q,0,none⟩) 64 qc (bl ql) rfl (by simp) K5.out (bl_one _) (by unfold maxLen;omega) (by omega) HB.out.size ?_;intro v' w3 hown hgrow;have HO3:=Lib.hid hown;have HG3:=Lib.hid hgrow;clear hown hgrow))
      refine⟨⟨i+1,P+1,j+64,l ++ ql,by go_num,by have:=HI.out.1;omega,by have:=HI.out.2;omega,by omega,by rw[bl_append];exact HO3.out,HB.out.grown HG3.out HB.out.size (fun b e=>VB.out b e)⟩,by simp[intOf];omega⟩
     ·have q1:¬(j:Int) < (y:Int):=by omega
      have hc:j≤vc∧Sl wr vA j (bl l):=by
       obtain⟨hl,⟨e,h0⟩|⟨g,cap,cur,e,hb',hh,h1,h2,h3,h4⟩⟩:=HO.out
       ·cases e;exact⟨by omega,by simpa using hl,fun k v hk=>by have:=(List.getElem?_eq_some_iff.1 hk).1;omega⟩
       ·cases e;exact⟨h1,own_sl HO.out⟩
      have q2:(y:Int)≤(vc:Int):=by omega
      have q3:y≤j:=by omega
      have HC:=Lib.hid hc.2
      clear hc hP hj
      go_wp2_with fail
      go_ret2
      exact⟨_,_,_,l.take y,_,rfl,by rw[←bl_take];exact sl_take HC.out q3,hy,HB.out⟩
   ·obtain⟨E,hEE⟩:∃E,spanE false n a x=E:=⟨_,rfl⟩
    have q1:(E != 0)=true:=by rw[bne_iff_ne,←hEE];exact hE
    have SP:=Lib.hid SP
    rw[hEE] at SP
    clear h hE hEE
    go_enter Try.func49,Try.ntmps49
    go_wp2_with (go_at_call 53;(with_reducible refine SP.out.mono ?_);rintro e w9 ⟨rfl,rfl⟩)
    go_ret2
    exact⟨_,_,_,[],_,rfl,Sl.nil_ _ _,by omega,Below.refl _ _⟩
end
end Go.Proofs.Ytbgkdbjineennaa.Dk
