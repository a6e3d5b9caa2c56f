/- Joined texts. -/
import Derived.Test.YtbgkdbjineennaaQcDkRh
set_option linter.unusedVariables false
namespace Go.Proofs.Ytbgkdbjineennaa.Dk
open Go.IntWalk Go.RowKit Go.Proofs.Ytbgkdbjineennaa.Gn Go.Proofs.Ytbgkdbjineennaa.Fd Go.Deep
section
variable {w:World} {a0 lo r n:Nat} {S V:Value} {dn:Bool} {st lf:Int} {A:Option Addr} {k c:Nat} {xs:List Value} {hs:List (Nat × Value)} {cb:List Bool}
theorem blk_drop{A:Option Addr}{c k n a0:Nat}(h:∀ad,A=some ad→0 < n→ad.block < a0):∀ad,(if c=k then A else A.map (fun x=>x.add k))=some ad→0 < n - k→ad.block < a0:=by
 intro ad e hn
 split at e
 ·exact h ad e (by omega)
 ·obtain⟨x,hx,rfl⟩:=Option.map_eq_some_iff.1 e
  have hb:(x.add k).block=x.block:=by unfold Addr.add;split <;> rfl
  rw[hb];exact h x hx (by omega)
theorem Rd.al{K:Nat}(h:Rd w a0 lo r n K):a0≤lo∧n≤100:=by
 obtain⟨S,V,dn,st,lf,A,k,c,xs,hs,cb,h,h1,h2⟩:=h
 exact⟨h.al,h.n9⟩
set_option maxRecDepth 100000 in
set_option maxHeartbeats 8000000 in
theorem Save_r{K:Nat}(h:Rd w a0 lo r n K)(a:Int)(B:Option Addr)(m cap:Nat)(l:List Nat)(hB:Sl w B m (bl l))(hB0:B=none→cap=0)(hcap:m≤cap)(hBa:∀ad,B=some ad→0 < m→ad.block < a0)(hK:K+m < 800000):Calls Try.prog 50 #[.pointer (some ⟨r,0,none⟩),.int .i64 a,.slice B m cap] w (RopQ w a0 lo r n (K+m)):=by
 have h':=Lib.hid h
 obtain⟨S,V,dn,st,lf,A,k,c,xs,hs,cb,h,h1,h2⟩:=h
 have SP:=rspan_any h a (m:Int)
 by_cases hE:spanE dn n a (m:Int)=0
 ·rw[hE] at SP
  have SP:=Lib.hid SP
  obtain⟨-, g1,g2,g3⟩:=span_ok hE
  obtain⟨p,rfl⟩:∃p:Nat,a=(p:Int):=⟨a.toNat,by omega⟩
  have n9:=h.n9
  have hp:p≤100:=by omega
  have hm9:m≤6400:=by omega
  have LL:∃l:List Nat,Sl w B m (bl l):=⟨l,hB⟩
  have LL:=Lib.hid LL
  have HB0:=Lib.hid hB0
  have HBA:=Lib.hid hBa
  have AL:=Lib.hid h'.out.al.1
  clear h h1 h2 hE g1 g2 g3 n9 hB hB0 hBa
  go_enter Try.func50,Try.ntmps50
  go_wp2_with (go_at_call 53;(with_reducible refine SP.out.mono ?_);rintro e w9 ⟨rfl,rfl⟩)
  go_loopw [1,2] (fun q v wr=>∃(P m' c':Nat) (B':Option Addr) (l':List Nat),q=.int .i64 (P:Int)∧v=.slice B' m' c'∧m'≤m∧m'≤c'∧P+m'≤p+m∧Sl wr B' m' (bl l')∧(B'=none→c'=0)∧(∀ad,B'=some ad→0 < m'→ad.block < a0)∧Rd wr a0 lo r n (K+(m - m'))∧Fx [] lo w wr) (fun _ v _=>(lenOf v).toNat)
  case atStart =>
   obtain⟨l,hl⟩:=LL.out
   exact⟨p,m,cap,B,l,rfl,rfl,Nat.le_refl _,hcap,Nat.le_refl _,hl,HB0.out,HBA.out,by rw[Nat.sub_self,Nat.add_zero];exact h'.out,Fx.refl _ _ _⟩
  case round =>
   obtain⟨P,m',c',B',l',rfl,rfl,hm',hc',hP,hl',hn',ha',hr,hf⟩:=hrel
   have HR:=Lib.hid hr
   have HF:=Lib.hid hf
   have HL:=Lib.hid hl'
   have HN:=Lib.hid hn'
   have HA:=Lib.hid ha'
   clear hr hf hl' hn' ha'
   have hP9:P≤10000:=by omega
   by_cases hlt:0 < m'
   ·have q1:(0:Int) < (m':Int):=by omega
    obtain⟨d,hd1,hd2,hd3⟩:∃d,d≤64∧d≤m'∧0 < d∧True:=⟨1,by omega,by omega,by omega,trivial⟩
    have FC:∀d,d≤64→d≤m'→Calls Try.prog 42 #[.slice B' d c'] wr (FullQ wr):=fun d h1 h2=>full_any B' d c' (l'.take d) wr (by rw[←bl_take];exact HL.out.take_ d h2) HN.out h1
    have FC:=Lib.hid FC
    have WC:=Lib.hid (fun(u:World) (hu:Below wr.heap.size wr u) (q qc:Nat) (ql:List Nat) (hq:Sl u (some ⟨q,0,none⟩) 64 (bl ql))=>Write_r (HR.out.below hu) (by omega) (P:Int) (some ⟨q,0,none⟩) 64 qc ql hq (by simp))
    clear hd1 hd2 hd3 d
    by_cases h6:m' < 64
    ·have q2:(m':Int) < 64:=by omega
     have F1:=Lib.hid (FC.out m' (by omega) (Nat.le_refl _))
     have q5:(m':Int)≤(c':Int):=by omega
     go_upto_region 9 with(first|(go_at_call 42;(with_reducible refine F1.out.mono ?_);rintro e w1 ⟨X,rfl,k1,k2⟩;obtain⟨q,qc,ql,rfl,k3,k4,k5,k6⟩:=k1;have K2:=Lib.hid k2;have K6:=Lib.hid k6;clear k2 k3 k4 k5 k6)|(go_at_call 43;(with_reducible refine(WC.out _ K2.out q qc ql K6.out).mono ?_);rintro e w2 ⟨v,rfl,k7,k8⟩;have K7:=Lib.hid k7;have K8:=Lib.hid k8;clear k7 k8))
     have FF2:=Lib.hid ((Fx.of_below (T:=[]) (lo:=lo) K2.out).trans K8.out)
     have FF:=Lib.hid (HF.out.trans FF2.out)
     by_cases hv:v=0
     ·subst hv
      go_wp2_with fail
      refine⟨⟨P+1,m' - m',c' - m',_,l'.drop m',by go_num,by simp,by omega,by omega,by omega,?_,nil_drop HN.out,blk_drop HA.out,K7.out.more (by omega),FF.out⟩,by simp[lenOf];omega⟩
      rw[←bl_drop]
      exact(FF2.out.sl AL.out HA.out HL.out).drop_ m' (Nat.le_refl _) hc'
     ·have q9:(v != 0)=true:=by rw[bne_iff_ne];exact hv
      go_wp2_with fail
      go_ret
      exact⟨_,rfl,K7.out.more (by omega),FF.out⟩
    ·have q2:¬(m':Int) < 64:=by omega
     have F1:=Lib.hid (FC.out 64 (Nat.le_refl _) (by omega))
     have q5:(64:Int)≤(c':Int):=by omega
     go_upto_region 9 with(first|(go_at_call 42;(with_reducible refine F1.out.mono ?_);rintro e w1 ⟨X,rfl,k1,k2⟩;obtain⟨q,qc,ql,rfl,k3,k4,k5,k6⟩:=k1;have K2:=Lib.hid k2;have K6:=Lib.hid k6;clear k2 k3 k4 k5 k6)|(go_at_call 43;(with_reducible refine(WC.out _ K2.out q qc ql K6.out).mono ?_);rintro e w2 ⟨v,rfl,k7,k8⟩;have K7:=Lib.hid k7;have K8:=Lib.hid k8;clear k7 k8))
     have FF2:=Lib.hid ((Fx.of_below (T:=[]) (lo:=lo) K2.out).trans K8.out)
     have FF:=Lib.hid (HF.out.trans FF2.out)
     by_cases hv:v=0
     ·subst hv
      go_wp2_with fail
      refine⟨⟨P+1,m' - 64,c' - 64,_,l'.drop 64,by go_num,by first|rfl|(simp;rfl),by omega,by omega,by omega,?_,nil_drop HN.out,blk_drop HA.out,K7.out.more (by omega),FF.out⟩,by simp[lenOf];omega⟩
      rw[←bl_drop]
      exact(FF2.out.sl AL.out HA.out HL.out).drop_ 64 (by omega) hc'
     ·have q9:(v != 0)=true:=by rw[bne_iff_ne];exact hv
      go_wp2_with fail
      go_ret
      exact⟨_,rfl,K7.out.more (by omega),FF.out⟩
   ·obtain rfl:m'=0:=by omega
    have HP:=Lib.hid hP
    clear hP hlt
    go_wp2_with fail
    go_ret
    exact⟨_,rfl,HR.out.more (by omega),HF.out⟩
 ·have HH:=Lib.hid ((h.rd h1 h2).more (Nat.le_add_right _ m))
  obtain⟨E,hEE⟩:∃E,spanE dn n a (m:Int)=E:=⟨_,rfl⟩
  have q1:(E != 0)=true:=by rw[bne_iff_ne,←hEE];exact hE
  have SP:=Lib.hid SP
  rw[hEE] at SP
  clear h hE hEE hB
  go_enter Try.func50,Try.ntmps50
  go_wp2_with (go_at_call 53;(with_reducible refine SP.out.mono ?_);rintro e w9 ⟨rfl,rfl⟩)
  go_ret
  exact⟨_,rfl,HH.out,Fx.refl _ _ _⟩
end
end Go.Proofs.Ytbgkdbjineennaa.Dk
