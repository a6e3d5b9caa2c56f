/- Joined texts. -/
import Derived.Test.YtbgkdbjineennaaQcDkRc
set_option linter.unusedVariables false
namespace Go.Proofs.Ytbgkdbjineennaa.Dk
open Go.IntWalk Go.RowKit Go.Proofs.Ytbgkdbjineennaa.Gn Go.Proofs.Ytbgkdbjineennaa.Fd Go.Deep
section
variable {w:World} {a0 lo r n:Nat} {S V:Value} {dn:Bool} {st lf:Int} {A:Option Addr} {k c:Nat} {xs:List Value} {hs:List (Nat × Value)} {cb:List Bool}
theorem Rq.rows(h:Rq w a0 lo r n S V dn st lf A k c xs hs cb)(hn:0 < n):∃sg sc,S=.slice (some ⟨sg,0,none⟩) n sc∧n≤sc∧lo≤sg∧Kd w sg 22∧∀i,i < n→∃x,xs[i]?=some x∧Sec w lo x∧w.cell? ⟨sg,i,none⟩=some x:=by
 obtain⟨hl,⟨rfl,h0⟩|⟨g,cap,cur,rfl,hb',hh,h1,h2,h3,h4⟩⟩:=h.row
 ·omega
 ·refine⟨g,cap,rfl,h1,hb',⟨cur,hh⟩,fun i hi=>?_⟩
  have hi':i < xs.length:=by omega
  refine⟨xs[i],List.getElem?_eq_getElem hi',h.secs _ (List.getElem_mem hi'),Bl.cell_ hh ?_⟩
  rw[←Array.getElem?_toList,←List.getElem?_eq_getElem hi',←h4,List.getElem?_take,if_pos (by omega)]
theorem Rq.waits(h:Rq w a0 lo r n S V dn st lf A k c xs hs cb)(hn:0 < hs.length):∃vg vc,V=.slice (some ⟨vg,0,none⟩) hs.length vc∧hs.length≤vc∧lo≤vg∧Kd w vg 79∧∀i,i < hs.length→∃p x,hs[i]?=some (p,x)∧p < n∧Sec w lo x∧w.cell? ⟨vg,i*2,none⟩=some (.int .i64 (p:Int))∧w.cell? ⟨vg,i*2+1,none⟩=some x:=by
 obtain⟨hl,⟨rfl,h0⟩|⟨g,cap,cur,rfl,hb',hh,h1,h2,h3,h4⟩⟩:=h.wait
 ·omega
 ·refine⟨g,cap,rfl,h1,hb',⟨cur,hh⟩,fun i hi=>?_⟩
  obtain⟨q,hq⟩:∃q,hs[i]?=some q:=⟨_,List.getElem?_eq_getElem hi⟩
  obtain⟨e1,e2⟩:=hcells_at hs i q hq
  have hm:=h.hsec q (List.mem_of_getElem? hq)
  rw[←h4,List.getElem?_take,if_pos (by omega),Array.getElem?_toList] at e1 e2
  exact⟨q.1,q.2,hq,hm.1,hm.2,Bl.cell_ hh (by rw[Nat.mul_comm];exact e1),Bl.cell_ hh (by rw[Nat.mul_comm];exact e2)⟩
theorem Rq.rd(h:Rq w a0 lo r n S V dn st lf A k c xs hs cb){K:Nat}(h1:hs.length≤K)(h2:st≤(K:Int)):Rd w a0 lo r n K:=⟨S,V,dn,st,lf,A,k,c,xs,hs,cb,h,h1,h2⟩
set_option maxRecDepth 100000 in
theorem Start_r{K:Nat}(h:Rd w a0 lo r n K):Calls Try.prog 47 #[.pointer (some ⟨r,0,none⟩)] w fun e w'=>(∃v,e=.returned v)∧Rd w' a0 lo r n K∧Fx [] lo w w':=by
 obtain⟨S,V,dn,st,lf,A,k,c,xs,hs,cb,h,h1,h2⟩:=h
 have c2:=h.c2
 have c4:=h.c4
 have f2:=h.fz 2
 have f4:=h.fz 4
 have KK:Rq ((w.setCell ⟨r,2,none⟩ (.bool false)).setCell ⟨r,4,none⟩ (.int .i64 (-1))) a0 lo r n S V false st (-1) A k c xs hs cb∧Gx [r] w ((w.setCell ⟨r,2,none⟩ (.bool false)).setCell ⟨r,4,none⟩ (.int .i64 (-1))):=by
  have hG:Gx [r] w ((w.setCell ⟨r,2,none⟩ (.bool false)).setCell ⟨r,4,none⟩ (.int .i64 (-1))):=((Gx.refl _ _).set (by simp) _).set (by simp) _
  exact⟨h.turn hG ((h.blk.set_ 2 _).set_ 4 _) ⟨h.st0,h.st9⟩ ⟨by decide,by decide⟩ h.cho h.k9 h.cA,hG⟩
 have HF:=Lib.hid (Fx.turn KK.2 h.blk h.rlo)
 have KK:=Lib.hid (KK.1.rd h1 h2)
 clear h h1 h2
 go_enter Try.func47,Try.ntmps47
 go_wp2_with fail
 refine bodyPost_end (results_none rfl _ _ _) rfl ?_
 exact⟨⟨_,rfl⟩,KK.out,HF.out⟩
set_option maxRecDepth 100000 in
theorem Set_r{K:Nat}(h:Rd w a0 lo r n K)(x:Int)(hx:x < 9223372036854775808)(A':Option Addr)(k' c':Nat)(cb':List Bool)(hs':Sl w A' k' (cb'.map Value.bool))(hA:∀ad,A'=some ad→0 < k'→ad.block < a0):Calls Try.prog 45 #[.pointer (some ⟨r,0,none⟩),.int .i64 x,.slice A' k' c'] w (RopQ w a0 lo r n K):=by
 by_cases g1:x < 0
 ·have HH:=Lib.hid h
  clear h hs'
  go_enter Try.func45,Try.ntmps45
  go_wp2_with fail
  go_ret
  exact⟨_,rfl,HH.out,Fx.refl _ _ _⟩
 ·by_cases g2:(4096:Int) < (k':Int)
  ·have HH:=Lib.hid h
   clear h hs'
   go_enter Try.func45,Try.ntmps45
   go_wp2_with fail
   go_ret
   exact⟨_,rfl,HH.out,Fx.refl _ _ _⟩
  ·obtain⟨S,V,dn,st,lf,A,k,c,xs,hs,cb,h,h1,h2⟩:=h
   have c5:=h.c5
   have c4:=h.c4
   have f5:=h.fz 5
   have f4:=h.fz 4
   have KK:Rq ((w.setCell ⟨r,4,none⟩ (.int .i64 x)).setCell ⟨r,5,none⟩ (.slice A' k' c')) a0 lo r n S V dn st x A' k' c' xs hs cb'∧Gx [r] w ((w.setCell ⟨r,4,none⟩ (.int .i64 x)).setCell ⟨r,5,none⟩ (.slice A' k' c')):=by
    have hG:Gx [r] w ((w.setCell ⟨r,4,none⟩ (.int .i64 x)).setCell ⟨r,5,none⟩ (.slice A' k' c')):=((Gx.refl _ _).set (by simp) _).set (by simp) _
    exact⟨h.turn hG ((h.blk.set_ 4 _).set_ 5 _) ⟨h.st0,h.st9⟩ ⟨by omega,hx⟩ hs' (by omega) hA,hG⟩
   have HF:=Lib.hid (Fx.turn KK.2 h.blk h.rlo)
   have KK:=Lib.hid (KK.1.rd h1 h2)
   clear h h1 h2 hs'
   go_enter Try.func45,Try.ntmps45
   go_wp2_with fail
   go_ret
   exact⟨_,rfl,KK.out,HF.out⟩
def RreadQ(w:World)(lo n:Nat)(dn:Bool)(a:Int)(e:Ending)(w':World):Prop:=w=w'∧∃X,e=.returned (.tuple #[X,.int .i64 (thereE dn n a)])∧(thereE dn n a=0→Sec w lo X)∧(thereE dn n a≠0→X=.slice none 0 0)
theorem there_in{a:Int}(h:thereE dn n a=0):0≤a∧a < n:=by
 unfold thereE at h
 split at h
 ·cases h
 ·split at h
  ·cases h
  ·omega
set_option maxRecDepth 100000 in
set_option maxHeartbeats 4000000 in
theorem Read_r(h:Rq w a0 lo r n S V dn st lf A k c xs hs cb)(a:Int):Calls Try.prog 48 #[.pointer (some ⟨r,0,none⟩),.int .i64 a] w (RreadQ w lo n dn a):=by
 have C:=there_any h a
 by_cases h0:thereE dn n a=0
 ·have HE:=Lib.hid h0
  rw[h0] at C
  unfold RreadQ
  rw[h0]
  have C:=Lib.hid C
  obtain⟨g1,g2⟩:=there_in h0
  obtain⟨p,rfl⟩:∃p:Nat,a=(p:Int):=⟨a.toNat,by omega⟩
  obtain⟨sg,sc,rfl,s1,s2,s3,s4⟩:=h.rows (by omega)
  obtain⟨y,y1,y2,y3⟩:=s4 p (by omega)
  have Y2:=Lib.hid y2
  have c0:=h.c0
  have c1:=h.c1
  have hl9:=h.hl9
  obtain⟨vA,vc,rfl⟩:=own_len h.wait
  have W:=Lib.hid h.waits
  obtain⟨K,hK⟩:∃K,hs.length=K:=⟨_,rfl⟩
  rw[hK] at W c1 hl9
  clear h h0 y1 y2 s4 hK s2 s3 g1
  go_enter Try.func48,Try.ntmps48
  go_wp2_with (go_at_call 51;(with_reducible refine C.out.mono ?_);rintro e w1 ⟨rfl,rfl⟩)
  go_loopw [7] (fun v wr=>∃(j:Nat) (z:Int),v=.int .i64 z∧z=(j:Int) - 1∧j≤K∧w=wr) (fun v _=>(intOf v+1).toNat)
  case atStart=>exact⟨K,_,rfl,rfl,Nat.le_refl _,rfl⟩
  case round =>
   obtain⟨j,z,rfl,hz,hj,rfl⟩:=hrel
   cases j with
   |zero =>
    obtain rfl:z=-1:=by omega
    clear hz hj
    go_wp2_with fail
    go_ret2
    exact⟨rfl,_,rfl,fun _=>Y2.out,fun hh=>absurd rfl hh⟩
   |succ j =>
    obtain rfl:z=(j:Int):=by omega
    obtain⟨vg,vc',e9,w1,w2,w3,w4⟩:=W.out (by omega)
    cases e9
    obtain⟨p',x,x1,x2,x3,x4,x5⟩:=w4 j (by omega)
    have X3:=Lib.hid x3
    clear w2 w3 w4 x1 x3 hz
    by_cases hp:p'=p
    ·subst hp
     go_wp2_with fail
     go_ret2
     exact⟨rfl,_,rfl,fun _=>X3.out,fun hh=>absurd rfl hh⟩
    ·have q1:((p':Int) == (p:Int))=false:=by rw[beq_eq_false_iff_ne];omega
     go_wp2_with fail
     exact⟨⟨j,_,rfl,by go_num,by omega,by trivial⟩,by simp[intOf]⟩
 ·have HE:=Lib.hid h0
  obtain⟨E,hE⟩:∃E,thereE dn n a=E:=⟨_,rfl⟩
  have q1:(E != 0)=true:=by rw[bne_iff_ne,←hE];exact h0
  have C:=Lib.hid C
  rw[hE] at C HE
  unfold RreadQ
  rw[hE]
  clear h h0 hE
  go_enter Try.func48,Try.ntmps48
  go_wp2_with (go_at_call 51;(with_reducible refine C.out.mono ?_);rintro e w1 ⟨rfl,rfl⟩)
  go_ret2
  exact⟨rfl,_,rfl,fun hh=>absurd hh HE.out,fun _=>rfl⟩
end
end Go.Proofs.Ytbgkdbjineennaa.Dk
