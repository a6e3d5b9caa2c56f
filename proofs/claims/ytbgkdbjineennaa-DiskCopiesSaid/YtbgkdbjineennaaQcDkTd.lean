/- Joined texts. -/
import Derived.Test.YtbgkdbjineennaaQcDkTc
set_option linter.unusedVariables false
namespace Go.Proofs.Ytbgkdbjineennaa.Dk
open Go.IntWalk Go.RowKit Go.Proofs.Ytbgkdbjineennaa.Gn Go.Proofs.Ytbgkdbjineennaa.Fd Go.Deep
structure Od where
 kd:Int
 at_:Int
 nn:Int
 bA:Option Addr
 bn:Nat
 bc:Nat
 bs:List Nat
 cA:Option Addr
 cn:Nat
 cc:Nat
 cl:List Bool
def Od.row(o:Od):List Value:=[.int .i64 o.kd,.int .i64 o.at_,.int .i64 o.nn,.slice o.bA o.bn o.bc,.slice o.cA o.cn o.cc]
structure Od.ok (w:World) (a0:Nat) (o:Od):Prop where
 b:Sl w o.bA o.bn (bl o.bs)
 b0:o.bA=none→o.bc=0
 b1:o.bn≤o.bc
 b2:∀ad,o.bA=some ad→0 < o.bn→ad.block < a0
 b9:o.bn < 1000000000000000
 c:Sl w o.cA o.cn (o.cl.map Value.bool)
 c0:o.cA=none→o.cc=0
 c1:o.cn≤o.cc
 c2:∀ad,o.cA=some ad→0 < o.cn→ad.block < a0
 c9:o.cc≤maxLen
 cb:o.cn < 1000000000000000
 n9:o.nn < 9223372036854775808
theorem sl_low{w w':World}{a0:Nat}(hb:Below a0 w w'){A:Option Addr}{n:Nat}{xs:List Value}(hA:∀ad,A=some ad→0 < n→ad.block < a0)(hs:Sl w A n xs):Sl w' A n xs:=by
 refine⟨hs.1,fun i v hv=>?_⟩
 have hk0:0 < n:=by have:=(List.getElem?_eq_some_iff.1 hv).1;have:=hs.1;omega
 obtain⟨ad,e,hc⟩:=hs.2 i v hv
 refine⟨ad,e,(hb.cell (p:=ad.add i) ?_).trans hc⟩
 have hb:(ad.add i).block=ad.block:=by unfold Addr.add;split <;> rfl
 rw[hb];exact hA ad e hk0
theorem Od.ok.low{w w':World}{a0:Nat}{o:Od}(h:o.ok w a0)(hb:Below a0 w w'):o.ok w' a0:=⟨sl_low hb h.b2 h.b,h.b0,h.b1,h.b2,h.b9,sl_low hb h.c2 h.c,h.c0,h.c1,h.c2,h.c9,h.cb,h.n9⟩
def M.play(m:M)(o:Od):M :=
 if o.kd=1 then(m.write o.at_ o.bs).2 else if o.kd=2 then m.flush.2 else if o.kd=3 then(m.set o.nn o.cl).2 else if o.kd=4 then m.lose o.cl else if o.kd=5 then m.start else if o.kd=8 then(m.save o.at_ o.bs).2 else m
theorem M.flush_size(m:M):m.flush.2.ss.length=m.ss.length:=by
 unfold M.flush
 split
 ·split
  ·show(sett _ 0 _ _).length=_
   rw[sett_length,M.stroke_size]
  ·exact M.stroke_size m
 ·rfl
theorem M.set_size(m:M)(k:Int)(c:List Bool):(m.set k c).2.ss.length=m.ss.length:=by
 unfold M.set
 split
 ·rfl
 ·split <;> rfl
theorem M.saves_size(f:Nat):∀(m:M) (p:Nat) (b:List Nat),(M.saves f m p b).2.ss.length=m.ss.length:=by
 induction f with
 |zero=>intro m p b;rfl
 |succ f ih =>
  intro m p b
  rw[M.saves]
  split
  ·rfl
  ·split
   ·rw[ih,M.write_size]
   ·exact M.write_size _ _ _
theorem M.save_size(m:M)(a:Int)(b:List Nat):(m.save a b).2.ss.length=m.ss.length:=by
 unfold M.save
 split
 ·split
  ·exact M.saves_size _ _ _ _
  ·rfl
 ·rfl
theorem M.play_size(m:M)(o:Od):(m.play o).ss.length=m.ss.length:=by
 unfold M.play
 split
 ·exact M.write_size _ _ _
 split
 ·exact M.flush_size m
 split
 ·exact M.set_size _ _ _
 split
 ·exact M.lose_size _ _
 split
 ·rfl
 split
 ·exact M.save_size _ _ _
 ·rfl
theorem M.play_hs(m:M)(o:Od)(hb:o.bs.length=o.bn):(m.play o).hd.length≤m.hd.length+o.bn+1∧(m.play o).st≤m.st+o.bn+1:=by
 unfold M.play
 split
 ·have:=M.write_hs m o.at_ o.bs;omega
 split
 ·have:=M.flush_hs m;omega
 split
 ·unfold M.set
  split
  ·exact⟨by show m.hd.length≤_;omega,by show m.st≤_;omega⟩
  ·split
   ·exact⟨by show m.hd.length≤_;omega,by show m.st≤_;omega⟩
   ·exact⟨by show m.hd.length≤_;omega,by show m.st≤_;omega⟩
 split
 ·have:=M.lose_hd m o.cl;omega
 split
 ·exact⟨by show m.hd.length≤_;omega,by show m.st≤_;omega⟩
 split
 ·have:=M.save_hs m o.at_ o.bs;omega
 ·exact⟨by omega,by omega⟩
open Classical in
theorem Fx.gx{T:List Nat}{lo:Nat}{w w':World}(h:Fx T lo w w'):∃S:List Nat,Gx S w w'∧∀b∈S,b∈T∨(lo≤b∧Dt w b):=by
 refine⟨(List.range w.heap.size).filter (fun k=>decide (k∈T∨(lo≤k∧Dt w k))),⟨h.os,h.tape,h.output,h.size,fun k hk hn=>?_⟩,fun b hb=>?_⟩
 ·refine h.block k hk (fun e=>hn ?_) fun e=>hn ?_
  ·exact List.mem_filter.2 ⟨List.mem_range.2 hk,by simpa using Or.inl e⟩
  ·exact List.mem_filter.2 ⟨List.mem_range.2 hk,by simpa using Or.inr e⟩
 ·simpa using(List.mem_filter.1 hb).2
section
variable {w:World} {base g gb:Nat} {H:Value} {cs:Bool} {cw:Int} {ch:Value} {m:M} {a0 lo r n K:Nat}
theorem Dd.fx(D:Dd w base g gb H cs cw ch m){T:List Nat}{w':World}(h:Fx T lo w w')(hT:∀b∈T,b≠g∧b≠gb∧H.ownBlock≠some b∧ch.ownBlock≠some b):Dd w' base g gb H cs cw ch m:=by
 obtain⟨S,hG,hS⟩:=h.gx
 obtain⟨k1,k2,k3,k4⟩:=D.kinds
 refine D.kept hG fun b hb=>?_
 rcases hS b hb with e|⟨-, e⟩
 ·exact hT b e
 ·exact⟨e.unlike k1 (by decide) (by decide) (by decide),e.unlike k2 (by decide) (by decide) (by decide),fun e2=>e.unlike (k3 _ e2).2 (by decide) (by decide) (by decide) rfl,fun e2=>e.unlike (k4 _ e2).2 (by decide) (by decide) (by decide) rfl⟩
theorem Rd.ts(R:Rd w base lo r n K)(D:Dd w base g gb H cs cw ch m)(hgb:gb < lo){w':World}(hG:Gx (Ts g gb H) w w'):Rd w' base lo r n K:=by
 obtain⟨k1,k2,k3,k4⟩:=D.kinds
 refine R.kept hG fun b hb=>?_
 simp only[Ts,List.mem_cons,Option.mem_toList] at hb
 rcases hb with rfl|rfl|hb
 ·exact⟨D.b1,fun e=>e.2.elim (fun e=>e.unlike k1 (by decide) (by decide) (by decide) rfl) fun e=>e.unlike k1 (by decide) rfl⟩
 ·exact⟨D.b2,fun e=>by omega⟩
 ·exact⟨(k3 _ hb).1,fun e=>e.2.elim (fun e=>e.unlike (k3 _ hb).2 (by decide) (by decide) (by decide) rfl) fun e=>e.unlike (k3 _ hb).2 (by decide) rfl⟩
theorem ts_base(D:Dd w base g gb H cs cw ch m):∀b∈Ts g gb H,base≤b:=by
 obtain⟨k1,k2,k3,k4⟩:=D.kinds
 intro b hb
 simp only[Ts,List.mem_cons,Option.mem_toList] at hb
 rcases hb with rfl|rfl|hb
 ·exact D.b1
 ·exact D.b2
 ·exact(k3 _ hb).1
def PlQ(w:World)(a0 lo g gb:Nat)(H:Value)(r n K:Nat)(m':M)(e:Ending)(w':World):Prop:=(∃b,e=.returned (.bool b))∧∃H' cs' cw' ch',Dd w' a0 g gb H' cs' cw' ch' m'∧(H'.ownBlock=H.ownBlock∨∃q,H'.ownBlock=some q∧w.heap.size≤q)∧Rd w' a0 lo r n K∧Fx (Ts g gb H) lo w w'
theorem pl_both{w0 w1 w2:World}(D:Dd w base g gb H cs cw ch m)(hb:Below w.heap.size w w0)(G1:Gx (Ts g gb H) w0 w1){H1:Value}{cs1:Bool}{cw1:Int}{ch1:Value}{m1:M}(D1:Dd w1 base g gb H1 cs1 cw1 ch1 m1)(o1:H1.ownBlock=H.ownBlock∨∃q,H1.ownBlock=some q∧w0.heap.size≤q)(R2:Rd w2 base lo r n K)(F2:Fx [] lo w1 w2)(b:Bool):PlQ w base lo g gb H r n K m1 (.returned (.bool b)) w2:=by
 refine⟨⟨b,rfl⟩,H1,cs1,cw1,ch1,D1.fx F2 (fun b hb=>by cases hb),own_next hb.size (.inl rfl) o1,R2,?_⟩
 exact(Fx.of_below hb).trans ((Fx.of_gx G1).trans (F2.mono (fun b hb=>by cases hb) (Nat.le_refl _)))
end
end Go.Proofs.Ytbgkdbjineennaa.Dk
