/- Joined texts. -/
import Derived.Test.YtjimhjfjfpeojaaGreatDoorQvAvQ
set_option maxRecDepth 100000
set_option maxHeartbeats 8000000
set_option linter.unusedVariables false
namespace Go.Proofs.YtjimhjfjfpeojaaGreatDoor.Av
open Go.RowKit Go.Proofs.YtjimhjfjfpeojaaGreatDoor.Gn Go.Proofs.YtjimhjfjfpeojaaGreatDoor.Fd Go.Proofs.YtjimhjfjfpeojaaGreatDoor.Ed Go.Deep
theorem Z8g{l:List Nat}(hl:∀x∈l,x < 256)(w:World):FnAt Tryz.prog [.u64] w 13 [byt true l] (ofT (decO l)):=by
 refine FnAt.of Tryz.f13 _ _ Tryz.func13 Tryz.ntmps13 rfl (by kernel_rfl) (fun _ _=>by kernel_rfl) fun O=>?_
 show PW _ _ _ ⟨[(0,.c (.dv _))],[]⟩
 refine(PW.seq ?_:PW _ _ _ _)
 refine(PW.region ?_:PW _ _ _ _)
 refine PL.full rfl (Fa.alloc 1 (z:=(.agg #[.slice none 0 0,.slice none 0 0,.slice none 0 0])) rfl (by kernel_rfl) (by kernel_rfl) rfl rfl ?_)
 refine PL.mu rfl rfl rfl rfl rfl ?_
 refine PL.nil ?_
 refine(PW.seq ?_:PW _ _ _ _)
 refine(PW.seq ?_:PW _ _ _ _)
 refine(PW.region ?_:PW _ _ _ _)
 refine PL.mv rfl rfl rfl rfl rfl ?_
 refine PL.step rfl rfl rfl (PS.len (n:=l.length) rfl rfl Tryz.underlying22 (by decide) (by simp[bl])) ?_
 refine PL.step rfl rfl rfl (PS.neq rfl rfl rfl) ?_
 refine PL.nil ?_
 show PW _ _ _ _
 refine PW.cond (by rfl) (fun hc13=>?_) (fun hc13=>?_)
 ·have h32:¬l.length=32:=by have h:=hc13;simp at h;omega
  refine(PW.seq ?_:PW _ _ _ _)
  refine(PW.region ?_:PW _ _ _ _)
  refine PL.step rfl rfl rfl (PS.build (xs:=[]) (zs:=[.slice none 0 0,.slice none 0 0,.slice none 0 0]) [] _ rfl rfl Tryz.underlying34 (by kernel_rfl) (by kernel_rfl) (by kernel_rfl) rfl (by kernel_rfl) rfl) ?_
  refine PL.full rfl (Fa.storeR rfl rfl rfl rfl rfl rfl (by kernel_rfl) rfl ?_)
  refine PL.mu rfl rfl rfl rfl rfl ?_
  refine PL.nil ?_
  refine(PW.ret ?_:PW _ _ _ _)
  exact Rt.as (Rt.cellTwo Tryz.results13 rfl rfl rfl Tryz.underlying34 rfl (by kernel_rfl)) (by unfold decO;rw[if_neg h32];exact Z54 (Z9k le_zero le_zero le_zero) (le_refl _))
 have h32:l.length=32:=by have h:=hc13;simp at h;omega
 refine(PW.skip ?_:PW _ _ _ _)
 refine(PW.seq ?_:PW _ _ _ _)
 refine(PW.region ?_:PW _ _ _ _)
 refine PL.mu rfl rfl rfl rfl rfl ?_
 refine PL.nil ?_
 refine(PW.seq ?_:PW _ _ _ _)
 refine(PW.region ?_:PW _ _ _ _)
 refine PL.mv rfl rfl rfl rfl rfl ?_
 refine PL.mv rfl rfl rfl rfl rfl ?_
 refine PL.step rfl rfl rfl (PS.slice (lo:=0) (hi:=31) (kl:=.i64) (kh:=.i64) ((bl (l.take 31)).map .lit) rfl rfl (.inl ⟨rfl,rfl⟩) (.inr ⟨_,rfl,rfl⟩) Tryz.underlying22 (by kernel_rfl) (by decide) (by decide) (by simp[bl];omega) (by simp[bl,List.map_take])) ?_
 refine PL.full rfl (Fa.app0 12 false (z:=.int .u8 0) (e:=5) (bytes:=1) (k:=1) rfl rfl rfl Tryz.underlying22 (by kernel_rfl) rfl (by decide) (fun h=>by cases h) (Z7r _) (fun h=>by cases h) (by decide) (by simp[bl];omega) (by kernel_rfl) rfl rfl ?_)
 refine PL.mu rfl rfl rfl rfl rfl ?_
 refine PL.nil ?_
 refine(PW.seq ?_:PW _ _ _ _)
 refine(PW.region ?_:PW _ _ _ _)
 refine PL.mv rfl rfl rfl rfl rfl ?_
 refine PL.mv rfl rfl rfl rfl rfl ?_
 refine PL.step rfl rfl rfl (PS.index1 (i:=31) (.lit (.int .u8 ((l.getD 31 0:Nat):Int))) rfl rfl rfl Tryz.underlying22 (by kernel_rfl) (Z7s (by omega))) ?_
 refine PL.step rfl rfl rfl (PS.loadA rfl rfl Tryz.underlying5 rfl) ?_
 refine PL.step rfl rfl rfl (PS.remN (a:=l.getD 31 0) (b:=128) rfl rfl rfl (by decide)) ?_
 refine PL.step rfl rfl rfl (PS.buildSlice (parts:=[(0,_)]) (xs:=[_]) (z:=(.int .u8 0)) (bytes:=1) rfl rfl rfl Tryz.underlying22 (by kernel_rfl) rfl (by kernel_rfl) (by kernel_rfl)) ?_
 refine PL.full rfl (Fa.app 13 (z:=.int .u8 0) (e:=5) (bytes:=1) (k:=1) rfl rfl rfl rfl Tryz.underlying22 (by kernel_rfl) rfl (by decide) (fun h=>by cases h) (by intro y hy;simp at hy;subst hy;rfl) (fun h=>by cases h) (by decide) (by simp[bl];omega) (by kernel_rfl) rfl rfl ?_)
 refine PL.mu rfl rfl rfl rfl rfl ?_
 refine PL.nil ?_
 refine(PW.seq ?_:PW _ _ _ _)
 refine PW.give 13 rfl ?_
 have hL:((bl (l.take 31)).map DV.lit ++ [DV.lit (.int .u8 ((l.getD 31 0%128:Nat):Int))])=(bl (low l)).map DV.lit:=by rw[Zgk h32];simp[bl]
 have h32l:(low l).length=32:=by rw[Zng];exact h32
 by_cases hm:le (low l) < pp
 ·skip
  refine(PW.region ?_:PW _ _ _ _)
  refine PL.mv rfl rfl rfl rfl rfl ?_
  refine PL.call (xs:=[_]) rfl rfl rfl rfl rfl rfl rfl (fun w hw=>FnAt.les (Znh (l:=low l) h32l (Z8f hl) hm w) ⟨Z6q (by unfold byt;rw[←hL]),trivial⟩) ?_
  refine PL.mv rfl rfl rfl rfl rfl ?_
  refine PL.step rfl rfl rfl (PS.ext rfl rfl rfl) ?_
  refine PL.step rfl rfl rfl (PS.ext rfl rfl rfl) ?_
  refine PL.full rfl (Fa.alloc 2 (z:=(.agg #[.int .u64 0,.int .u64 0,.int .u64 0,.int .u64 0,.int .u64 0])) rfl (by kernel_rfl) (by kernel_rfl) rfl rfl ?_)
  refine PL.full rfl (Fa.storeH 5 rfl rfl rfl rfl rfl (Zqw _) (by kernel_rfl) rfl ?_)
  refine PL.mu rfl rfl rfl rfl rfl ?_
  refine PL.nil ?_
  refine(PW.seq ?_:PW _ _ _ _)
  refine(PW.seq ?_:PW _ _ _ _)
  refine(PW.region ?_:PW _ _ _ _)
  refine PL.mv rfl rfl rfl rfl rfl ?_
  refine PL.step rfl rfl rfl (PS.neq rfl rfl rfl) ?_
  refine PL.nil ?_
  show PW _ _ _ _
  refine PW.cond (b:=false) (by rfl) (fun h=>nomatch h) (fun _=>?_)
  refine(PW.skip ?_:PW _ _ _ _)
  refine(PW.seq ?_:PW _ _ _ _)
  refine(PW.drawn 9 (by kernel_rfl) (by kernel_rfl) (by kernel_rfl) (by kernel_rfl) (by kernel_rfl) ?_:PW _ _ _ _)
  refine PD.mv rfl rfl rfl rfl rfl ?_
  refine PD.call (xs:=[_]) rfl rfl rfl rfl rfl rfl rfl (fun w hw=>FnAt.les (Zi9 (r:=true) (l:=low l) (by omega) (Z8f hl) w) ⟨Z6q (by unfold byt;rw[←hL]),trivial⟩) ?_
  refine PD.mv rfl rfl rfl rfl rfl ?_
  refine PD.step rfl rfl rfl (PS.index1 (i:=31) (.lit (.int .u8 ((l.getD 31 0:Nat):Int))) rfl rfl rfl Tryz.underlying22 (by kernel_rfl) (Z7s (by omega))) ?_
  refine PD.step rfl rfl rfl (PS.loadA rfl rfl Tryz.underlying5 rfl) ?_
  refine PD.step rfl rfl rfl (PS.eq (y:=Bo (decide (127 < l.getD 31 0))) (PS.gtr rfl rfl rfl) (by rw[show(127:Int)=((127:Nat):Int) from rfl,Ztk])) ?_
  refine PD.call (xs:=[_,_]) rfl rfl rfl rfl rfl rfl rfl (fun w hw=>c_Of (y:=le (low l)) (decide (127 < l.getD 31 0)) hm w) ?_
  refine PD.step rfl rfl rfl (PS.ext rfl rfl rfl) ?_
  refine PD.step rfl rfl rfl (PS.ext rfl rfl rfl) ?_
  refine PD.full rfl (Fa.storeR rfl rfl rfl rfl rfl rfl (by kernel_rfl) rfl ?_)
  refine PD.step0 rfl rfl rfl (PS.assigned (r:=.c _) rfl rfl) ?_
  refine PD.nil ?_
  refine(PW.ret ?_:PW _ _ _ _)
  exact Rt.as (Rt.cellTwo Tryz.results13 rfl rfl rfl Tryz.underlying34 rfl (by kernel_rfl)) (by unfold decO decT;rw[if_pos h32,if_pos hm];cases rof (le (low l)) (decide (127 < l.getD 31 0)) <;> exact le_refl _)
 ·skip
  refine(PW.region ?_:PW _ _ _ _)
  refine PL.mv rfl rfl rfl rfl rfl ?_
  refine PL.call (xs:=[_]) rfl rfl rfl rfl rfl rfl rfl (fun w hw=>FnAt.les (Zni (l:=low l) h32l (Z8f hl) hm w) ⟨Z6q (by unfold byt;rw[←hL]),trivial⟩) ?_
  refine PL.mv rfl rfl rfl rfl rfl ?_
  refine PL.step rfl rfl rfl (PS.ext rfl rfl rfl) ?_
  refine PL.step rfl rfl rfl (PS.ext rfl rfl rfl) ?_
  refine PL.full rfl (Fa.alloc 3 (z:=(.agg #[.int .u64 0,.int .u64 0,.int .u64 0,.int .u64 0,.int .u64 0])) rfl (by kernel_rfl) (by kernel_rfl) rfl rfl ?_)
  refine PL.full rfl (Fa.storeH 5 rfl rfl rfl rfl rfl Zqv (by kernel_rfl) rfl ?_)
  refine PL.mu rfl rfl rfl rfl rfl ?_
  refine PL.nil ?_
  refine(PW.seq ?_:PW _ _ _ _)
  refine(PW.seq ?_:PW _ _ _ _)
  refine(PW.region ?_:PW _ _ _ _)
  refine PL.mv rfl rfl rfl rfl rfl ?_
  refine PL.step rfl rfl rfl (PS.neq rfl rfl rfl) ?_
  refine PL.nil ?_
  show PW _ _ _ _
  refine PW.cond (b:=true) (by rfl) (fun _=>?_) (fun h=>nomatch h)
  refine(PW.seq ?_:PW _ _ _ _)
  refine(PW.region ?_:PW _ _ _ _)
  refine PL.step rfl rfl rfl (PS.build (xs:=[]) (zs:=[.slice none 0 0,.slice none 0 0,.slice none 0 0]) [] _ rfl rfl Tryz.underlying34 (by kernel_rfl) (by kernel_rfl) (by kernel_rfl) rfl (by kernel_rfl) rfl) ?_
  refine PL.full rfl (Fa.storeR rfl rfl rfl rfl rfl rfl (by kernel_rfl) rfl ?_)
  refine PL.mu rfl rfl rfl rfl rfl ?_
  refine PL.nil ?_
  refine(PW.ret ?_:PW _ _ _ _)
  exact Rt.as (Rt.cellTwo Tryz.results13 rfl rfl rfl Tryz.underlying34 rfl (by kernel_rfl)) (by unfold decO decT;rw[if_pos h32,if_neg hm];exact Z54 (Z9k le_zero le_zero le_zero) (le_refl _))
theorem Zj2{t:T3}(ht:t.ok)(w:World):FnAt Tryz.prog [.u64] w 62 [t.dv] (byt true (encL t)):=by
 refine FnAt.of Tryz.f62 _ _ Tryz.func62 Tryz.ntmps62 rfl (by kernel_rfl) (fun _ _=>by kernel_rfl) fun O=>?_
 show PW _ _ _ ⟨[(0,.c (.dv _))],[]⟩
 refine(PW.seq ?_:PW _ _ _ _)
 refine(PW.region ?_:PW _ _ _ _)
 refine PL.full rfl (Fa.boxR 1 rfl rfl (by kernel_rfl) rfl rfl ?_)
 refine PL.mu rfl rfl rfl rfl rfl ?_
 refine PL.nil ?_
 refine(PW.seq ?_:PW _ _ _ _)
 refine(PW.region ?_:PW _ _ _ _)
 refine PL.step rfl rfl rfl (PS.fieldAddr 2 rfl rfl (fun _ _=>by kernel_rfl)) ?_
 refine PL.step rfl rfl rfl (PS.load rfl rfl rfl rfl Tryz.underlying32 rfl) ?_
 refine PL.call (xs:=[_]) rfl rfl rfl rfl rfl rfl rfl (fun w hw=>Zsd ht.z w) ?_
 refine PL.mu rfl rfl rfl rfl rfl ?_
 refine PL.nil ?_
 refine(PW.seq ?_:PW _ _ _ _)
 refine(PW.drawn 10 (by kernel_rfl) (by kernel_rfl) (by kernel_rfl) (by kernel_rfl) (by kernel_rfl) ?_:PW _ _ _ _)
 refine PD.step rfl rfl rfl (PS.fieldAddr 0 rfl rfl (fun _ _=>by kernel_rfl)) ?_
 refine PD.step rfl rfl rfl (PS.load rfl rfl rfl rfl Tryz.underlying32 rfl) ?_
 refine PD.mv rfl rfl rfl rfl rfl ?_
 refine PD.call (xs:=[_,_]) rfl rfl rfl rfl rfl rfl rfl (fun w hw=>(Z33 ht.x (Z0c _) w:FnAt _ _ _ _ _ (num (encX t)))) ?_
 refine PD.step rfl rfl rfl (PS.fieldAddr 1 rfl rfl (fun _ _=>by kernel_rfl)) ?_
 refine PD.step rfl rfl rfl (PS.load rfl rfl rfl rfl Tryz.underlying32 rfl) ?_
 refine PD.mv rfl rfl rfl rfl rfl ?_
 refine PD.call (xs:=[_,_]) rfl rfl rfl rfl rfl rfl rfl (fun w hw=>(Z33 ht.y (Z0c _) w:FnAt _ _ _ _ _ (num (encY t)))) ?_
 refine PD.mu rfl rfl rfl rfl rfl ?_
 refine PD.mu rfl rfl rfl rfl rfl ?_
 refine PD.nil ?_
 refine(PW.seq ?_:PW _ _ _ _)
 refine(PW.region ?_:PW _ _ _ _)
 refine PL.mv rfl rfl rfl rfl rfl ?_
 refine PL.full rfl (Fa.callOwn 12 (xs:=[_,_]) rfl rfl rfl (by kernel_rfl) (fun w hw=>Zmb (v:=encY t) (m:=32) (Z0c _) (by decide) w) (by kernel_rfl) rfl rfl ?_)
 refine PL.mu rfl rfl rfl rfl rfl ?_
 refine PL.nil ?_
 refine(PW.seq ?_:PW _ _ _ _)
 refine(PW.seq ?_:PW _ _ _ _)
 refine(PW.region ?_:PW _ _ _ _)
 refine PL.mv rfl rfl rfl rfl rfl ?_
 refine PL.step rfl rfl rfl (PS.len (n:=(dg (encX t)).length) rfl rfl Tryz.underlying32 (by decide) ((Nat.mul_one _).trans (num_len _).symm)) ?_
 refine PL.split rfl rfl rfl (PS.gtr rfl rfl rfl) (fun hs37=>?_) (fun hs37=>?_)
 ·have hpos:0 < (dg (encX t)).length:=by have:=of_decide_eq_true hs37;omega
  refine PL.mv rfl rfl rfl rfl rfl ?_
  refine PL.stepW rfl rfl rfl rfl rfl (PS.moved (r:=.c _) rfl rfl) ?_
  refine PL.stepW rfl rfl rfl rfl rfl (PS.index1 (i:=0) (.lit (.int .u64 (((dg (encX t)).getD 0 0:Nat):Int))) rfl rfl rfl Tryz.underlying32 (by kernel_rfl) (Znk hpos)) ?_
  refine PL.stepW rfl rfl rfl rfl rfl (PS.loadA rfl rfl Tryz.underlying24 rfl) ?_
  refine PL.stepW rfl rfl rfl rfl rfl (PS.remN (a:=(dg (encX t)).getD 0 0) (b:=2) rfl rfl rfl (by decide)) ?_
  refine PL.stepW rfl rfl rfl rfl rfl (PS.eql rfl rfl rfl) ?_
  refine PL.pT rfl rfl rfl rfl rfl rfl ?_
  refine PL.nil ?_
  show PW _ _ _ _
  refine PW.cond (by rfl) (fun hc47=>?_) (fun hc47=>?_)
  ·have ho:encX t%2=1:=by have h1:=of_decide_eq_true hc47;have:=Zgm _ hpos;omega
   have h31:(by_ (encY t) 32).getD 31 0 < 128:=Zqt (Nat.lt_trans (Z0c _) (by rw[Z1b];decide))
   refine(PW.region ?_:PW _ _ _ _)
   refine PL.mv rfl rfl rfl rfl rfl ?_
   refine PL.mv rfl rfl rfl rfl rfl ?_
   refine PL.step rfl rfl rfl (PS.indexOwn (i:=31) (k:=1) rfl rfl rfl rfl Tryz.underlying22 (by kernel_rfl) (by decide) (by simp[bl,by_length])) ?_
   refine PL.step rfl rfl rfl (PS.loadB (c:=.lit (.int .u8 (((by_ (encY t) 32).getD 31 0:Nat):Int))) rfl rfl rfl (Z7s (by rw[by_length];decide)) Tryz.underlying5 rfl) ?_
   refine PL.step rfl rfl rfl (PS.add ((((by_ (encY t) 32).getD 31 0+128:Nat)):Int) rfl rfl rfl (by rw[wu8 (by have:=h31;omega)];omega)) ?_
   refine PL.step rfl rfl rfl (PS.indexOwn (i:=31) (k:=1) rfl rfl rfl rfl Tryz.underlying22 (by kernel_rfl) (by decide) (by simp[bl,by_length])) ?_
   refine PL.full rfl (Fa.storeB rfl rfl rfl rfl (by simp[bl,by_length]) rfl (fun h=>by cases h) (by kernel_rfl) rfl ?_)
   refine PL.nil ?_
   refine(PW.seq ?_:PW _ _ _ _)
   refine PW.give 12 rfl ?_
   refine(PW.region ?_:PW _ _ _ _)
   refine PL.mv rfl rfl rfl rfl rfl ?_
   refine PL.mu rfl rfl rfl rfl rfl ?_
   refine PL.nil ?_
   refine(PW.ret ?_:PW _ _ _ _)
   exact Rt.as (Rt.one Tryz.results62 rfl) (by unfold encL;rw[if_pos ho];exact Z6q (by show _=DV.sq true 1 ((bl (top _)).map DV.lit);unfold top;rw[←Zl5]))
  have ho:¬encX t%2=1:=by have h1:=of_decide_eq_false hc47;have:=Zgm _ hpos;omega
  refine(PW.skip ?_:PW _ _ _ _)
  refine(PW.seq ?_:PW _ _ _ _)
  refine PW.give 12 rfl ?_
  refine(PW.region ?_:PW _ _ _ _)
  refine PL.mv rfl rfl rfl rfl rfl ?_
  refine PL.mu rfl rfl rfl rfl rfl ?_
  refine PL.nil ?_
  refine(PW.ret ?_:PW _ _ _ _)
  exact Rt.as (Rt.one Tryz.results62 rfl) (by unfold encL;rw[if_neg ho];exact le_refl _)
 have hpos:¬0 < (dg (encX t)).length:=by have:=of_decide_eq_false hs37;omega
 refine PL.mv rfl rfl rfl rfl rfl ?_
 refine PL.stepP rfl rfl rfl (by decide) rfl rfl ?_
 refine PL.stepP rfl rfl rfl (by decide) rfl rfl ?_
 refine PL.stepP rfl rfl rfl (by decide) rfl rfl ?_
 refine PL.stepP rfl rfl rfl (by decide) rfl rfl ?_
 refine PL.stepP rfl rfl rfl (by decide) rfl rfl ?_
 refine PL.pF rfl rfl rfl rfl rfl rfl ?_
 refine PL.nil ?_
 show PW _ _ _ _
 refine PW.cond (b:=false) (by rfl) (fun h=>nomatch h) (fun _=>?_)
 refine(PW.skip ?_:PW _ _ _ _)
 refine(PW.seq ?_:PW _ _ _ _)
 refine PW.give 12 rfl ?_
 refine(PW.region ?_:PW _ _ _ _)
 refine PL.mv rfl rfl rfl rfl rfl ?_
 refine PL.mu rfl rfl rfl rfl rfl ?_
 refine PL.nil ?_
 refine(PW.ret ?_:PW _ _ _ _)
 exact Rt.as (Rt.one Tryz.results62 rfl) (by unfold encL;rw[if_neg (by rw[Znj hpos];decide)];exact le_refl _)
theorem Z1m(w:World):FnAt Tryz.prog [] w 31 [] Zgn.dv:=by
 refine FnAt.of Tryz.f31 _ _ Tryz.func31 Tryz.ntmps31 rfl (by kernel_rfl) (fun _ _=>by kernel_rfl) fun O=>?_
 show PW _ _ _ ⟨[],[]⟩
 refine(PW.seq ?_:PW _ _ _ _)
 refine(PW.region ?_:PW _ _ _ _)
 refine PL.full rfl (Fa.alloc 1 (z:=(.agg #[.slice none 0 0,.slice none 0 0,.slice none 0 0])) rfl (by kernel_rfl) (by kernel_rfl) rfl rfl ?_)
 refine PL.nil ?_
 refine(PW.seq ?_:PW _ _ _ _)
 refine(PW.region ?_:PW _ _ _ _)
 refine PL.step rfl rfl rfl (PS.buildSlice (parts:=[(0,_),(1,_),(2,_),(3,_),(4,_),(5,_),(6,_),(7,_),(8,_),(9,_),(10,_),(11,_),(12,_),(13,_),(14,_),(15,_)]) (xs:=[_,_,_,_,_,_,_,_,_,_,_,_,_,_,_,_]) (z:=(.int .u64 0)) (bytes:=8) rfl rfl rfl Tryz.underlying32 (by kernel_rfl) rfl (by kernel_rfl) (by kernel_rfl)) ?_
 refine PL.mu rfl rfl rfl rfl rfl ?_
 refine PL.nil ?_
 refine(PW.seq ?_:PW _ _ _ _)
 refine(PW.region ?_:PW _ _ _ _)
 refine PL.step rfl rfl rfl (PS.buildSlice (parts:=[(0,_),(1,_),(2,_),(3,_),(4,_),(5,_),(6,_),(7,_),(8,_),(9,_),(10,_),(11,_),(12,_),(13,_),(14,_),(15,_)]) (xs:=[_,_,_,_,_,_,_,_,_,_,_,_,_,_,_,_]) (z:=(.int .u64 0)) (bytes:=8) rfl rfl rfl Tryz.underlying32 (by kernel_rfl) rfl (by kernel_rfl) (by kernel_rfl)) ?_
 refine PL.mu rfl rfl rfl rfl rfl ?_
 refine PL.nil ?_
 refine(PW.seq ?_:PW _ _ _ _)
 refine(PW.region ?_:PW _ _ _ _)
 refine PL.mv rfl rfl rfl rfl rfl ?_
 refine PL.mv rfl rfl rfl rfl rfl ?_
 refine PL.step rfl rfl rfl (PS.buildSlice (parts:=[(0,_)]) (xs:=[_]) (z:=(.int .u64 0)) (bytes:=8) rfl rfl rfl Tryz.underlying32 (by kernel_rfl) rfl (by kernel_rfl) (by kernel_rfl)) ?_
 refine PL.step rfl rfl rfl (PS.build (xs:=[_,_,_]) (zs:=[.slice none 0 0,.slice none 0 0,.slice none 0 0]) [0,1,2] _ rfl rfl Tryz.underlying34 (by kernel_rfl) (by kernel_rfl) (by kernel_rfl) rfl (by kernel_rfl) rfl) ?_
 refine PL.full rfl (Fa.storeR rfl rfl rfl rfl rfl rfl (by kernel_rfl) rfl ?_)
 refine PL.nil ?_
 refine(PW.ret ?_:PW _ _ _ _)
 exact Rt.as (Rt.cell Tryz.results31 rfl rfl Tryz.underlying34 rfl (by kernel_rfl)) (Z9k (Znd (l:=[54554,36645,11616,51542,42930,38181,51040,26924,56412,64982,57905,49316,21502,52590,14035,8553]) (by decide +kernel)) (Znd (l:=[26200,26214,26214,26214,26214,26214,26214,26214,26214,26214,26214,26214,26214,26214,26214,26214]) (by decide +kernel)) Z3l)
end Go.Proofs.YtjimhjfjfpeojaaGreatDoor.Av
