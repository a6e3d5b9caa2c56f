/- Joined texts. -/
import Derived.Test.YtjimhjfjfpeojaaGreatDoorQbAvQ
set_option linter.unusedVariables false
namespace Go.Proofs.YtjimhjfjfpeojaaGreatDoor.Av
open Go.RowKit Go.Proofs.YtjimhjfjfpeojaaGreatDoor.Gn Go.Proofs.YtjimhjfjfpeojaaGreatDoor.Fd Go.Proofs.YtjimhjfjfpeojaaGreatDoor.Ed Go.Deep
set_option maxRecDepth 100000 in
theorem c_decode{l:List Nat}(hl:∀x∈l,x < 256)(w:World):FnAt Tryz.prog [.u64] w 13 [byt true l] (ofT (decO l)):=by
 refine FnAt.of Tryz.f13 _ _ Tryz.func13 Tryz.ntmps13 rfl (by kernel_rfl) (fun _ _=>by kernel_rfl) fun O=>?_
 show PW _ _ _ ⟨[(0,.c (.dv _))],[]⟩
 refine(PW.seq ?_:PW _ _ _ _)
 refine(PW.region ?_:PW _ _ _ _)
 refine PL.full rfl (Fa.alloc 1 (z:=(.agg #[.slice none 0 0,.slice none 0 0,.slice none 0 0])) rfl (by kernel_rfl) (by kernel_rfl) rfl rfl ?_)
 refine PL.mu rfl rfl rfl rfl rfl ?_
 refine PL.nil ?_
 refine(PW.seq ?_:PW _ _ _ _)
 refine(PW.seq ?_:PW _ _ _ _)
 refine(PW.region ?_:PW _ _ _ _)
 refine PL.mv rfl rfl rfl rfl rfl ?_
 refine PL.step rfl rfl rfl (PS.len (n:=l.length) rfl rfl Tryz.underlying22 (by decide) (by simp[bl])) ?_
 refine PL.step rfl rfl rfl (PS.neq rfl rfl rfl) ?_
 refine PL.nil ?_
 show PW _ _ _ _
 refine PW.cond (by rfl) (fun hc13=>?_) (fun hc13=>?_)
 ·have h32:¬l.length=32:=by have h:=hc13;simp at h;omega
  refine(PW.seq ?_:PW _ _ _ _)
  refine(PW.region ?_:PW _ _ _ _)
  refine PL.step rfl rfl rfl (PS.build (xs:=[]) (zs:=[.slice none 0 0,.slice none 0 0,.slice none 0 0]) [] _ rfl rfl Tryz.underlying34 (by kernel_rfl) (by kernel_rfl) (by kernel_rfl) rfl (by kernel_rfl) rfl) ?_
  refine PL.full rfl (Fa.storeR rfl rfl rfl rfl rfl rfl (by kernel_rfl) rfl ?_)
  refine PL.mu rfl rfl rfl rfl rfl ?_
  refine PL.nil ?_
  refine(PW.ret ?_:PW _ _ _ _)
  exact Rt.as (Rt.cellTwo Tryz.results13 rfl rfl rfl Tryz.underlying34 rfl (by kernel_rfl)) (by unfold decO;rw[if_neg h32];exact le_tup2 (le_pt le_zero le_zero le_zero) (le_refl _))
 have h32:l.length=32:=by have h:=hc13;simp at h;omega
 refine(PW.skip ?_:PW _ _ _ _)
 refine(PW.seq ?_:PW _ _ _ _)
 refine(PW.region ?_:PW _ _ _ _)
 refine PL.mu rfl rfl rfl rfl rfl ?_
 refine PL.nil ?_
 refine(PW.seq ?_:PW _ _ _ _)
 refine(PW.region ?_:PW _ _ _ _)
 refine PL.mv rfl rfl rfl rfl rfl ?_
 refine PL.mv rfl rfl rfl rfl rfl ?_
 refine PL.step rfl rfl rfl (PS.slice (lo:=0) (hi:=31) (kl:=.i64) (kh:=.i64) ((bl (l.take 31)).map .lit) rfl rfl (.inl ⟨rfl,rfl⟩) (.inr ⟨_,rfl,rfl⟩) Tryz.underlying22 (by kernel_rfl) (by decide) (by decide) (by simp[bl];omega) (by simp[bl,List.map_take])) ?_
 refine PL.full rfl (Fa.app0 12 false (z:=.int .u8 0) (e:=5) (bytes:=1) (k:=1) rfl rfl rfl Tryz.underlying22 (by kernel_rfl) rfl (by decide) (fun h=>by cases h) (byt_one _) (fun h=>by cases h) (by decide) (by simp[bl];omega) (by kernel_rfl) rfl rfl ?_)
 refine PL.mu rfl rfl rfl rfl rfl ?_
 refine PL.nil ?_
 refine(PW.seq ?_:PW _ _ _ _)
 refine(PW.region ?_:PW _ _ _ _)
 refine PL.mv rfl rfl rfl rfl rfl ?_
 refine PL.mv rfl rfl rfl rfl rfl ?_
 refine PL.step rfl rfl rfl (PS.index1 (i:=31) (.lit (.int .u8 ((l.getD 31 0:Nat):Int))) rfl rfl rfl Tryz.underlying22 (by kernel_rfl) (byt_get (by omega))) ?_
 refine PL.step rfl rfl rfl (PS.loadA rfl rfl Tryz.underlying5 rfl) ?_
 refine PL.step rfl rfl rfl (PS.remN (a:=l.getD 31 0) (b:=128) rfl rfl rfl (by decide)) ?_
 refine PL.step rfl rfl rfl (PS.buildSlice (parts:=[(0,_)]) (xs:=[_]) (z:=(.int .u8 0)) (bytes:=1) rfl rfl rfl Tryz.underlying22 (by kernel_rfl) rfl (by kernel_rfl) (by kernel_rfl)) ?_
 refine PL.full rfl (Fa.app 13 (z:=.int .u8 0) (e:=5) (bytes:=1) (k:=1) rfl rfl rfl rfl Tryz.underlying22 (by kernel_rfl) rfl (by decide) (fun h=>by cases h) (by intro y hy;simp at hy;subst hy;rfl) (fun h=>by cases h) (by decide) (by simp[bl];omega) (by kernel_rfl) rfl rfl ?_)
 refine PL.mu rfl rfl rfl rfl rfl ?_
 refine PL.nil ?_
 refine(PW.seq ?_:PW _ _ _ _)
 refine PW.give 13 rfl ?_
 have hL:((bl (l.take 31)).map DV.lit ++ [DV.lit (.int .u8 ((l.getD 31 0%128:Nat):Int))])=(bl (low l)).map DV.lit:=by rw[low_split h32];simp[bl]
 have h32l:(low l).length=32:=by rw[low_len];exact h32
 by_cases hm:le (low l) < pp
 ·skip
  refine(PW.region ?_:PW _ _ _ _)
  refine PL.mv rfl rfl rfl rfl rfl ?_
  refine PL.call (xs:=[_]) rfl rfl rfl rfl rfl rfl rfl (fun w hw=>FnAt.les (c_rdec1 (l:=low l) h32l (low_byte hl) hm w) ⟨le_eq (by unfold byt;rw[←hL]),trivial⟩) ?_
  refine PL.mv rfl rfl rfl rfl rfl ?_
  refine PL.step rfl rfl rfl (PS.ext rfl rfl rfl) ?_
  refine PL.step rfl rfl rfl (PS.ext rfl rfl rfl) ?_
  refine PL.full rfl (Fa.alloc 2 (z:=(.agg #[.int .u64 0,.int .u64 0,.int .u64 0,.int .u64 0,.int .u64 0])) rfl (by kernel_rfl) (by kernel_rfl) rfl rfl ?_)
  refine PL.full rfl (Fa.storeH 5 rfl rfl rfl rfl rfl (el_row _) (by kernel_rfl) rfl ?_)
  refine PL.mu rfl rfl rfl rfl rfl ?_
  refine PL.nil ?_
  refine(PW.seq ?_:PW _ _ _ _)
  refine(PW.seq ?_:PW _ _ _ _)
  refine(PW.region ?_:PW _ _ _ _)
  refine PL.mv rfl rfl rfl rfl rfl ?_
  refine PL.step rfl rfl rfl (PS.neq rfl rfl rfl) ?_
  refine PL.nil ?_
  show PW _ _ _ _
  refine PW.cond (b:=false) (by rfl) (fun h=>nomatch h) (fun _=>?_)
  refine(PW.skip ?_:PW _ _ _ _)
  refine(PW.seq ?_:PW _ _ _ _)
  refine(PW.drawn 9 (by kernel_rfl) (by kernel_rfl) (by kernel_rfl) (by kernel_rfl) (by kernel_rfl) ?_:PW _ _ _ _)
  refine PD.mv rfl rfl rfl rfl rfl ?_
  refine PD.call (xs:=[_]) rfl rfl rfl rfl rfl rfl rfl (fun w hw=>FnAt.les (c_number (r:=true) (l:=low l) (by omega) (low_byte hl) w) ⟨le_eq (by unfold byt;rw[←hL]),trivial⟩) ?_
  refine PD.mv rfl rfl rfl rfl rfl ?_
  refine PD.step rfl rfl rfl (PS.index1 (i:=31) (.lit (.int .u8 ((l.getD 31 0:Nat):Int))) rfl rfl rfl Tryz.underlying22 (by kernel_rfl) (byt_get (by omega))) ?_
  refine PD.step rfl rfl rfl (PS.loadA rfl rfl Tryz.underlying5 rfl) ?_
  refine PD.step rfl rfl rfl (PS.eq (y:=Bo (decide (127 < l.getD 31 0))) (PS.gtr rfl rfl rfl) (by rw[show(127:Int)=((127:Nat):Int) from rfl,dec_i])) ?_
  refine PD.call (xs:=[_,_]) rfl rfl rfl rfl rfl rfl rfl (fun w hw=>c_Of (y:=le (low l)) (decide (127 < l.getD 31 0)) hm w) ?_
  refine PD.step rfl rfl rfl (PS.ext rfl rfl rfl) ?_
  refine PD.step rfl rfl rfl (PS.ext rfl rfl rfl) ?_
  refine PD.full rfl (Fa.storeR rfl rfl rfl rfl rfl rfl (by kernel_rfl) rfl ?_)
  refine PD.step0 rfl rfl rfl (PS.assigned (r:=.c _) rfl rfl) ?_
  refine PD.nil ?_
  refine(PW.ret ?_:PW _ _ _ _)
  exact Rt.as (Rt.cellTwo Tryz.results13 rfl rfl rfl Tryz.underlying34 rfl (by kernel_rfl)) (by unfold decO decT;rw[if_pos h32,if_pos hm];cases rof (le (low l)) (decide (127 < l.getD 31 0)) <;> exact le_refl _)
 ·skip
  refine(PW.region ?_:PW _ _ _ _)
  refine PL.mv rfl rfl rfl rfl rfl ?_
  refine PL.call (xs:=[_]) rfl rfl rfl rfl rfl rfl rfl (fun w hw=>FnAt.les (c_rdec2 (l:=low l) h32l (low_byte hl) hm w) ⟨le_eq (by unfold byt;rw[←hL]),trivial⟩) ?_
  refine PL.mv rfl rfl rfl rfl rfl ?_
  refine PL.step rfl rfl rfl (PS.ext rfl rfl rfl) ?_
  refine PL.step rfl rfl rfl (PS.ext rfl rfl rfl) ?_
  refine PL.full rfl (Fa.alloc 3 (z:=(.agg #[.int .u64 0,.int .u64 0,.int .u64 0,.int .u64 0,.int .u64 0])) rfl (by kernel_rfl) (by kernel_rfl) rfl rfl ?_)
  refine PL.full rfl (Fa.storeH 5 rfl rfl rfl rfl rfl z5_row (by kernel_rfl) rfl ?_)
  refine PL.mu rfl rfl rfl rfl rfl ?_
  refine PL.nil ?_
  refine(PW.seq ?_:PW _ _ _ _)
  refine(PW.seq ?_:PW _ _ _ _)
  refine(PW.region ?_:PW _ _ _ _)
  refine PL.mv rfl rfl rfl rfl rfl ?_
  refine PL.step rfl rfl rfl (PS.neq rfl rfl rfl) ?_
  refine PL.nil ?_
  show PW _ _ _ _
  refine PW.cond (b:=true) (by rfl) (fun _=>?_) (fun h=>nomatch h)
  refine(PW.seq ?_:PW _ _ _ _)
  refine(PW.region ?_:PW _ _ _ _)
  refine PL.step rfl rfl rfl (PS.build (xs:=[]) (zs:=[.slice none 0 0,.slice none 0 0,.slice none 0 0]) [] _ rfl rfl Tryz.underlying34 (by kernel_rfl) (by kernel_rfl) (by kernel_rfl) rfl (by kernel_rfl) rfl) ?_
  refine PL.full rfl (Fa.storeR rfl rfl rfl rfl rfl rfl (by kernel_rfl) rfl ?_)
  refine PL.mu rfl rfl rfl rfl rfl ?_
  refine PL.nil ?_
  refine(PW.ret ?_:PW _ _ _ _)
  exact Rt.as (Rt.cellTwo Tryz.results13 rfl rfl rfl Tryz.underlying34 rfl (by kernel_rfl)) (by unfold decO decT;rw[if_pos h32,if_neg hm];exact le_tup2 (le_pt le_zero le_zero le_zero) (le_refl _))
set_option maxRecDepth 100000 in
theorem c_encode{t:T3}(ht:t.ok)(w:World):FnAt Tryz.prog [.u64] w 62 [t.dv] (byt true (encL t)):=by
 refine FnAt.of Tryz.f62 _ _ Tryz.func62 Tryz.ntmps62 rfl (by kernel_rfl) (fun _ _=>by kernel_rfl) fun O=>?_
 show PW _ _ _ ⟨[(0,.c (.dv _))],[]⟩
 refine(PW.seq ?_:PW _ _ _ _)
 refine(PW.region ?_:PW _ _ _ _)
 refine PL.full rfl (Fa.boxR 1 rfl rfl (by kernel_rfl) rfl rfl ?_)
 refine PL.mu rfl rfl rfl rfl rfl ?_
 refine PL.nil ?_
 refine(PW.seq ?_:PW _ _ _ _)
 refine(PW.region ?_:PW _ _ _ _)
 refine PL.step rfl rfl rfl (PS.fieldAddr 2 rfl rfl (fun _ _=>by kernel_rfl)) ?_
 refine PL.step rfl rfl rfl (PS.load rfl rfl rfl rfl Tryz.underlying32 rfl) ?_
 refine PL.call (xs:=[_]) rfl rfl rfl rfl rfl rfl rfl (fun w hw=>c_inv ht.z w) ?_
 refine PL.mu rfl rfl rfl rfl rfl ?_
 refine PL.nil ?_
 refine(PW.seq ?_:PW _ _ _ _)
 refine(PW.drawn 10 (by kernel_rfl) (by kernel_rfl) (by kernel_rfl) (by kernel_rfl) (by kernel_rfl) ?_:PW _ _ _ _)
 refine PD.step rfl rfl rfl (PS.fieldAddr 0 rfl rfl (fun _ _=>by kernel_rfl)) ?_
 refine PD.step rfl rfl rfl (PS.load rfl rfl rfl rfl Tryz.underlying32 rfl) ?_
 refine PD.mv rfl rfl rfl rfl rfl ?_
 refine PD.call (xs:=[_,_]) rfl rfl rfl rfl rfl rfl rfl (fun w hw=>(c_mul ht.x (lt_mod _) w:FnAt _ _ _ _ _ (num (encX t)))) ?_
 refine PD.step rfl rfl rfl (PS.fieldAddr 1 rfl rfl (fun _ _=>by kernel_rfl)) ?_
 refine PD.step rfl rfl rfl (PS.load rfl rfl rfl rfl Tryz.underlying32 rfl) ?_
 refine PD.mv rfl rfl rfl rfl rfl ?_
 refine PD.call (xs:=[_,_]) rfl rfl rfl rfl rfl rfl rfl (fun w hw=>(c_mul ht.y (lt_mod _) w:FnAt _ _ _ _ _ (num (encY t)))) ?_
 refine PD.mu rfl rfl rfl rfl rfl ?_
 refine PD.mu rfl rfl rfl rfl rfl ?_
 refine PD.nil ?_
 refine(PW.seq ?_:PW _ _ _ _)
 refine(PW.region ?_:PW _ _ _ _)
 refine PL.mv rfl rfl rfl rfl rfl ?_
 refine PL.full rfl (Fa.callOwn 12 (xs:=[_,_]) rfl rfl rfl (by kernel_rfl) (fun w hw=>c_bytes (v:=encY t) (m:=32) (lt_mod _) (by decide) w) (by kernel_rfl) rfl rfl ?_)
 refine PL.mu rfl rfl rfl rfl rfl ?_
 refine PL.nil ?_
 refine(PW.seq ?_:PW _ _ _ _)
 refine(PW.seq ?_:PW _ _ _ _)
 refine(PW.region ?_:PW _ _ _ _)
 refine PL.mv rfl rfl rfl rfl rfl ?_
 refine PL.step rfl rfl rfl (PS.len (n:=(dg (encX t)).length) rfl rfl Tryz.underlying32 (by decide) ((Nat.mul_one _).trans (num_len _).symm)) ?_
 refine PL.split rfl rfl rfl (PS.gtr rfl rfl rfl) (fun hs37=>?_) (fun hs37=>?_)
 ·have hpos:0 < (dg (encX t)).length:=by have:=of_decide_eq_true hs37;omega
  refine PL.mv rfl rfl rfl rfl rfl ?_
  refine PL.stepW rfl rfl rfl rfl rfl (PS.moved (r:=.c _) rfl rfl) ?_
  refine PL.stepW rfl rfl rfl rfl rfl (PS.index1 (i:=0) (.lit (.int .u64 (((dg (encX t)).getD 0 0:Nat):Int))) rfl rfl rfl Tryz.underlying32 (by kernel_rfl) (num_get hpos)) ?_
  refine PL.stepW rfl rfl rfl rfl rfl (PS.loadA rfl rfl Tryz.underlying24 rfl) ?_
  refine PL.stepW rfl rfl rfl rfl rfl (PS.remN (a:=(dg (encX t)).getD 0 0) (b:=2) rfl rfl rfl (by decide)) ?_
  refine PL.stepW rfl rfl rfl rfl rfl (PS.eql rfl rfl rfl) ?_
  refine PL.pT rfl rfl rfl rfl rfl rfl ?_
  refine PL.nil ?_
  show PW _ _ _ _
  refine PW.cond (by rfl) (fun hc47=>?_) (fun hc47=>?_)
  ·have ho:encX t%2=1:=by have h1:=of_decide_eq_true hc47;have:=dg_head _ hpos;omega
   have h31:(by_ (encY t) 32).getD 31 0 < 128:=by_31 (Nat.lt_trans (lt_mod _) (by rw[pp_eq];decide))
   refine(PW.region ?_:PW _ _ _ _)
   refine PL.mv rfl rfl rfl rfl rfl ?_
   refine PL.mv rfl rfl rfl rfl rfl ?_
   refine PL.step rfl rfl rfl (PS.indexOwn (i:=31) (k:=1) rfl rfl rfl rfl Tryz.underlying22 (by kernel_rfl) (by decide) (by simp[bl,by_length])) ?_
   refine PL.step rfl rfl rfl (PS.loadB (c:=.lit (.int .u8 (((by_ (encY t) 32).getD 31 0:Nat):Int))) rfl rfl rfl (byt_get (by rw[by_length];decide)) Tryz.underlying5 rfl) ?_
   refine PL.step rfl rfl rfl (PS.add ((((by_ (encY t) 32).getD 31 0+128:Nat)):Int) rfl rfl rfl (by rw[wu8 (by have:=h31;omega)];omega)) ?_
   refine PL.step rfl rfl rfl (PS.indexOwn (i:=31) (k:=1) rfl rfl rfl rfl Tryz.underlying22 (by kernel_rfl) (by decide) (by simp[bl,by_length])) ?_
   refine PL.full rfl (Fa.storeB rfl rfl rfl rfl (by simp[bl,by_length]) rfl (fun h=>by cases h) (by kernel_rfl) rfl ?_)
   refine PL.nil ?_
   refine(PW.seq ?_:PW _ _ _ _)
   refine PW.give 12 rfl ?_
   refine(PW.region ?_:PW _ _ _ _)
   refine PL.mv rfl rfl rfl rfl rfl ?_
   refine PL.mu rfl rfl rfl rfl rfl ?_
   refine PL.nil ?_
   refine(PW.ret ?_:PW _ _ _ _)
   exact Rt.as (Rt.one Tryz.results62 rfl) (by unfold encL;rw[if_pos ho];exact le_eq (by show _=DV.sq true 1 ((bl (top _)).map DV.lit);unfold top;rw[←byt_set]))
  have ho:¬encX t%2=1:=by have h1:=of_decide_eq_false hc47;have:=dg_head _ hpos;omega
  refine(PW.skip ?_:PW _ _ _ _)
  refine(PW.seq ?_:PW _ _ _ _)
  refine PW.give 12 rfl ?_
  refine(PW.region ?_:PW _ _ _ _)
  refine PL.mv rfl rfl rfl rfl rfl ?_
  refine PL.mu rfl rfl rfl rfl rfl ?_
  refine PL.nil ?_
  refine(PW.ret ?_:PW _ _ _ _)
  exact Rt.as (Rt.one Tryz.results62 rfl) (by unfold encL;rw[if_neg ho];exact le_refl _)
 have hpos:¬0 < (dg (encX t)).length:=by have:=of_decide_eq_false hs37;omega
 refine PL.mv rfl rfl rfl rfl rfl ?_
 refine PL.stepP rfl rfl rfl (by decide) rfl rfl ?_
 refine PL.stepP rfl rfl rfl (by decide) rfl rfl ?_
 refine PL.stepP rfl rfl rfl (by decide) rfl rfl ?_
 refine PL.stepP rfl rfl rfl (by decide) rfl rfl ?_
 refine PL.stepP rfl rfl rfl (by decide) rfl rfl ?_
 refine PL.pF rfl rfl rfl rfl rfl rfl ?_
 refine PL.nil ?_
 show PW _ _ _ _
 refine PW.cond (b:=false) (by rfl) (fun h=>nomatch h) (fun _=>?_)
 refine(PW.skip ?_:PW _ _ _ _)
 refine(PW.seq ?_:PW _ _ _ _)
 refine PW.give 12 rfl ?_
 refine(PW.region ?_:PW _ _ _ _)
 refine PL.mv rfl rfl rfl rfl rfl ?_
 refine PL.mu rfl rfl rfl rfl rfl ?_
 refine PL.nil ?_
 refine(PW.ret ?_:PW _ _ _ _)
 exact Rt.as (Rt.one Tryz.results62 rfl) (by unfold encL;rw[if_neg (by rw[dg_none hpos];decide)];exact le_refl _)
set_option maxRecDepth 100000 in
theorem c_base(w:World):FnAt Tryz.prog [] w 31 [] base3.dv:=by
 refine FnAt.of Tryz.f31 _ _ Tryz.func31 Tryz.ntmps31 rfl (by kernel_rfl) (fun _ _=>by kernel_rfl) fun O=>?_
 show PW _ _ _ ⟨[],[]⟩
 refine(PW.seq ?_:PW _ _ _ _)
 refine(PW.region ?_:PW _ _ _ _)
 refine PL.full rfl (Fa.alloc 1 (z:=(.agg #[.slice none 0 0,.slice none 0 0,.slice none 0 0])) rfl (by kernel_rfl) (by kernel_rfl) rfl rfl ?_)
 refine PL.nil ?_
 refine(PW.seq ?_:PW _ _ _ _)
 refine(PW.region ?_:PW _ _ _ _)
 refine PL.step rfl rfl rfl (PS.buildSlice (parts:=[(0,_),(1,_),(2,_),(3,_),(4,_),(5,_),(6,_),(7,_),(8,_),(9,_),(10,_),(11,_),(12,_),(13,_),(14,_),(15,_)]) (xs:=[_,_,_,_,_,_,_,_,_,_,_,_,_,_,_,_]) (z:=(.int .u64 0)) (bytes:=8) rfl rfl rfl Tryz.underlying32 (by kernel_rfl) rfl (by kernel_rfl) (by kernel_rfl)) ?_
 refine PL.mu rfl rfl rfl rfl rfl ?_
 refine PL.nil ?_
 refine(PW.seq ?_:PW _ _ _ _)
 refine(PW.region ?_:PW _ _ _ _)
 refine PL.step rfl rfl rfl (PS.buildSlice (parts:=[(0,_),(1,_),(2,_),(3,_),(4,_),(5,_),(6,_),(7,_),(8,_),(9,_),(10,_),(11,_),(12,_),(13,_),(14,_),(15,_)]) (xs:=[_,_,_,_,_,_,_,_,_,_,_,_,_,_,_,_]) (z:=(.int .u64 0)) (bytes:=8) rfl rfl rfl Tryz.underlying32 (by kernel_rfl) rfl (by kernel_rfl) (by kernel_rfl)) ?_
 refine PL.mu rfl rfl rfl rfl rfl ?_
 refine PL.nil ?_
 refine(PW.seq ?_:PW _ _ _ _)
 refine(PW.region ?_:PW _ _ _ _)
 refine PL.mv rfl rfl rfl rfl rfl ?_
 refine PL.mv rfl rfl rfl rfl rfl ?_
 refine PL.step rfl rfl rfl (PS.buildSlice (parts:=[(0,_)]) (xs:=[_]) (z:=(.int .u64 0)) (bytes:=8) rfl rfl rfl Tryz.underlying32 (by kernel_rfl) rfl (by kernel_rfl) (by kernel_rfl)) ?_
 refine PL.step rfl rfl rfl (PS.build (xs:=[_,_,_]) (zs:=[.slice none 0 0,.slice none 0 0,.slice none 0 0]) [0,1,2] _ rfl rfl Tryz.underlying34 (by kernel_rfl) (by kernel_rfl) (by kernel_rfl) rfl (by kernel_rfl) rfl) ?_
 refine PL.full rfl (Fa.storeR rfl rfl rfl rfl rfl rfl (by kernel_rfl) rfl ?_)
 refine PL.nil ?_
 refine(PW.ret ?_:PW _ _ _ _)
 exact Rt.as (Rt.cell Tryz.results31 rfl rfl Tryz.underlying34 rfl (by kernel_rfl)) (le_pt (le_dg (l:=[54554,36645,11616,51542,42930,38181,51040,26924,56412,64982,57905,49316,21502,52590,14035,8553]) (by decide +kernel)) (le_dg (l:=[26200,26214,26214,26214,26214,26214,26214,26214,26214,26214,26214,26214,26214,26214,26214,26214]) (by decide +kernel)) le_one)
set_option maxRecDepth 100000 in
theorem c_cut{l:List Nat}(w:World):FnAt Tryz.prog [] w 61 [byt true l] (byt true (l.take 32)):=by
 refine FnAt.of Tryz.f61 _ _ Tryz.func61 Tryz.ntmps61 rfl (by kernel_rfl) (fun _ _=>by kernel_rfl) fun O=>?_
 show PW _ _ _ ⟨[(0,.c (.dv _))],[]⟩
 refine(PW.seq ?_:PW _ _ _ _)
 refine(PW.region ?_:PW _ _ _ _)
 refine PL.mu rfl rfl rfl rfl rfl ?_
 refine PL.nil ?_
 refine(PW.seq ?_:PW _ _ _ _)
 refine(PW.seq ?_:PW _ _ _ _)
 refine(PW.region ?_:PW _ _ _ _)
 refine PL.mv rfl rfl rfl rfl rfl ?_
 refine PL.step rfl rfl rfl (PS.len (n:=l.length) rfl rfl Tryz.underlying22 (by decide) (by simp[bl])) ?_
 refine PL.step rfl rfl rfl (PS.gtr rfl rfl rfl) ?_
 refine PL.nil ?_
 show PW _ _ _ _
 refine PW.cond (by rfl) (fun hc12=>?_) (fun hc12=>?_)
 ·have hgt:32 < l.length:=by have:=of_decide_eq_true hc12;omega
  refine(PW.seq ?_:PW _ _ _ _)
  refine(PW.region ?_:PW _ _ _ _)
  refine PL.mv rfl rfl rfl rfl rfl ?_
  refine PL.step rfl rfl rfl (PS.slice (lo:=0) (hi:=32) (kl:=.i64) (kh:=.i64) ((bl (l.take 32)).map .lit) rfl rfl (.inl ⟨rfl,rfl⟩) (.inr ⟨_,rfl,rfl⟩) Tryz.underlying22 (by kernel_rfl) (by decide) (by decide) (by simp[bl];omega) (by simp[bl,List.map_take])) ?_
  refine PL.mu rfl rfl rfl rfl rfl ?_
  refine PL.nil ?_
  refine(PW.ret ?_:PW _ _ _ _)
  exact Rt.as (Rt.one Tryz.results61 rfl) (le_refl _)
 have hgt:¬32 < l.length:=by have:=of_decide_eq_false hc12;omega
 refine(PW.skip ?_:PW _ _ _ _)
 refine(PW.seq ?_:PW _ _ _ _)
 refine(PW.region ?_:PW _ _ _ _)
 refine PL.mv rfl rfl rfl rfl rfl ?_
 refine PL.mu rfl rfl rfl rfl rfl ?_
 refine PL.nil ?_
 refine(PW.ret ?_:PW _ _ _ _)
 exact Rt.as (Rt.one Tryz.results61 rfl) (le_eq (by rw[List.take_of_length_le (by omega)]))
set_option maxRecDepth 100000 in
theorem c_samebytes{r s:Bool}{l k:List Nat}(hl:∀x∈l,x < 256)(hk:∀x∈k,x < 256)(w:World):FnAt Tryz.prog [] w 15 [byt r l,byt s k] (.lit (.bool (decide (l=k)))):=by
 refine FnAt.of Tryz.f15 _ _ Tryz.func15 Tryz.ntmps15 rfl (by kernel_rfl) (fun _ _=>by kernel_rfl) fun O=>?_
 show PW _ _ _ ⟨[(0,.c (.dv _)),(1,.c (.dv _))],[]⟩
 refine(PW.seq ?_:PW _ _ _ _)
 refine(PW.region ?_:PW _ _ _ _)
 refine PL.mu rfl rfl rfl rfl rfl ?_
 refine PL.nil ?_
 refine(PW.seq ?_:PW _ _ _ _)
 refine(PW.region ?_:PW _ _ _ _)
 refine PL.mv rfl rfl rfl rfl rfl ?_
 refine PL.step rfl rfl rfl (PS.str (l:=l) rfl rfl Tryz.underlying22 Tryz.underlying5 Tryz.underlying9) ?_
 refine PL.mv rfl rfl rfl rfl rfl ?_
 refine PL.step rfl rfl rfl (PS.str (l:=k) rfl rfl Tryz.underlying22 Tryz.underlying5 Tryz.underlying9) ?_
 refine PL.step rfl rfl rfl (PS.seq rfl rfl rfl) ?_
 refine PL.mu rfl rfl rfl rfl rfl ?_
 refine PL.nil ?_
 refine(PW.ret ?_:PW _ _ _ _)
 exact Rt.as (Rt.one Tryz.results15 rfl) (bool_le (txt_dec hl hk))
set_option maxRecDepth 100000 in
theorem c_point{l:List Nat}{g:G}(hl:∀x∈l,x < 256)(hg:R3 (ptT l) g)(hok:(ptT l).ok)(w:World)(tab:TabE w):FnAt Tryz.prog [.u64] w 18 [byt true l] (.tup [pnt g,(ptT l).dv]):=by
 refine FnAt.of Tryz.f18 _ _ Tryz.func18 Tryz.ntmps18 rfl (by kernel_rfl) (fun _ _=>by kernel_rfl) fun O=>?_
 show PW _ _ _ ⟨[(0,.c (.dv _))],[]⟩
 refine(PW.seq ?_:PW _ _ _ _)
 refine(PW.region ?_:PW _ _ _ _)
 refine PL.full rfl (Fa.alloc 1 (z:=(.agg #[.int .u64 0,.int .u64 0,.int .u64 0,.int .u64 0,.int .u64 0,.int .u64 0,.int .u64 0,.int .u64 0,.int .u64 0,.int .u64 0,.int .u64 0,.int .u64 0,.int .u64 0,.int .u64 0,.int .u64 0,.int .u64 0,.int .u64 0,.int .u64 0,.int .u64 0,.int .u64 0])) rfl (by kernel_rfl) (by kernel_rfl) rfl rfl ?_)
 refine PL.full rfl (Fa.alloc 2 (z:=(.agg #[.slice none 0 0,.slice none 0 0,.slice none 0 0])) rfl (by kernel_rfl) (by kernel_rfl) rfl rfl ?_)
 refine PL.nil ?_
 refine(PW.seq ?_:PW _ _ _ _)
 refine(PW.region ?_:PW _ _ _ _)
 refine PL.mv rfl rfl rfl rfl rfl ?_
 refine PL.call (xs:=[_]) rfl rfl rfl rfl rfl rfl rfl (fun w hw=>c_decode hl w) ?_
 refine PL.mv rfl rfl rfl rfl rfl ?_
 refine PL.step rfl rfl rfl (PS.ext rfl rfl rfl) ?_
 refine PL.step rfl rfl rfl (PS.ext rfl rfl rfl) ?_
 refine PL.full rfl (Fa.alloc 3 (z:=(.agg #[.slice none 0 0,.slice none 0 0,.slice none 0 0])) rfl (by kernel_rfl) (by kernel_rfl) rfl rfl ?_)
 refine PL.full rfl (Fa.storeR rfl rfl rfl rfl rfl rfl (by kernel_rfl) rfl ?_)
 refine PL.mu rfl rfl rfl rfl rfl ?_
 refine PL.nil ?_
 refine(PW.seq ?_:PW _ _ _ _)
 refine(PW.seq ?_:PW _ _ _ _)
 rcases hd:decO l with _|t
 ·skip
  refine(PW.region ?_:PW _ _ _ _)
  refine PL.mv rfl rfl rfl rfl rfl ?_
  refine PL.step rfl rfl rfl (PS.not rfl rfl) ?_
  refine PL.nil ?_
  show PW _ _ _ _
  refine PW.cond (b:=true) (by rfl) (fun _=>?_) (fun h=>nomatch h)
  refine(PW.region ?_:PW _ _ _ _)
  refine PL.mv rfl rfl rfl rfl rfl ?_
  refine PL.call (xs:=[_]) rfl rfl rfl rfl rfl rfl rfl (fun w hw=>c_cut w) ?_
  refine PL.call (xs:=[]) rfl rfl rfl rfl rfl rfl rfl (fun w hw=>c_base w) ?_
  refine PL.call (xs:=[_,_]) rfl rfl rfl rfl rfl rfl rfl (fun w hw=>c_times (n:=l.take 32) (p:=base3) (by simp;omega) base3_ok w) ?_
  refine PL.full rfl (Fa.storeR rfl rfl rfl rfl rfl rfl (by kernel_rfl) rfl ?_)
  refine PL.nil ?_
  refine(PW.seq ?_:PW _ _ _ _)
  refine(PW.region ?_:PW _ _ _ _)
  refine PL.step rfl rfl rfl (PS.loadR (xs:=[_,_,_]) rfl rfl rfl rfl Tryz.underlying34 rfl (by kernel_rfl)) ?_
  refine PL.call (xs:=[_]) rfl rfl rfl rfl rfl rfl rfl (fun w hw=>FnAt.to (FnAt.les (c_encode (t:=ptT l) hok w) ⟨le_eq (by unfold ptT;rw[hd];rfl),trivial⟩) (le_eq (by rw[hg.encL]))) ?_
  refine PL.call (xs:=[_]) rfl rfl rfl rfl rfl rfl rfl (fun w hw=>p_decG (g:=g) w (tab.below hw.to_below)) ?_
  refine PL.mv rfl rfl rfl rfl rfl ?_
  refine PL.step rfl rfl rfl (PS.ext rfl rfl rfl) ?_
  refine PL.step rfl rfl rfl (PS.ext rfl rfl rfl) ?_
  refine PL.full rfl (Fa.alloc 4 (z:=(.agg #[.int .u64 0,.int .u64 0,.int .u64 0,.int .u64 0,.int .u64 0,.int .u64 0,.int .u64 0,.int .u64 0,.int .u64 0,.int .u64 0,.int .u64 0,.int .u64 0,.int .u64 0,.int .u64 0,.int .u64 0,.int .u64 0,.int .u64 0,.int .u64 0,.int .u64 0,.int .u64 0])) rfl (by kernel_rfl) (by kernel_rfl) rfl rfl ?_)
  refine PL.full rfl (Fa.storeH 20 rfl rfl rfl rfl rfl (pnt_row g) (by kernel_rfl) rfl ?_)
  refine PL.mu rfl rfl rfl rfl rfl ?_
  refine PL.nil ?_
  refine(PW.seq ?_:PW _ _ _ _)
  refine(PW.orders (by kernel_rfl) ?_:PW _ _ _ _)
  refine PO.at_ 0 [1] (by kernel_rfl) ?_
  refine allO.cons _ rfl rfl ?_ ?_
  ·refine GF.step rfl rfl rfl (PS.loadH (k:=20) rfl rfl rfl (row_sz (pnt_row g)) Tryz.underlying28 rfl (by kernel_rfl)) ?_
   refine PO.at_ 1 [2] (by kernel_rfl) ?_
   refine allO.cons _ rfl rfl ?_ ?_
   ·refine GF.step rfl rfl rfl (PS.loadR (xs:=[_,_,_]) rfl rfl rfl rfl Tryz.underlying34 rfl (by kernel_rfl)) ?_
    refine PO.at_ 2 [] (by kernel_rfl) ?_
    refine allO.cons _ rfl rfl ?_ ?_
    ·refine GF.full rfl (Fa.storeH 20 rfl rfl rfl rfl rfl (pnt_row g) (by kernel_rfl) rfl ?_)
     refine PO.at_ 3 [] (by kernel_rfl) ?_
     refine allO.cons _ rfl rfl ?_ ?_
     ·refine GF.full rfl (Fa.storeR rfl rfl rfl rfl rfl rfl (by kernel_rfl) rfl ?_)
      refine PO.end_ (by kernel_rfl) ?_
      refine(PW.ret ?_:PW _ _ _ _)
      exact Rt.as (Rt.wholeCell (k:=20) Tryz.results18 rfl rfl (row_sz (pnt_row g)) Tryz.underlying28 rfl (by kernel_rfl) rfl rfl Tryz.underlying34 rfl (by kernel_rfl)) (le_tup2 (le_refl _) (le_eq (by unfold ptT;rw[hd];rfl)))
     exact trivial
    exact trivial
   refine allO.cons _ rfl rfl ?_ ?_
   ·refine GF.full rfl (Fa.storeH 20 rfl rfl rfl rfl rfl (pnt_row g) (by kernel_rfl) rfl ?_)
    refine PO.at_ 1 [] (by kernel_rfl) ?_
    refine allO.cons _ rfl rfl ?_ ?_
    ·refine GF.step rfl rfl rfl (PS.loadR (xs:=[_,_,_]) rfl rfl rfl rfl Tryz.underlying34 rfl (by kernel_rfl)) ?_
     refine PO.at_ 3 [] (by kernel_rfl) ?_
     refine allO.cons _ rfl rfl ?_ ?_
     ·refine GF.full rfl (Fa.storeR rfl rfl rfl rfl rfl rfl (by kernel_rfl) rfl ?_)
      refine PO.end_ (by kernel_rfl) ?_
      refine(PW.ret ?_:PW _ _ _ _)
      exact Rt.as (Rt.wholeCell (k:=20) Tryz.results18 rfl rfl (row_sz (pnt_row g)) Tryz.underlying28 rfl (by kernel_rfl) rfl rfl Tryz.underlying34 rfl (by kernel_rfl)) (le_tup2 (le_refl _) (le_eq (by unfold ptT;rw[hd];rfl)))
     exact trivial
    exact trivial
   exact trivial
  refine allO.cons _ rfl rfl ?_ ?_
  ·refine GF.step rfl rfl rfl (PS.loadR (xs:=[_,_,_]) rfl rfl rfl rfl Tryz.underlying34 rfl (by kernel_rfl)) ?_
   refine PO.at_ 0 [] (by kernel_rfl) ?_
   refine allO.cons _ rfl rfl ?_ ?_
   ·refine GF.step rfl rfl rfl (PS.loadH (k:=20) rfl rfl rfl (row_sz (pnt_row g)) Tryz.underlying28 rfl (by kernel_rfl)) ?_
    refine PO.at_ 2 [] (by kernel_rfl) ?_
    refine allO.cons _ rfl rfl ?_ ?_
    ·refine GF.full rfl (Fa.storeH 20 rfl rfl rfl rfl rfl (pnt_row g) (by kernel_rfl) rfl ?_)
     refine PO.at_ 3 [] (by kernel_rfl) ?_
     refine allO.cons _ rfl rfl ?_ ?_
     ·refine GF.full rfl (Fa.storeR rfl rfl rfl rfl rfl rfl (by kernel_rfl) rfl ?_)
      refine PO.end_ (by kernel_rfl) ?_
      refine(PW.ret ?_:PW _ _ _ _)
      exact Rt.as (Rt.wholeCell (k:=20) Tryz.results18 rfl rfl (row_sz (pnt_row g)) Tryz.underlying28 rfl (by kernel_rfl) rfl rfl Tryz.underlying34 rfl (by kernel_rfl)) (le_tup2 (le_refl _) (le_eq (by unfold ptT;rw[hd];rfl)))
     exact trivial
    exact trivial
   exact trivial
  exact trivial
 ·skip
  refine(PW.region ?_:PW _ _ _ _)
  refine PL.mv rfl rfl rfl rfl rfl ?_
  refine PL.step rfl rfl rfl (PS.not rfl rfl) ?_
  refine PL.nil ?_
  show PW _ _ _ _
  refine PW.cond (b:=false) (by rfl) (fun h=>nomatch h) (fun _=>?_)
  refine(PW.skip ?_:PW _ _ _ _)
  refine(PW.seq ?_:PW _ _ _ _)
  refine(PW.region ?_:PW _ _ _ _)
  refine PL.step rfl rfl rfl (PS.loadR (xs:=[_,_,_]) rfl rfl rfl rfl Tryz.underlying34 rfl (by kernel_rfl)) ?_
  refine PL.call (xs:=[_]) rfl rfl rfl rfl rfl rfl rfl (fun w hw=>FnAt.to (FnAt.les (c_encode (t:=ptT l) hok w) ⟨le_eq (by unfold ptT;rw[hd];rfl),trivial⟩) (le_eq (by rw[hg.encL]))) ?_
  refine PL.call (xs:=[_]) rfl rfl rfl rfl rfl rfl rfl (fun w hw=>p_decG (g:=g) w (tab.below hw.to_below)) ?_
  refine PL.mv rfl rfl rfl rfl rfl ?_
  refine PL.step rfl rfl rfl (PS.ext rfl rfl rfl) ?_
  refine PL.step rfl rfl rfl (PS.ext rfl rfl rfl) ?_
  refine PL.full rfl (Fa.alloc 5 (z:=(.agg #[.int .u64 0,.int .u64 0,.int .u64 0,.int .u64 0,.int .u64 0,.int .u64 0,.int .u64 0,.int .u64 0,.int .u64 0,.int .u64 0,.int .u64 0,.int .u64 0,.int .u64 0,.int .u64 0,.int .u64 0,.int .u64 0,.int .u64 0,.int .u64 0,.int .u64 0,.int .u64 0])) rfl (by kernel_rfl) (by kernel_rfl) rfl rfl ?_)
  refine PL.full rfl (Fa.storeH 20 rfl rfl rfl rfl rfl (pnt_row g) (by kernel_rfl) rfl ?_)
  refine PL.mu rfl rfl rfl rfl rfl ?_
  refine PL.nil ?_
  refine(PW.seq ?_:PW _ _ _ _)
  refine(PW.orders (by kernel_rfl) ?_:PW _ _ _ _)
  refine PO.at_ 0 [1] (by kernel_rfl) ?_
  refine allO.cons _ rfl rfl ?_ ?_
  ·refine GF.step rfl rfl rfl (PS.loadH (k:=20) rfl rfl rfl (row_sz (pnt_row g)) Tryz.underlying28 rfl (by kernel_rfl)) ?_
   refine PO.at_ 1 [2] (by kernel_rfl) ?_
   refine allO.cons _ rfl rfl ?_ ?_
   ·refine GF.step rfl rfl rfl (PS.loadR (xs:=[_,_,_]) rfl rfl rfl rfl Tryz.underlying34 rfl (by kernel_rfl)) ?_
    refine PO.at_ 2 [] (by kernel_rfl) ?_
    refine allO.cons _ rfl rfl ?_ ?_
    ·refine GF.full rfl (Fa.storeH 20 rfl rfl rfl rfl rfl (pnt_row g) (by kernel_rfl) rfl ?_)
     refine PO.at_ 3 [] (by kernel_rfl) ?_
     refine allO.cons _ rfl rfl ?_ ?_
     ·refine GF.full rfl (Fa.storeR rfl rfl rfl rfl rfl rfl (by kernel_rfl) rfl ?_)
      refine PO.end_ (by kernel_rfl) ?_
      refine(PW.ret ?_:PW _ _ _ _)
      exact Rt.as (Rt.wholeCell (k:=20) Tryz.results18 rfl rfl (row_sz (pnt_row g)) Tryz.underlying28 rfl (by kernel_rfl) rfl rfl Tryz.underlying34 rfl (by kernel_rfl)) (le_tup2 (le_refl _) (le_eq (by unfold ptT;rw[hd];rfl)))
     exact trivial
    exact trivial
   refine allO.cons _ rfl rfl ?_ ?_
   ·refine GF.full rfl (Fa.storeH 20 rfl rfl rfl rfl rfl (pnt_row g) (by kernel_rfl) rfl ?_)
    refine PO.at_ 1 [] (by kernel_rfl) ?_
    refine allO.cons _ rfl rfl ?_ ?_
    ·refine GF.step rfl rfl rfl (PS.loadR (xs:=[_,_,_]) rfl rfl rfl rfl Tryz.underlying34 rfl (by kernel_rfl)) ?_
     refine PO.at_ 3 [] (by kernel_rfl) ?_
     refine allO.cons _ rfl rfl ?_ ?_
     ·refine GF.full rfl (Fa.storeR rfl rfl rfl rfl rfl rfl (by kernel_rfl) rfl ?_)
      refine PO.end_ (by kernel_rfl) ?_
      refine(PW.ret ?_:PW _ _ _ _)
      exact Rt.as (Rt.wholeCell (k:=20) Tryz.results18 rfl rfl (row_sz (pnt_row g)) Tryz.underlying28 rfl (by kernel_rfl) rfl rfl Tryz.underlying34 rfl (by kernel_rfl)) (le_tup2 (le_refl _) (le_eq (by unfold ptT;rw[hd];rfl)))
     exact trivial
    exact trivial
   exact trivial
  refine allO.cons _ rfl rfl ?_ ?_
  ·refine GF.step rfl rfl rfl (PS.loadR (xs:=[_,_,_]) rfl rfl rfl rfl Tryz.underlying34 rfl (by kernel_rfl)) ?_
   refine PO.at_ 0 [] (by kernel_rfl) ?_
   refine allO.cons _ rfl rfl ?_ ?_
   ·refine GF.step rfl rfl rfl (PS.loadH (k:=20) rfl rfl rfl (row_sz (pnt_row g)) Tryz.underlying28 rfl (by kernel_rfl)) ?_
    refine PO.at_ 2 [] (by kernel_rfl) ?_
    refine allO.cons _ rfl rfl ?_ ?_
    ·refine GF.full rfl (Fa.storeH 20 rfl rfl rfl rfl rfl (pnt_row g) (by kernel_rfl) rfl ?_)
     refine PO.at_ 3 [] (by kernel_rfl) ?_
     refine allO.cons _ rfl rfl ?_ ?_
     ·refine GF.full rfl (Fa.storeR rfl rfl rfl rfl rfl rfl (by kernel_rfl) rfl ?_)
      refine PO.end_ (by kernel_rfl) ?_
      refine(PW.ret ?_:PW _ _ _ _)
      exact Rt.as (Rt.wholeCell (k:=20) Tryz.results18 rfl rfl (row_sz (pnt_row g)) Tryz.underlying28 rfl (by kernel_rfl) rfl rfl Tryz.underlying34 rfl (by kernel_rfl)) (le_tup2 (le_refl _) (le_eq (by unfold ptT;rw[hd];rfl)))
     exact trivial
    exact trivial
   exact trivial
  exact trivial
end Go.Proofs.YtjimhjfjfpeojaaGreatDoor.Av
