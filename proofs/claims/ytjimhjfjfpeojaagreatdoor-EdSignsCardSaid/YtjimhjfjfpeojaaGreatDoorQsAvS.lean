/- Joined texts. -/
import Derived.Test.YtjimhjfjfpeojaaGreatDoorQsAvQ
set_option linter.unusedVariables false
namespace Go.Proofs.YtjimhjfjfpeojaaGreatDoor.Av
open Go.RowKit Go.Proofs.YtjimhjfjfpeojaaGreatDoor.Gn Go.Proofs.YtjimhjfjfpeojaaGreatDoor.Fd Go.Proofs.YtjimhjfjfpeojaaGreatDoor.Ed Go.Deep
set_option maxRecDepth 100000 in
theorem c_encode{t:T3}(ht:t.ok)(w:World):FnAt Tryz.prog [.u64] w 62 [t.dv] (byt true (encL t)):=by
 refine FnAt.of Tryz.f62 _ _ Tryz.func62 Tryz.ntmps62 rfl (by kernel_rfl) (fun _ _=>by kernel_rfl) fun O=>?_
 show PW _ _ _ ⟨[(0,.c (.dv _))],[]⟩
 refine(PW.seq ?_:PW _ _ _ _)
 refine(PW.region ?_:PW _ _ _ _)
 refine PL.full rfl (Fa.boxR 1 rfl rfl (by kernel_rfl) rfl rfl ?_)
 refine PL.mu rfl rfl rfl rfl rfl ?_
 refine PL.nil ?_
 refine(PW.seq ?_:PW _ _ _ _)
 refine(PW.region ?_:PW _ _ _ _)
 refine PL.step rfl rfl rfl (PS.fieldAddr 2 rfl rfl (fun _ _=>by kernel_rfl)) ?_
 refine PL.step rfl rfl rfl (PS.load rfl rfl rfl rfl Tryz.underlying32 rfl) ?_
 refine PL.call (xs:=[_]) rfl rfl rfl rfl rfl rfl rfl (fun w hw=>c_inv ht.z w) ?_
 refine PL.mu rfl rfl rfl rfl rfl ?_
 refine PL.nil ?_
 refine(PW.seq ?_:PW _ _ _ _)
 refine(PW.drawn 10 (by kernel_rfl) (by kernel_rfl) (by kernel_rfl) (by kernel_rfl) (by kernel_rfl) ?_:PW _ _ _ _)
 refine PD.step rfl rfl rfl (PS.fieldAddr 0 rfl rfl (fun _ _=>by kernel_rfl)) ?_
 refine PD.step rfl rfl rfl (PS.load rfl rfl rfl rfl Tryz.underlying32 rfl) ?_
 refine PD.mv rfl rfl rfl rfl rfl ?_
 refine PD.call (xs:=[_,_]) rfl rfl rfl rfl rfl rfl rfl (fun w hw=>(c_mul ht.x (lt_mod _) w:FnAt _ _ _ _ _ (num (encX t)))) ?_
 refine PD.step rfl rfl rfl (PS.fieldAddr 1 rfl rfl (fun _ _=>by kernel_rfl)) ?_
 refine PD.step rfl rfl rfl (PS.load rfl rfl rfl rfl Tryz.underlying32 rfl) ?_
 refine PD.mv rfl rfl rfl rfl rfl ?_
 refine PD.call (xs:=[_,_]) rfl rfl rfl rfl rfl rfl rfl (fun w hw=>(c_mul ht.y (lt_mod _) w:FnAt _ _ _ _ _ (num (encY t)))) ?_
 refine PD.mu rfl rfl rfl rfl rfl ?_
 refine PD.mu rfl rfl rfl rfl rfl ?_
 refine PD.nil ?_
 refine(PW.seq ?_:PW _ _ _ _)
 refine(PW.region ?_:PW _ _ _ _)
 refine PL.mv rfl rfl rfl rfl rfl ?_
 refine PL.full rfl (Fa.callOwn 12 (xs:=[_,_]) rfl rfl rfl (by kernel_rfl) (fun w hw=>c_bytes (v:=encY t) (m:=32) (lt_mod _) (by decide) w) (by kernel_rfl) rfl rfl ?_)
 refine PL.mu rfl rfl rfl rfl rfl ?_
 refine PL.nil ?_
 refine(PW.seq ?_:PW _ _ _ _)
 refine(PW.seq ?_:PW _ _ _ _)
 refine(PW.region ?_:PW _ _ _ _)
 refine PL.mv rfl rfl rfl rfl rfl ?_
 refine PL.step rfl rfl rfl (PS.len (n:=(dg (encX t)).length) rfl rfl Tryz.underlying32 (by decide) ((Nat.mul_one _).trans (num_len _).symm)) ?_
 refine PL.split rfl rfl rfl (PS.gtr rfl rfl rfl) (fun hs37=>?_) (fun hs37=>?_)
 ·have hpos:0 < (dg (encX t)).length:=by have:=of_decide_eq_true hs37;omega
  refine PL.mv rfl rfl rfl rfl rfl ?_
  refine PL.stepW rfl rfl rfl rfl rfl (PS.moved (r:=.c _) rfl rfl) ?_
  refine PL.stepW rfl rfl rfl rfl rfl (PS.index1 (i:=0) (.lit (.int .u64 (((dg (encX t)).getD 0 0:Nat):Int))) rfl rfl rfl Tryz.underlying32 (by kernel_rfl) (num_get hpos)) ?_
  refine PL.stepW rfl rfl rfl rfl rfl (PS.loadA rfl rfl Tryz.underlying24 rfl) ?_
  refine PL.stepW rfl rfl rfl rfl rfl (PS.remN (a:=(dg (encX t)).getD 0 0) (b:=2) rfl rfl rfl (by decide)) ?_
  refine PL.stepW rfl rfl rfl rfl rfl (PS.eql rfl rfl rfl) ?_
  refine PL.pT rfl rfl rfl rfl rfl rfl ?_
  refine PL.nil ?_
  show PW _ _ _ _
  refine PW.cond (by rfl) (fun hc47=>?_) (fun hc47=>?_)
  ·have ho:encX t%2=1:=by have h1:=of_decide_eq_true hc47;have:=dg_head _ hpos;omega
   have h31:(by_ (encY t) 32).getD 31 0 < 128:=by_31 (Nat.lt_trans (lt_mod _) (by rw[pp_eq];decide))
   refine(PW.region ?_:PW _ _ _ _)
   refine PL.mv rfl rfl rfl rfl rfl ?_
   refine PL.mv rfl rfl rfl rfl rfl ?_
   refine PL.step rfl rfl rfl (PS.indexOwn (i:=31) (k:=1) rfl rfl rfl rfl Tryz.underlying22 (by kernel_rfl) (by decide) (by simp[bl,by_length])) ?_
   refine PL.step rfl rfl rfl (PS.loadB (c:=.lit (.int .u8 (((by_ (encY t) 32).getD 31 0:Nat):Int))) rfl rfl rfl (byt_get (by rw[by_length];decide)) Tryz.underlying5 rfl) ?_
   refine PL.step rfl rfl rfl (PS.add ((((by_ (encY t) 32).getD 31 0+128:Nat)):Int) rfl rfl rfl (by rw[wu8 (by have:=h31;omega)];omega)) ?_
   refine PL.step rfl rfl rfl (PS.indexOwn (i:=31) (k:=1) rfl rfl rfl rfl Tryz.underlying22 (by kernel_rfl) (by decide) (by simp[bl,by_length])) ?_
   refine PL.full rfl (Fa.storeB rfl rfl rfl rfl (by simp[bl,by_length]) rfl (fun h=>by cases h) (by kernel_rfl) rfl ?_)
   refine PL.nil ?_
   refine(PW.seq ?_:PW _ _ _ _)
   refine PW.give 12 rfl ?_
   refine(PW.region ?_:PW _ _ _ _)
   refine PL.mv rfl rfl rfl rfl rfl ?_
   refine PL.mu rfl rfl rfl rfl rfl ?_
   refine PL.nil ?_
   refine(PW.ret ?_:PW _ _ _ _)
   exact Rt.as (Rt.one Tryz.results62 rfl) (by unfold encL;rw[if_pos ho];exact le_eq (by show _=DV.sq true 1 ((bl (top _)).map DV.lit);unfold top;rw[←byt_set]))
  have ho:¬encX t%2=1:=by have h1:=of_decide_eq_false hc47;have:=dg_head _ hpos;omega
  refine(PW.skip ?_:PW _ _ _ _)
  refine(PW.seq ?_:PW _ _ _ _)
  refine PW.give 12 rfl ?_
  refine(PW.region ?_:PW _ _ _ _)
  refine PL.mv rfl rfl rfl rfl rfl ?_
  refine PL.mu rfl rfl rfl rfl rfl ?_
  refine PL.nil ?_
  refine(PW.ret ?_:PW _ _ _ _)
  exact Rt.as (Rt.one Tryz.results62 rfl) (by unfold encL;rw[if_neg ho];exact le_refl _)
 have hpos:¬0 < (dg (encX t)).length:=by have:=of_decide_eq_false hs37;omega
 refine PL.mv rfl rfl rfl rfl rfl ?_
 refine PL.stepP rfl rfl rfl (by decide) rfl rfl ?_
 refine PL.stepP rfl rfl rfl (by decide) rfl rfl ?_
 refine PL.stepP rfl rfl rfl (by decide) rfl rfl ?_
 refine PL.stepP rfl rfl rfl (by decide) rfl rfl ?_
 refine PL.stepP rfl rfl rfl (by decide) rfl rfl ?_
 refine PL.pF rfl rfl rfl rfl rfl rfl ?_
 refine PL.nil ?_
 show PW _ _ _ _
 refine PW.cond (b:=false) (by rfl) (fun h=>nomatch h) (fun _=>?_)
 refine(PW.skip ?_:PW _ _ _ _)
 refine(PW.seq ?_:PW _ _ _ _)
 refine PW.give 12 rfl ?_
 refine(PW.region ?_:PW _ _ _ _)
 refine PL.mv rfl rfl rfl rfl rfl ?_
 refine PL.mu rfl rfl rfl rfl rfl ?_
 refine PL.nil ?_
 refine(PW.ret ?_:PW _ _ _ _)
 exact Rt.as (Rt.one Tryz.results62 rfl) (by unfold encL;rw[if_neg (by rw[dg_none hpos];decide)];exact le_refl _)
set_option maxRecDepth 100000 in
theorem c_base(w:World):FnAt Tryz.prog [] w 31 [] base3.dv:=by
 refine FnAt.of Tryz.f31 _ _ Tryz.func31 Tryz.ntmps31 rfl (by kernel_rfl) (fun _ _=>by kernel_rfl) fun O=>?_
 show PW _ _ _ ⟨[],[]⟩
 refine(PW.seq ?_:PW _ _ _ _)
 refine(PW.region ?_:PW _ _ _ _)
 refine PL.full rfl (Fa.alloc 1 (z:=(.agg #[.slice none 0 0,.slice none 0 0,.slice none 0 0])) rfl (by kernel_rfl) (by kernel_rfl) rfl rfl ?_)
 refine PL.nil ?_
 refine(PW.seq ?_:PW _ _ _ _)
 refine(PW.region ?_:PW _ _ _ _)
 refine PL.step rfl rfl rfl (PS.buildSlice (parts:=[(0,_),(1,_),(2,_),(3,_),(4,_),(5,_),(6,_),(7,_),(8,_),(9,_),(10,_),(11,_),(12,_),(13,_),(14,_),(15,_)]) (xs:=[_,_,_,_,_,_,_,_,_,_,_,_,_,_,_,_]) (z:=(.int .u64 0)) (bytes:=8) rfl rfl rfl Tryz.underlying32 (by kernel_rfl) rfl (by kernel_rfl) (by kernel_rfl)) ?_
 refine PL.mu rfl rfl rfl rfl rfl ?_
 refine PL.nil ?_
 refine(PW.seq ?_:PW _ _ _ _)
 refine(PW.region ?_:PW _ _ _ _)
 refine PL.step rfl rfl rfl (PS.buildSlice (parts:=[(0,_),(1,_),(2,_),(3,_),(4,_),(5,_),(6,_),(7,_),(8,_),(9,_),(10,_),(11,_),(12,_),(13,_),(14,_),(15,_)]) (xs:=[_,_,_,_,_,_,_,_,_,_,_,_,_,_,_,_]) (z:=(.int .u64 0)) (bytes:=8) rfl rfl rfl Tryz.underlying32 (by kernel_rfl) rfl (by kernel_rfl) (by kernel_rfl)) ?_
 refine PL.mu rfl rfl rfl rfl rfl ?_
 refine PL.nil ?_
 refine(PW.seq ?_:PW _ _ _ _)
 refine(PW.region ?_:PW _ _ _ _)
 refine PL.mv rfl rfl rfl rfl rfl ?_
 refine PL.mv rfl rfl rfl rfl rfl ?_
 refine PL.step rfl rfl rfl (PS.buildSlice (parts:=[(0,_)]) (xs:=[_]) (z:=(.int .u64 0)) (bytes:=8) rfl rfl rfl Tryz.underlying32 (by kernel_rfl) rfl (by kernel_rfl) (by kernel_rfl)) ?_
 refine PL.step rfl rfl rfl (PS.build (xs:=[_,_,_]) (zs:=[.slice none 0 0,.slice none 0 0,.slice none 0 0]) [0,1,2] _ rfl rfl Tryz.underlying34 (by kernel_rfl) (by kernel_rfl) (by kernel_rfl) rfl (by kernel_rfl) rfl) ?_
 refine PL.full rfl (Fa.storeR rfl rfl rfl rfl rfl rfl (by kernel_rfl) rfl ?_)
 refine PL.nil ?_
 refine(PW.ret ?_:PW _ _ _ _)
 exact Rt.as (Rt.cell Tryz.results31 rfl rfl Tryz.underlying34 rfl (by kernel_rfl)) (le_pt (le_dg (l:=[54554,36645,11616,51542,42930,38181,51040,26924,56412,64982,57905,49316,21502,52590,14035,8553]) (by decide +kernel)) (le_dg (l:=[26200,26214,26214,26214,26214,26214,26214,26214,26214,26214,26214,26214,26214,26214,26214,26214]) (by decide +kernel)) le_one)
set_option maxRecDepth 100000 in
theorem c_samebytes{r s:Bool}{l k:List Nat}(hl:∀x∈l,x < 256)(hk:∀x∈k,x < 256)(w:World):FnAt Tryz.prog [] w 15 [byt r l,byt s k] (.lit (.bool (decide (l=k)))):=by
 refine FnAt.of Tryz.f15 _ _ Tryz.func15 Tryz.ntmps15 rfl (by kernel_rfl) (fun _ _=>by kernel_rfl) fun O=>?_
 show PW _ _ _ ⟨[(0,.c (.dv _)),(1,.c (.dv _))],[]⟩
 refine(PW.seq ?_:PW _ _ _ _)
 refine(PW.region ?_:PW _ _ _ _)
 refine PL.mu rfl rfl rfl rfl rfl ?_
 refine PL.nil ?_
 refine(PW.seq ?_:PW _ _ _ _)
 refine(PW.region ?_:PW _ _ _ _)
 refine PL.mv rfl rfl rfl rfl rfl ?_
 refine PL.step rfl rfl rfl (PS.str (l:=l) rfl rfl Tryz.underlying22 Tryz.underlying5 Tryz.underlying9) ?_
 refine PL.mv rfl rfl rfl rfl rfl ?_
 refine PL.step rfl rfl rfl (PS.str (l:=k) rfl rfl Tryz.underlying22 Tryz.underlying5 Tryz.underlying9) ?_
 refine PL.step rfl rfl rfl (PS.seq rfl rfl rfl) ?_
 refine PL.mu rfl rfl rfl rfl rfl ?_
 refine PL.nil ?_
 refine(PW.ret ?_:PW _ _ _ _)
 exact Rt.as (Rt.one Tryz.results15 rfl) (bool_le (txt_dec hl hk))
end Go.Proofs.YtjimhjfjfpeojaaGreatDoor.Av
