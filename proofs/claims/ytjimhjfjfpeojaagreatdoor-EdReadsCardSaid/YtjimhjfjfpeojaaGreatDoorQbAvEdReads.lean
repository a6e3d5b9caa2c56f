/- Joined texts. -/
import Derived.Test.YtjimhjfjfpeojaaGreatDoorQbAvLw
set_option linter.unusedVariables false
namespace Go.Proofs.YtjimhjfjfpeojaaGreatDoor.Av
open Go.RowKit Go.Proofs.YtjimhjfjfpeojaaGreatDoor.Gn Go.Proofs.YtjimhjfjfpeojaaGreatDoor.Fd Go.Proofs.YtjimhjfjfpeojaaGreatDoor.Ed Go.Deep
set_option maxHeartbeats 4000000 in
set_option maxRecDepth 100000 in
theorem l_EdReads{l:List Nat}(hl:∀x∈l,x < 256)(w:World)(tab:TabE w)(ts:Sh.Tab w):FnAt Tryz.prog [.u64] w 3 [byt true l] (.lit (.bool true)):=by
 refine FnAt.of Tryz.f3 _ _ Tryz.func3 Tryz.ntmps3 rfl (by kernel_rfl) (fun _ _=>by kernel_rfl) fun O=>?_
 show PW _ _ _ ⟨[(0,.c (.dv _))],[]⟩
 refine(PW.seq ?_:PW _ _ _ _)
 refine(PW.region ?_:PW _ _ _ _)
 refine PL.mu rfl rfl rfl rfl rfl ?_
 refine PL.nil ?_
 refine(PW.seq ?_:PW _ _ _ _)
 refine(PW.seq ?_:PW _ _ _ _)
 refine(PW.region ?_:PW _ _ _ _)
 refine PL.mv rfl rfl rfl rfl rfl ?_
 refine PL.step rfl rfl rfl (PS.len (n:=l.length) rfl rfl Tryz.underlying22 (by decide) (by simp[bl])) ?_
 refine PL.step rfl rfl rfl (PS.gtr rfl rfl rfl) ?_
 refine PL.nil ?_
 show PW _ _ _ _
 refine PW.cond (by rfl) (fun hc12=>?_) (fun hc12=>?_)
 ·have:=hc12
  refine(PW.seq ?_:PW _ _ _ _)
  refine(PW.region ?_:PW _ _ _ _)
  refine PL.call (xs:=[]) rfl rfl rfl rfl rfl rfl rfl (fun w hw=>p_known w (tab.below hw.to_below) (ts.below hw.to_below)) ?_
  refine PL.mu rfl rfl rfl rfl rfl ?_
  refine PL.nil ?_
  refine(PW.ret ?_:PW _ _ _ _)
  exact Rt.as (Rt.one Tryz.results3 rfl) (le_refl _)
 have:=hc12
 refine(PW.skip ?_:PW _ _ _ _)
 refine(PW.seq ?_:PW _ _ _ _)
 rcases ed_cases hl with h32|⟨h32,hd,ht⟩|⟨p,t,g,h32,hd,ht,hp,hr,hok,hby⟩
 ·skip
  refine(PW.region ?_:PW _ _ _ _)
  refine PL.mv rfl rfl rfl rfl rfl ?_
  refine PL.call (xs:=[_]) rfl rfl rfl rfl rfl rfl rfl (fun w hw=>p_decL h32 w) ?_
  refine PL.mv rfl rfl rfl rfl rfl ?_
  refine PL.step rfl rfl rfl (PS.ext rfl rfl rfl) ?_
  refine PL.step rfl rfl rfl (PS.ext rfl rfl rfl) ?_
  refine PL.full rfl (Fa.alloc 1 (z:=(.agg #[.int .u64 0,.int .u64 0,.int .u64 0,.int .u64 0,.int .u64 0,.int .u64 0,.int .u64 0,.int .u64 0,.int .u64 0,.int .u64 0,.int .u64 0,.int .u64 0,.int .u64 0,.int .u64 0,.int .u64 0,.int .u64 0,.int .u64 0,.int .u64 0,.int .u64 0,.int .u64 0])) rfl (by kernel_rfl) (by kernel_rfl) rfl rfl ?_)
  refine PL.full rfl (Fa.storeH 20 rfl rfl rfl rfl rfl (nop_row) (by kernel_rfl) rfl ?_)
  refine PL.mu rfl rfl rfl rfl rfl ?_
  refine PL.nil ?_
  refine(PW.seq ?_:PW _ _ _ _)
  refine(PW.region ?_:PW _ _ _ _)
  refine PL.mv rfl rfl rfl rfl rfl ?_
  refine PL.call (xs:=[_]) rfl rfl rfl rfl rfl rfl rfl (fun w hw=>FnAt.to (c_decode hl w) (le_eq (by rw[show decO l=none from by unfold decO;rw[if_neg h32]]))) ?_
  refine PL.mv rfl rfl rfl rfl rfl ?_
  refine PL.step rfl rfl rfl (PS.ext rfl rfl rfl) ?_
  refine PL.step rfl rfl rfl (PS.ext rfl rfl rfl) ?_
  refine PL.full rfl (Fa.alloc 2 (z:=(.agg #[.slice none 0 0,.slice none 0 0,.slice none 0 0])) rfl (by kernel_rfl) (by kernel_rfl) rfl rfl ?_)
  refine PL.full rfl (Fa.storeR rfl rfl rfl rfl rfl rfl (by kernel_rfl) rfl ?_)
  refine PL.mu rfl rfl rfl rfl rfl ?_
  refine PL.nil ?_
  refine(PW.seq ?_:PW _ _ _ _)
  refine(PW.seq ?_:PW _ _ _ _)
  refine(PW.region ?_:PW _ _ _ _)
  refine PL.mv rfl rfl rfl rfl rfl ?_
  refine PL.step rfl rfl rfl (PS.len (n:=l.length) rfl rfl Tryz.underlying22 (by decide) (by simp[bl])) ?_
  refine PL.step rfl rfl rfl (PS.eq (y:=Bo true) (PS.neq rfl rfl rfl) (by rw[decide_eq_false (by omega)];rfl)) ?_
  refine PL.nil ?_
  show PW _ _ _ _
  refine PW.cond (b:=true) (by rfl) (fun _=>?_) (fun h=>nomatch h)
  refine(PW.seq ?_:PW _ _ _ _)
  refine(PW.region ?_:PW _ _ _ _)
  refine PL.mv rfl rfl rfl rfl rfl ?_
  refine PL.step rfl rfl rfl (PS.eql rfl rfl rfl) ?_
  refine PL.mv rfl rfl rfl rfl rfl ?_
  refine PL.stepW rfl rfl rfl rfl rfl (PS.loadH (k:=20) rfl rfl rfl (row_sz (nop_row)) Tryz.underlying28 rfl (by kernel_rfl)) ?_
  refine PL.stepW rfl rfl rfl rfl rfl (PS.as (y:=nop) (PS.build (xs:=[]) (zs:=[.int .u64 0,.int .u64 0,.int .u64 0,.int .u64 0,.int .u64 0,.int .u64 0,.int .u64 0,.int .u64 0,.int .u64 0,.int .u64 0,.int .u64 0,.int .u64 0,.int .u64 0,.int .u64 0,.int .u64 0,.int .u64 0,.int .u64 0,.int .u64 0,.int .u64 0,.int .u64 0]) [] _ rfl rfl Tryz.underlying28 (by kernel_rfl) (by kernel_rfl) (by kernel_rfl) rfl (by kernel_rfl) rfl) (agg_lit (l:=z20.toList))) ?_
  refine PL.stepW rfl rfl rfl rfl rfl (PS.bin (.bool true) rfl rfl rfl (fun w=>by kernel_rfl) (fun w=>by kernel_rfl)) ?_
  refine PL.pT rfl rfl rfl rfl rfl rfl ?_
  refine PL.mv rfl rfl rfl rfl rfl ?_
  refine PL.stepW rfl rfl rfl rfl rfl (PS.call (xs:=[]) rfl rfl rfl rfl (fun w hw=>p_known w (tab.below hw.to_below) (ts.below hw.to_below))) ?_
  refine PL.pT rfl rfl rfl rfl rfl rfl ?_
  refine PL.mu rfl rfl rfl rfl rfl ?_
  refine PL.nil ?_
  refine(PW.ret ?_:PW _ _ _ _)
  exact Rt.as (Rt.one Tryz.results3 rfl) (le_refl _)
 ·skip
  refine(PW.region ?_:PW _ _ _ _)
  refine PL.mv rfl rfl rfl rfl rfl ?_
  refine PL.call (xs:=[_]) rfl rfl rfl rfl rfl rfl rfl (fun w hw=>p_decN h32 hl hd w (tab.below hw.to_below)) ?_
  refine PL.mv rfl rfl rfl rfl rfl ?_
  refine PL.step rfl rfl rfl (PS.ext rfl rfl rfl) ?_
  refine PL.step rfl rfl rfl (PS.ext rfl rfl rfl) ?_
  refine PL.full rfl (Fa.alloc 3 (z:=(.agg #[.int .u64 0,.int .u64 0,.int .u64 0,.int .u64 0,.int .u64 0,.int .u64 0,.int .u64 0,.int .u64 0,.int .u64 0,.int .u64 0,.int .u64 0,.int .u64 0,.int .u64 0,.int .u64 0,.int .u64 0,.int .u64 0,.int .u64 0,.int .u64 0,.int .u64 0,.int .u64 0])) rfl (by kernel_rfl) (by kernel_rfl) rfl rfl ?_)
  refine PL.full rfl (Fa.storeH 20 rfl rfl rfl rfl rfl (nop_row) (by kernel_rfl) rfl ?_)
  refine PL.mu rfl rfl rfl rfl rfl ?_
  refine PL.nil ?_
  refine(PW.seq ?_:PW _ _ _ _)
  refine(PW.region ?_:PW _ _ _ _)
  refine PL.mv rfl rfl rfl rfl rfl ?_
  refine PL.call (xs:=[_]) rfl rfl rfl rfl rfl rfl rfl (fun w hw=>FnAt.to (c_decode hl w) (le_eq (by rw[ht]))) ?_
  refine PL.mv rfl rfl rfl rfl rfl ?_
  refine PL.step rfl rfl rfl (PS.ext rfl rfl rfl) ?_
  refine PL.step rfl rfl rfl (PS.ext rfl rfl rfl) ?_
  refine PL.full rfl (Fa.alloc 4 (z:=(.agg #[.slice none 0 0,.slice none 0 0,.slice none 0 0])) rfl (by kernel_rfl) (by kernel_rfl) rfl rfl ?_)
  refine PL.full rfl (Fa.storeR rfl rfl rfl rfl rfl rfl (by kernel_rfl) rfl ?_)
  refine PL.mu rfl rfl rfl rfl rfl ?_
  refine PL.nil ?_
  refine(PW.seq ?_:PW _ _ _ _)
  refine(PW.seq ?_:PW _ _ _ _)
  refine(PW.region ?_:PW _ _ _ _)
  refine PL.mv rfl rfl rfl rfl rfl ?_
  refine PL.step rfl rfl rfl (PS.len (n:=l.length) rfl rfl Tryz.underlying22 (by decide) (by simp[bl])) ?_
  refine PL.step rfl rfl rfl (PS.eq (y:=Bo false) (PS.neq rfl rfl rfl) (by rw[decide_eq_true (by omega)];rfl)) ?_
  refine PL.nil ?_
  show PW _ _ _ _
  refine PW.cond (b:=false) (by rfl) (fun h=>nomatch h) (fun _=>?_)
  refine(PW.skip ?_:PW _ _ _ _)
  refine(PW.seq ?_:PW _ _ _ _)
  refine(PW.seq ?_:PW _ _ _ _)
  refine(PW.region ?_:PW _ _ _ _)
  refine PL.mv rfl rfl rfl rfl rfl ?_
  refine PL.step rfl rfl rfl (PS.not rfl rfl) ?_
  refine PL.nil ?_
  show PW _ _ _ _
  refine PW.cond (b:=true) (by rfl) (fun _=>?_) (fun h=>nomatch h)
  refine(PW.seq ?_:PW _ _ _ _)
  refine(PW.region ?_:PW _ _ _ _)
  refine PL.mv rfl rfl rfl rfl rfl ?_
  refine PL.step rfl rfl rfl (PS.eql rfl rfl rfl) ?_
  refine PL.mv rfl rfl rfl rfl rfl ?_
  refine PL.stepW rfl rfl rfl rfl rfl (PS.loadH (k:=20) rfl rfl rfl (row_sz (nop_row)) Tryz.underlying28 rfl (by kernel_rfl)) ?_
  refine PL.stepW rfl rfl rfl rfl rfl (PS.as (y:=nop) (PS.build (xs:=[]) (zs:=[.int .u64 0,.int .u64 0,.int .u64 0,.int .u64 0,.int .u64 0,.int .u64 0,.int .u64 0,.int .u64 0,.int .u64 0,.int .u64 0,.int .u64 0,.int .u64 0,.int .u64 0,.int .u64 0,.int .u64 0,.int .u64 0,.int .u64 0,.int .u64 0,.int .u64 0,.int .u64 0]) [] _ rfl rfl Tryz.underlying28 (by kernel_rfl) (by kernel_rfl) (by kernel_rfl) rfl (by kernel_rfl) rfl) (agg_lit (l:=z20.toList))) ?_
  refine PL.stepW rfl rfl rfl rfl rfl (PS.bin (.bool true) rfl rfl rfl (fun w=>by kernel_rfl) (fun w=>by kernel_rfl)) ?_
  refine PL.pT rfl rfl rfl rfl rfl rfl ?_
  refine PL.mv rfl rfl rfl rfl rfl ?_
  refine PL.stepW rfl rfl rfl rfl rfl (PS.call (xs:=[]) rfl rfl rfl rfl (fun w hw=>p_known w (tab.below hw.to_below) (ts.below hw.to_below))) ?_
  refine PL.pT rfl rfl rfl rfl rfl rfl ?_
  refine PL.mu rfl rfl rfl rfl rfl ?_
  refine PL.nil ?_
  refine(PW.ret ?_:PW _ _ _ _)
  exact Rt.as (Rt.one Tryz.results3 rfl) (le_refl _)
 ·skip
  refine(PW.region ?_:PW _ _ _ _)
  refine PL.mv rfl rfl rfl rfl rfl ?_
  refine PL.call (xs:=[_]) rfl rfl rfl rfl rfl rfl rfl (fun w hw=>p_decS h32 hl hd w (tab.below hw.to_below)) ?_
  refine PL.mv rfl rfl rfl rfl rfl ?_
  refine PL.step rfl rfl rfl (PS.ext rfl rfl rfl) ?_
  refine PL.step rfl rfl rfl (PS.ext rfl rfl rfl) ?_
  refine PL.full rfl (Fa.alloc 5 (z:=(.agg #[.int .u64 0,.int .u64 0,.int .u64 0,.int .u64 0,.int .u64 0,.int .u64 0,.int .u64 0,.int .u64 0,.int .u64 0,.int .u64 0,.int .u64 0,.int .u64 0,.int .u64 0,.int .u64 0,.int .u64 0,.int .u64 0,.int .u64 0,.int .u64 0,.int .u64 0,.int .u64 0])) rfl (by kernel_rfl) (by kernel_rfl) rfl rfl ?_)
  refine PL.full rfl (Fa.storeH 20 rfl rfl rfl rfl rfl (kp_row p) (by kernel_rfl) rfl ?_)
  refine PL.mu rfl rfl rfl rfl rfl ?_
  refine PL.nil ?_
  refine(PW.seq ?_:PW _ _ _ _)
  refine(PW.region ?_:PW _ _ _ _)
  refine PL.mv rfl rfl rfl rfl rfl ?_
  refine PL.call (xs:=[_]) rfl rfl rfl rfl rfl rfl rfl (fun w hw=>FnAt.to (c_decode hl w) (le_eq (by rw[ht]))) ?_
  refine PL.mv rfl rfl rfl rfl rfl ?_
  refine PL.step rfl rfl rfl (PS.ext rfl rfl rfl) ?_
  refine PL.step rfl rfl rfl (PS.ext rfl rfl rfl) ?_
  refine PL.full rfl (Fa.alloc 6 (z:=(.agg #[.slice none 0 0,.slice none 0 0,.slice none 0 0])) rfl (by kernel_rfl) (by kernel_rfl) rfl rfl ?_)
  refine PL.full rfl (Fa.storeR rfl rfl rfl rfl rfl rfl (by kernel_rfl) rfl ?_)
  refine PL.mu rfl rfl rfl rfl rfl ?_
  refine PL.nil ?_
  refine(PW.seq ?_:PW _ _ _ _)
  refine(PW.seq ?_:PW _ _ _ _)
  refine(PW.region ?_:PW _ _ _ _)
  refine PL.mv rfl rfl rfl rfl rfl ?_
  refine PL.step rfl rfl rfl (PS.len (n:=l.length) rfl rfl Tryz.underlying22 (by decide) (by simp[bl])) ?_
  refine PL.step rfl rfl rfl (PS.eq (y:=Bo false) (PS.neq rfl rfl rfl) (by rw[decide_eq_true (by omega)];rfl)) ?_
  refine PL.nil ?_
  show PW _ _ _ _
  refine PW.cond (b:=false) (by rfl) (fun h=>nomatch h) (fun _=>?_)
  refine(PW.skip ?_:PW _ _ _ _)
  refine(PW.seq ?_:PW _ _ _ _)
  refine(PW.seq ?_:PW _ _ _ _)
  refine(PW.region ?_:PW _ _ _ _)
  refine PL.mv rfl rfl rfl rfl rfl ?_
  refine PL.step rfl rfl rfl (PS.not rfl rfl) ?_
  refine PL.nil ?_
  show PW _ _ _ _
  refine PW.cond (b:=false) (by rfl) (fun h=>nomatch h) (fun _=>?_)
  refine(PW.skip ?_:PW _ _ _ _)
  refine(PW.seq ?_:PW _ _ _ _)
  refine(PW.region ?_:PW _ _ _ _)
  refine PL.mv rfl rfl rfl rfl rfl ?_
  refine PL.step rfl rfl rfl (PS.eql rfl rfl rfl) ?_
  refine PL.mv rfl rfl rfl rfl rfl ?_
  refine PL.stepW rfl rfl rfl rfl rfl (PS.loadH (k:=20) rfl rfl rfl (row_sz (kp_row p)) Tryz.underlying28 rfl (by kernel_rfl)) ?_
  refine PL.stepW rfl rfl rfl rfl rfl (PS.loadR (xs:=[_,_,_]) rfl rfl rfl rfl Tryz.underlying34 rfl (by kernel_rfl)) ?_
  refine PL.stepW rfl rfl rfl rfl rfl (PS.call (xs:=[_,_]) rfl rfl rfl rfl (fun w hw=>FnAt.les (c_is (g:=g) (x:=t.x) (y:=t.y) (z:=t.z) hok.x hok.y hok.z true (fun q hq=>ris_eq hq hr true (by simp)) w) ⟨lit_pnt hp,le_refl _,trivial⟩)) ?_
  refine PL.pT rfl rfl rfl rfl rfl rfl ?_
  refine PL.mv rfl rfl rfl rfl rfl ?_
  refine PL.stepW rfl rfl rfl rfl rfl (PS.loadH (k:=20) rfl rfl rfl (row_sz (kp_row p)) Tryz.underlying28 rfl (by kernel_rfl)) ?_
  refine PL.stepW rfl rfl rfl rfl rfl (PS.call (xs:=[_]) rfl rfl rfl rfl (fun w hw=>FnAt.les (p_enc (g:=g) w) ⟨lit_pnt hp,trivial⟩)) ?_
  refine PL.stepW rfl rfl rfl rfl rfl (PS.moved (r:=.c _) rfl rfl) ?_
  refine PL.stepW rfl rfl rfl rfl rfl (PS.call (xs:=[_,_]) rfl rfl rfl rfl (fun w hw=>FnAt.to (c_samebytes (by_lt _ _) hl w) (bool_true (decide_eq_true hby)))) ?_
  refine PL.pT rfl rfl rfl rfl rfl rfl ?_
  refine PL.mv rfl rfl rfl rfl rfl ?_
  refine PL.stepW rfl rfl rfl rfl rfl (PS.loadH (k:=20) rfl rfl rfl (row_sz (kp_row p)) Tryz.underlying28 rfl (by kernel_rfl)) ?_
  refine PL.stepW rfl rfl rfl rfl rfl (PS.call (xs:=[_]) rfl rfl rfl rfl (fun w hw=>FnAt.les (p_on (g:=g) w (tab.below hw.to_below)) ⟨lit_pnt hp,trivial⟩)) ?_
  refine PL.pT rfl rfl rfl rfl rfl rfl ?_
  refine PL.mv rfl rfl rfl rfl rfl ?_
  refine PL.stepW rfl rfl rfl rfl rfl (PS.call (xs:=[]) rfl rfl rfl rfl (fun w hw=>p_known w (tab.below hw.to_below) (ts.below hw.to_below))) ?_
  refine PL.pT rfl rfl rfl rfl rfl rfl ?_
  refine PL.mu rfl rfl rfl rfl rfl ?_
  refine PL.nil ?_
  refine(PW.ret ?_:PW _ _ _ _)
  exact Rt.as (Rt.one Tryz.results3 rfl) (le_refl _)
theorem walk_edReads{w:World}(tab:TabE w∧Sh.Tab w)(A:Option Addr)(n c:Nat)(l:List Nat)(hb:BL w A n c l):Calls Tryz.prog 3 #[.slice A n c] w fun e w'=>e=.returned (.bool true)∧Below w.heap.size w w' :=
 (l_EdReads hb.2.2.1 w tab.1 tab.2).run (vs:=[.slice A n c]) rfl ⟨⟨_,rfl,bl_byt hb⟩,trivial⟩
end Go.Proofs.YtjimhjfjfpeojaaGreatDoor.Av
