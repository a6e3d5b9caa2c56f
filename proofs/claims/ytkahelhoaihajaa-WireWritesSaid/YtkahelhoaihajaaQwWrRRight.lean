/- Joined texts. -/
import Derived.Test.YtkahelhoaihajaaQwWrBytesB
set_option linter.unusedVariables false
namespace Go.Proofs.Ytkahelhoaihajaa.Wr
open Go.RowKit Go.Proofs.Ytkahelhoaihajaa.Gn Go.Proofs.Ytkahelhoaihajaa.Fd Go.Deep
theorem rights_drop{ks:List Tv}{k:Nat}{t:Tv}(ht:ks[k]?=some t):rights (ks.drop k)=(right t && rights (ks.drop (k+1))):=by
 obtain⟨h,e⟩:=List.getElem?_eq_some_iff.1 ht
 rw[List.drop_eq_getElem_cons h,e];rfl
theorem kid_at{ks:List Tv}{A:Option Addr}{w wr:World}{k:Nat}{t:Tv}(hs:Sl w A (4*ks.length) (flat ks))(ht:ks[k]?=some t)(hb:Below w.heap.size w wr):∃ad,A=some ad∧∀j v,t.row[j]?=some v→wr.cell? ((ad.add (4*k)).add j)=some v:=by
 have h0:t.row[0]?=some t.row[0]!:=by cases t;rfl
 obtain⟨ad,e,-⟩:=hs.2 _ _ (flat_get ks k 0 t _ ht h0)
 refine⟨ad,e,fun j v hv=>?_⟩
 obtain⟨ad',e',hc⟩:=hs.2 _ _ (flat_get ks k j t v ht hv)
 obtain rfl:ad=ad':=by rw[e] at e';injection e'
 rw[ad_add]
 exact(hb.cell (cell_lt hc)).trans hc
set_option maxHeartbeats 8000000 in
set_option maxRecDepth 100000 in
theorem RRight_any{w:World}{v:Tv}(h:Ok w v):∀u,Below w.heap.size w u→Calls Try.prog 16 #[v.val] u (RiQ (right v) u):=by
 induction h with
 | @mk K N r A c ks hn hr hs hm hc h0 hk ih =>
 intro u hb
 obtain⟨rA,L,rc,rl⟩:=r
 obtain⟨M,hM⟩:∃M,ks.length=M:=⟨_,rfl⟩
 have HM:=Lib.hid hM
 have R1:right (.mk K N (rA,L,rc,rl) A c ks)=if K=1 then decide (L=0) && decide (M=0) else if K=2 then decide (N=0) && decide (M=0) else if K=3 then decide (N=0) && decide (L=0) && rights ks else false:=by rw[right,hM]
 have HB:=Lib.hid (below_one u (.cells #[.int .i64 K,.int .u64 (N:Int),.slice rA L rc,.slice A M c] 26))
 have D0:=Lib.hid (Bl.new_ u 26 #[.int .i64 K,.int .u64 (N:Int),.slice rA L rc,.slice A M c])
 show Calls _ _ #[.agg #[.int .i64 K,.int .u64 (N:Int),.slice rA L rc,.slice A ks.length c]] u _
 rw[hM] at hm ⊢
 have IH:=Lib.hid ih
 have HS:=Lib.hid hs
 have HU:=Lib.hid hb
 clear ih hk hr h0 hs hM hb hc hn
 by_cases l1:K < 1
 ·rw[R1,if_neg (by omega),if_neg (by omega),if_neg (by omega)]
  clear R1 IH HS
  go_enter Try.func16,Try.ntmps16
  go_wp2_with fail
  go_ret
  exact⟨rfl,HB.out⟩
 by_cases l3:3 < K
 ·rw[R1,if_neg (by omega),if_neg (by omega),if_neg (by omega)]
  clear R1 IH HS
  go_enter Try.func16,Try.ntmps16
  go_wp2_with fail
  go_ret
  exact⟨rfl,HB.out⟩
 by_cases k1:K=1
 ·subst k1
  rw[R1,if_pos rfl]
  clear R1 l1 l3
  by_cases b0:L=0
  ·subst b0
   by_cases m0:M=0
   ·subst m0
    show Calls _ _ _ u (RiQ true u)
    clear IH HS
    go_enter Try.func16,Try.ntmps16
    go_wp2_with fail
    go_loopw [3] (fun i wr=>∃k:Nat,k≤0∧i=.int .i64 (k:Int)∧Hid (rights ks=rights (ks.drop k))∧Hid (Below (u.heap.size+1) (u.alloc (.cells #[.int .i64 1,.int .u64 (N:Int),.slice rA 0 rc,.slice A 0 c] 26)) wr)) (fun i _=>0 - (intOf i).toNat)
    case atStart=>exact⟨0,Nat.zero_le _,rfl,Lib.hid rfl,Lib.hid (by have h:=Below.refl (u.alloc (.cells #[.int .i64 1,.int .u64 (N:Int),.slice rA 0 rc,.slice A 0 c] 26)).heap.size (u.alloc (.cells #[.int .i64 1,.int .u64 (N:Int),.slice rA 0 rc,.slice A 0 c] 26));simpa using h)⟩
    case round =>
     obtain⟨k,hk,rfl,HD,HW⟩:=hrel
     have DD:=Lib.hid (show Bl wr u.heap.size 26 _ from(HW.out.block _ (by omega)).trans D0.out)
     have z3:wr.cell? ⟨u.heap.size,3,none⟩=some (.slice A 0 c):=DD.out.cell_ rfl
     obtain rfl:k=0:=by omega
     have q0:¬((0:Nat):Int) < ((0:Nat):Int):=by omega
     go_wp2_with fail
     go_ret
     exact⟨rfl,HB.out.trans (HW.out.mono (Nat.le_succ _))⟩
   ·rw[decide_eq_false m0,Bool.and_false]
    have m1:0 < (M:Int):=by omega
    clear m0 IH HS
    go_enter Try.func16,Try.ntmps16
    go_wp2_with fail
    go_ret
    exact⟨rfl,HB.out⟩
  ·rw[decide_eq_false b0,Bool.false_and]
   have b1:0 < (L:Int):=by omega
   clear b0 IH HS
   go_enter Try.func16,Try.ntmps16
   go_wp2_with fail
   go_ret
   exact⟨rfl,HB.out⟩
 by_cases k2:K=2
 ·subst k2
  rw[R1,if_neg (by decide),if_pos rfl]
  clear R1 l1 l3 k1
  by_cases b0:N=0
  ·subst b0
   by_cases m0:M=0
   ·subst m0
    show Calls _ _ _ u (RiQ true u)
    clear IH HS
    go_enter Try.func16,Try.ntmps16
    go_wp2_with fail
    go_loopw [3] (fun i wr=>∃k:Nat,k≤0∧i=.int .i64 (k:Int)∧Hid (rights ks=rights (ks.drop k))∧Hid (Below (u.heap.size+1) (u.alloc (.cells #[.int .i64 2,.int .u64 ((0:Nat):Int),.slice rA L rc,.slice A 0 c] 26)) wr)) (fun i _=>0 - (intOf i).toNat)
    case atStart=>exact⟨0,Nat.zero_le _,rfl,Lib.hid rfl,Lib.hid (by have h:=Below.refl (u.alloc (.cells #[.int .i64 2,.int .u64 ((0:Nat):Int),.slice rA L rc,.slice A 0 c] 26)).heap.size (u.alloc (.cells #[.int .i64 2,.int .u64 ((0:Nat):Int),.slice rA L rc,.slice A 0 c] 26));simpa using h)⟩
    case round =>
     obtain⟨k,hk,rfl,HD,HW⟩:=hrel
     have DD:=Lib.hid (show Bl wr u.heap.size 26 _ from(HW.out.block _ (by omega)).trans D0.out)
     have z3:wr.cell? ⟨u.heap.size,3,none⟩=some (.slice A 0 c):=DD.out.cell_ rfl
     obtain rfl:k=0:=by omega
     have q0:¬((0:Nat):Int) < ((0:Nat):Int):=by omega
     go_wp2_with fail
     go_ret
     exact⟨rfl,HB.out.trans (HW.out.mono (Nat.le_succ _))⟩
   ·rw[decide_eq_false m0,Bool.and_false]
    have m1:0 < (M:Int):=by omega
    clear m0 IH HS
    go_enter Try.func16,Try.ntmps16
    go_wp2_with fail
    go_ret
    exact⟨rfl,HB.out⟩
  ·rw[decide_eq_false b0,Bool.false_and]
   have b1:¬(N:Int)=0:=by omega
   clear b0 IH HS
   go_enter Try.func16,Try.ntmps16
   go_wp2_with fail
   go_ret
   exact⟨rfl,HB.out⟩
 obtain rfl:K=3:=by omega
 rw[R1,if_neg (by decide),if_neg (by decide),if_pos rfl]
 clear R1 l1 l3 k1 k2
 by_cases b0:N=0
 ·subst b0
  by_cases b2:L=0
  ·subst b2
   have e00:((0:Nat):Int)=0:=rfl
   rw[e00] at D0 HB ⊢
   show Calls _ _ _ u (RiQ (true && true && rights ks) u)
   rw[Bool.true_and,Bool.true_and]
   go_enter Try.func16,Try.ntmps16
   go_wp2_with fail
   go_loopw [3] (fun i wr=>∃k:Nat,k≤M∧i=.int .i64 (k:Int)∧Hid (rights ks=rights (ks.drop k))∧Hid (Below (u.heap.size+1) (u.alloc (.cells #[.int .i64 3,.int .u64 0,.slice rA 0 rc,.slice A M c] 26)) wr)) (fun i _=>M - (intOf i).toNat)
   case atStart=>exact⟨0,Nat.zero_le _,rfl,Lib.hid rfl,Lib.hid (by have h:=Below.refl (u.alloc (.cells #[.int .i64 3,.int .u64 0,.slice rA 0 rc,.slice A M c] 26)).heap.size (u.alloc (.cells #[.int .i64 3,.int .u64 0,.slice rA 0 rc,.slice A M c] 26));simpa using h)⟩
   case round =>
    obtain⟨k,hk,rfl,HD,HW⟩:=hrel
    have DD:=Lib.hid (show Bl wr u.heap.size 26 _ from(HW.out.block _ (by omega)).trans D0.out)
    have z3:wr.cell? ⟨u.heap.size,3,none⟩=some (.slice A M c):=DD.out.cell_ rfl
    by_cases hlt:k < M
    ·obtain⟨t,ht⟩:∃t,ks[k]?=some t:=⟨_,List.getElem?_eq_getElem (by have:=HM.out;omega)⟩
     have q0:(k:Int) < (M:Int):=by omega
     have WB:=HU.out.trans ((HB.out.trans (HW.out.mono (Nat.le_succ _))).mono HU.out.size)
     obtain⟨ad,rfl,hcl⟩:=kid_at HS.out ht WB
     obtain⟨ae,hae⟩:∃ae,ad.add (k*4)=ae:=⟨_,rfl⟩
     rw[Nat.mul_comm,hae] at hcl
     have CR:=Lib.hid (IH.out _ (List.mem_of_getElem? ht) _ WB)
     have SP:=Lib.hid (show rights (ks.drop k)=(right t && rights (ks.drop (k+1))) from rights_drop ht)
     cases t with
     |mk K2 N2 r2 B2' d2 us =>
     have c0:wr.cell? ae=some (.int .i64 K2):=by have:=hcl 0 _ rfl;rwa [ad_zero] at this
     have c1:wr.cell? ⟨ae.block,ae.off+1,none⟩=some (.int .u64 N2):=by have:=hcl 1 _ rfl;rwa [ad_pos _ (by decide)] at this
     have c2:wr.cell? ⟨ae.block,ae.off+2,none⟩=some (.slice r2.1 r2.2.1 r2.2.2.1):=by have:=hcl 2 _ rfl;rwa [ad_pos _ (by decide)] at this
     have c3:wr.cell? ⟨ae.block,ae.off+3,none⟩=some (.slice B2' us.length d2):=by have:=hcl 3 _ rfl;rwa [ad_pos _ (by decide)] at this
     clear hcl ht WB
     cases hrt:right (.mk K2 N2 r2 B2' d2 us) with
     |true =>
      rw[hrt] at CR SP
      go_wp2_with (go_at_call 16;(refine CR.out.mono ?_);rintro e w1 ⟨rfl,hb1⟩;have B2:=Lib.hid (HW.out.trans (hb1.mono (by have:=HW.out.size;simpa using this)));clear hb1)
      exact⟨⟨k+1,by omega,by go_num,Lib.hid (by rw[HD.out,SP.out,Bool.true_and]),B2⟩,by simp[intOf];omega⟩
     |false =>
      rw[hrt] at CR SP
      go_wp2_with (go_at_call 16;(refine CR.out.mono ?_);rintro e w1 ⟨rfl,hb1⟩;have B2:=Lib.hid (HW.out.trans (hb1.mono (by have:=HW.out.size;simpa using this)));clear hb1)
      go_ret
      exact⟨by rw[HD.out,SP.out,Bool.false_and];rfl,HB.out.trans (B2.out.mono (Nat.le_succ _))⟩
    ·obtain rfl:k=M:=by omega
     have q0:¬(k:Int) < (k:Int):=by omega
     have e:rights ks=true:=by rw[HD.out,List.drop_eq_nil_of_le (by have:=HM.out;omega)];rfl
     have HE:=Lib.hid e
     clear e
     go_wp2_with fail
     go_ret
     exact⟨by rw[HE.out];rfl,HB.out.trans (HW.out.mono (Nat.le_succ _))⟩
  ·rw[decide_eq_false b2,Bool.and_false,Bool.false_and]
   have b1:0 < (L:Int):=by omega
   clear b2 IH HS
   go_enter Try.func16,Try.ntmps16
   go_wp2_with fail
   go_ret
   exact⟨rfl,HB.out⟩
 ·rw[decide_eq_false b0,Bool.false_and,Bool.false_and]
  have b1:¬(N:Int)=0:=by omega
  clear b0 IH HS
  go_enter Try.func16,Try.ntmps16
  go_wp2_with fail
  go_ret
  exact⟨rfl,HB.out⟩
end Go.Proofs.Ytkahelhoaihajaa.Wr
