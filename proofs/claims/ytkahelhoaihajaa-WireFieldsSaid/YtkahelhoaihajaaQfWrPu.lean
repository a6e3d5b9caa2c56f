/- Joined texts. -/
import Derived.Test.YtkahelhoaihajaaQfWrRead
import Derived.Test.YtkahelhoaihajaaQfGnEq
import Derived.Test.YtkahelhoaihajaaQfWrTvalE
set_option linter.unusedVariables false
namespace Go.Proofs.Ytkahelhoaihajaa.Wr
open Go.RowKit Go.Proofs.Ytkahelhoaihajaa.Gn Go.Proofs.Ytkahelhoaihajaa.Fd Go.Deep
theorem wf_u64{x:Int}(h:(Lit.int .u64 x).wf):0≤x∧x≤18446744073709551615:=by
 simpa[Lit.wf,IntKind.min,IntKind.max,IntKind.signed,IntKind.bits] using h
theorem bl_pc{w:World}{A:Option Addr}{n c:Nat}{l:List Nat}(h:BL w A n c l):Pc w (A,n,c,l):=by
 obtain⟨h1,h2,h3,h4,h5⟩:=h
 have e:l.length=n:=by have:=h1.1;rwa [bl_length] at this
 exact⟨e.symm,by rw[show((A,n,c,l):Rw).2.2.2.length=n from e];exact h1,h3,by rw[show((A,n,c,l):Rw).2.2.2.length=n from e];exact h5,h4⟩
end Go.Proofs.Ytkahelhoaihajaa.Wr
namespace Go.Proofs.Ytkahelhoaihajaa.Wr
open Go.RowKit Go.Proofs.Ytkahelhoaihajaa.Gn Go.Proofs.Ytkahelhoaihajaa.Fd Go.Deep
set_option maxHeartbeats 4000000 in
set_option maxRecDepth 100000 in
theorem RSame_any{w0:World}{v:Tv}(hv:Ok w0 v):∀ {v2:Tv},Ok w0 v2→∀u,Below w0.heap.size w0 u→Calls Try.prog 22 #[v.val,v2.val] u (SmQ (sn (nd v) (nd v2)) u):=by
 induction hv with
 | @mk K N r A c ks hn hr hs hm hc h0 hk ih =>
 intro v2 hv2 u hu
 cases hv2 with
 | @mk K2 N2 r2 B d ls hn2 hr2 hs2 hm2 hc2 h02 hk2 =>
 have EN:sn (nd (.mk K N r A c ks)) (nd (.mk K2 N2 r2 B d ls))=(decide (K=K2) && decide (N=N2) && decide (r.2.2.2=r2.2.2.2) && sns (nds ks) (nds ls)):=by rw[nd,nd,sn]
 obtain⟨U,hU⟩:∃U,((u.alloc (.cells #[.int .i64 K,.int .u64 (N:Int),.slice r.1 r.2.1 r.2.2.1,.slice A ks.length c] 26)).alloc (.cells #[.int .i64 K2,.int .u64 (N2:Int),.slice r2.1 r2.2.1 r2.2.2.1,.slice B ls.length d] 26))=U:=⟨_,rfl⟩
 have AX:=Lib.hid (show Below u.heap.size u U from by rw[←hU];exact((Below.refl _ u).alloc (Nat.le_refl _) _).alloc (by simp) _)
 have UB:=Lib.hid (hu.trans (AX.out.mono hu.size))
 have NA:=Lib.hid (show Bl U u.heap.size 26 #[.int .i64 K,.int .u64 (N:Int),.slice r.1 r.2.1 r.2.2.1,.slice A ks.length c] from by rw[←hU];exact(Bl.new_ u _ _).alloc _)
 have NB:=Lib.hid (show Bl U (u.heap.size+1) 26 #[.int .i64 K2,.int .u64 (N2:Int),.slice r2.1 r2.2.1 r2.2.2.1,.slice B ls.length d] from by rw[←hU];exact Bl.new' (g:=u.heap.size+1) _ _ (by simp))
 have r1:=run_txt (P:=Try.prog) U 23 9 5 Try.underlying23 Try.underlying5 Try.underlying9 r.1 r.2.1 r.2.2.1 r.2.2.2 (by have h:=(hr.below UB.out).row;have e:=hr.len;rw[←e] at h;exact h)
 have r2_:=run_txt (P:=Try.prog) U 23 9 5 Try.underlying23 Try.underlying5 Try.underlying9 r2.1 r2.2.1 r2.2.2.1 r2.2.2.2 (by have h:=(hr2.below UB.out).row;have e:=hr2.len;rw[←e] at h;exact h)
 obtain⟨sa,hsa⟩:∃s,s=txt r.2.2.2:=⟨_,rfl⟩
 obtain⟨sb,hsb⟩:∃s,s=txt r2.2.2.2:=⟨_,rfl⟩
 have ESB:(sa.toList == sb.toList)=decide (r.2.2.2=r2.2.2.2):=by
  rw[hsa,hsb,ByteArray.toList_eq,ByteArray.toList_eq,Bool.eq_iff_iff,beq_iff_eq,decide_eq_true_eq]
  exact⟨fun h=>txt_inj hr.lt hr2.lt (Go.WideShapes.bytes_inj h),fun h=>by rw[h]⟩
 rw[←hsa] at r1
 rw[←hsb] at r2_
 have IH:=Lib.hid (fun t ht s hs' u' hu'=>ih t ht (hk2 s hs') u' hu')
 have a0:U.cell? ⟨u.heap.size,0,none⟩=some (.int .i64 K):=NA.out.cell_ rfl
 have a1:U.cell? ⟨u.heap.size,1,none⟩=some (.int .u64 (N:Int)):=NA.out.cell_ rfl
 have a2:U.cell? ⟨u.heap.size,2,none⟩=some (.slice r.1 r.2.1 r.2.2.1):=NA.out.cell_ rfl
 have a3:U.cell? ⟨u.heap.size,3,none⟩=some (.slice A ks.length c):=NA.out.cell_ rfl
 have b0:U.cell? ⟨u.heap.size+1,0,none⟩=some (.int .i64 K2):=NB.out.cell_ rfl
 have b1:U.cell? ⟨u.heap.size+1,1,none⟩=some (.int .u64 (N2:Int)):=NB.out.cell_ rfl
 have b2:U.cell? ⟨u.heap.size+1,2,none⟩=some (.slice r2.1 r2.2.1 r2.2.2.1):=NB.out.cell_ rfl
 have b3:U.cell? ⟨u.heap.size+1,3,none⟩=some (.slice B ls.length d):=NB.out.cell_ rfl
 show Calls _ _ #[.agg #[.int .i64 K,.int .u64 (N:Int),.slice r.1 r.2.1 r.2.2.1,.slice A ks.length c],.agg #[.int .i64 K2,.int .u64 (N2:Int),.slice r2.1 r2.2.1 r2.2.2.1,.slice B ls.length d]] u _
 obtain⟨R,hR⟩:∃R,sn (nd (.mk K N r A c ks)) (nd (.mk K2 N2 r2 B d ls))=R:=⟨_,rfl⟩
 rw[hR]
 have ER:R=(decide (K=K2) && decide (N=N2) && decide (r.2.2.2=r2.2.2.2) && sns (nds ks) (nds ls)):=hR.symm.trans EN
 have HS:=Lib.hid hs
 have HS2:=Lib.hid hs2
 clear hn hr hs hc h0 hk ih hn2 hr2 hs2 hm2 hc2 h02 hk2 EN hR hsa hsb
 by_cases k1:K=K2
 ·subst k1
  by_cases n1:N=N2
  ·subst n1
   by_cases q1:r.2.2.2=r2.2.2.2
   ·rw[decide_eq_true q1] at ESB
    have ER2:R=sns (nds ks) (nds ls):=by rw[ER,decide_eq_true rfl,decide_eq_true rfl,decide_eq_true q1];rfl
    have HR:=Lib.hid ER2
    clear ER q1 ER2
    obtain⟨m,hm1⟩:∃m,ks.length=m:=⟨_,rfl⟩
    obtain⟨n,hn1⟩:∃n,ls.length=n:=⟨_,rfl⟩
    have HM:=Lib.hid hm1
    have HN:=Lib.hid hn1
    by_cases hmn:m=n
    ·subst hmn
     rw[hm1] at hm a3
     rw[hn1] at b3
     have hU2:(u.alloc (.cells #[.int .i64 K,.int .u64 (N:Int),.slice r.1 r.2.1 r.2.2.1,.slice A m c] 26)).alloc (.cells #[.int .i64 K,.int .u64 (N:Int),.slice r2.1 r2.2.1 r2.2.2.1,.slice B m d] 26)=U:=by rw[←hU,hm1,hn1]
     have NA2:=Lib.hid (show Bl U u.heap.size 26 #[.int .i64 K,.int .u64 (N:Int),.slice r.1 r.2.1 r.2.2.1,.slice A m c] from by have h:=NA.out;rwa [hm1] at h)
     have NB2:=Lib.hid (show Bl U (u.heap.size+1) 26 #[.int .i64 K,.int .u64 (N:Int),.slice r2.1 r2.2.1 r2.2.2.1,.slice B m d] from by have h:=NB.out;rwa [hn1] at h)
     rw[hm1,hn1]
     clear hU hm1 hn1 NA NB
     go_enter Try.func22,Try.ntmps22
     go_wp2_with fail
     clear a0 a1 a2 a3 b0 b1 b2 b3 r1 r2_ ESB
     go_loopg [5] m (fun g1 vi wr=>∃j:Nat,vi=.int .i64 (j:Int)∧j≤m∧m - j≤g1∧Hid (R=sns (nds (ks.drop j)) (nds (ls.drop j)))∧Hid (Below U.heap.size U wr))
     case atStart=>exact⟨0,rfl,Nat.zero_le _,Nat.le_refl _,Lib.hid HR.out,Lib.hid (Below.refl _ _)⟩
     case round =>
      obtain⟨j,rfl,hj,hg,EJ,BJ⟩:=hrel
      have a3:wr.cell? ⟨u.heap.size,3,none⟩=some (.slice A m c):=(NA2.out.below' BJ.out).cell_ rfl
      have b3:wr.cell? ⟨u.heap.size+1,3,none⟩=some (.slice B m d):=(NB2.out.below' BJ.out).cell_ rfl
      by_cases hlt:j < m
      ·obtain⟨t,ht⟩:∃t,ks[j]?=some t:=⟨_,List.getElem?_eq_getElem (by have:=HM.out;omega)⟩
       obtain⟨s,hs⟩:∃s,ls[j]?=some s:=⟨_,List.getElem?_eq_getElem (by have:=HN.out;omega)⟩
       have q0:(j:Int) < (m:Int):=by omega
       have WB:Below w0.heap.size w0 wr:=UB.out.trans (BJ.out.mono UB.out.size)
       have EX:R=(sn (nd t) (nd s) && sns (nds (ks.drop (j+1))) (nds (ls.drop (j+1)))):=by rw[EJ.out,drop_at ht,drop_at hs,nds,nds,sns]
       have IT:=IH.out t (List.mem_of_getElem? ht) s (List.mem_of_getElem? hs)
       obtain⟨b,hb⟩:∃b,sn (nd t) (nd s)=b:=⟨_,rfl⟩
       rw[hb] at IT EX
       obtain⟨K3,N3,r3,B3,cc3,us3⟩:=t
       obtain⟨K4,N4,r4,B4,cc4,us4⟩:=s
       have CI:=Lib.hid (show ∀q,Calls Try.prog 22 #[.agg #[.int .i64 K3,.int .u64 (N3:Int),.slice r3.1 r3.2.1 r3.2.2.1,.slice B3 us3.length cc3],.agg #[.int .i64 K4,.int .u64 (N4:Int),.slice r4.1 r4.2.1 r4.2.2.1,.slice B4 us4.length cc4]] (wr.drewN q) (fun e w'=>e=.returned (.bool b)∧Below wr.heap.size wr w') from fun q=>(IT (wr.drewN q) (below_drewN WB q)).mono fun e w' ⟨h1,h2⟩=>⟨h1,(below_drewN (Below.refl _ wr) q).trans h2⟩)
       obtain⟨ad,rfl,ae,hae,c0,c1,c2,c3,l1⟩:=kid_cells HS.out ht WB
       obtain⟨ad2,rfl,ae2,hae2,d0,d1,d2,d3,l2⟩:=kid_cells HS2.out hs WB
       have EX2:=Lib.hid EX
       clear ht hs hb IT EX
       cases b with
       |true =>
        go_wp2_with fail
        go_region_with (go_at_call 22;(refine(CI.out _).mono ?_);rintro e w1 ⟨rfl,hb1⟩;have B1:=Lib.hid hb1;clear hb1)
        all_goals go_wp2_with fail
        all_goals(
         go_roundg (m - (j+1))
         case measure=>omega
         case rel=>exact⟨j+1,by go_num,by omega,Nat.le_refl _,Lib.hid (by rw[EX2.out,Bool.true_and]),Lib.hid (BJ.out.trans (B1.out.mono BJ.out.size))⟩)
       |false =>
        go_wp2_with fail
        go_region_with (go_at_call 22;(refine(CI.out _).mono ?_);rintro e w1 ⟨rfl,hb1⟩;have B1:=Lib.hid hb1;clear hb1)
        all_goals go_wp2_with fail
        all_goals(
         go_ret
         exact⟨by rw[EX2.out,Bool.false_and];rfl,AX.out.trans ((BJ.out.trans (B1.out.mono BJ.out.size)).mono AX.out.size)⟩)
      ·obtain rfl:j=m:=by omega
       have q0:¬(j:Int) < (j:Int):=by omega
       have E2:=Lib.hid (show R=true from by rw[EJ.out,List.drop_eq_nil_of_le (by have:=HM.out;omega),List.drop_eq_nil_of_le (by have:=HN.out;omega)];rfl)
       go_wp2_with fail
       go_ret
       exact⟨by rw[E2.out];rfl,AX.out.trans (BJ.out.mono AX.out.size)⟩
    ·have E2:=Lib.hid (show R=false from by rw[HR.out];exact sns_len _ _ (by rw[nds_len,nds_len,hm1,hn1];exact hmn))
     have q0:¬(ks.length:Int)=(ls.length:Int):=by omega
     clear hm1 hn1 hmn
     go_enter Try.func22,Try.ntmps22
     go_wp2_with fail
     go_ret
     exact⟨by rw[E2.out];rfl,AX.out⟩
   ·rw[decide_eq_false q1] at ESB
    have E2:=Lib.hid (show R=false from by rw[ER,decide_eq_false q1,Bool.and_false,Bool.false_and])
    clear ER q1
    go_enter Try.func22,Try.ntmps22
    go_wp2_with fail
    go_ret
    exact⟨by rw[E2.out];rfl,AX.out⟩
  ·have E2:=Lib.hid (show R=false from by rw[ER,decide_eq_false n1];simp)
   have q1:¬(N:Int)=(N2:Int):=by omega
   clear ER n1 r1 r2_ ESB
   go_enter Try.func22,Try.ntmps22
   go_wp2_with fail
   go_ret
   exact⟨by rw[E2.out];rfl,AX.out⟩
 ·have E2:=Lib.hid (show R=false from by rw[ER,decide_eq_false k1];simp)
  clear ER r1 r2_ ESB
  go_enter Try.func22,Try.ntmps22
  go_wp2_with fail
  go_ret
  exact⟨by rw[E2.out];rfl,AX.out⟩
end Go.Proofs.Ytkahelhoaihajaa.Wr
