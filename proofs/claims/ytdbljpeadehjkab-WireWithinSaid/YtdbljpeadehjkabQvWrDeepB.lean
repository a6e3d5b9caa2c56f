/- Joined texts. -/
import Derived.Test.YtdbljpeadehjkabQvWrDeep
set_option linter.unusedVariables false
namespace Go.Proofs.Ytdbljpeadehjkab.Wr
open Go.RowKit Go.Proofs.Ytdbljpeadehjkab.Gn Go.Proofs.Ytdbljpeadehjkab.Fd Go.Deep
set_option maxHeartbeats 4000000 in
set_option maxRecDepth 100000 in
theorem own_lim(a b c d:Int)(w:World):Calls Try.prog 15 #[.agg #[.int .i64 a,.int .i64 b,.int .i64 c,.int .i64 d]] w fun e w'=>e=.returned (lim a b c d)∧Below w.heap.size w w':=by
 have HB:=Lib.hid (((below_one w (.cells #[.int .i64 a,.int .i64 b,.int .i64 c,.int .i64 d] 39)).trans ((below_one (w.alloc (.cells #[.int .i64 a,.int .i64 b,.int .i64 c,.int .i64 d] 39)) (.cells #[.int .i64 a,.int .i64 b,.int .i64 c,.int .i64 d] 33)).mono (by simp))))
 have HL:=Lib.hid (show Bl ((w.alloc (.cells #[.int .i64 a,.int .i64 b,.int .i64 c,.int .i64 d] 39)).alloc (.cells #[.int .i64 a,.int .i64 b,.int .i64 c,.int .i64 d] 33)) (w.heap.size+1) 33 #[.int .i64 a,.int .i64 b,.int .i64 c,.int .i64 d] from Bl.new' _ _ (by simp))
 go_enter Try.func15,Try.ntmps15
 go_wp2_with fail
 exact⟨rfl,_,results_c rfl _ _ _ ⟨w.heap.size+1,0,none⟩ _ (by kernel_rfl) (run_loadVar_row _ (w.heap.size+1) 33 33 _ (0,0) _ HL.out Try.underlying33 rfl size40),rfl,HB.out⟩
theorem szns_append(a b:List Nd):szns (a ++ b)=szns a+szns b:=by
 induction a with
 |nil=>simp[szns]
 |cons x a ih=>rw[List.cons_append,szns,szns,ih];omega
theorem szns_take(ks:List Tv)(j:Nat):szns (nds (ks.take j))≤szns (nds ks):=by
 have h:nds ks=nds (ks.take j) ++ nds (ks.drop j):=by rw[nds_map,nds_map,nds_map,←List.map_append,List.take_append_drop]
 rw[h,szns_append];omega
set_option maxHeartbeats 4000000 in
set_option maxRecDepth 100000 in
theorem deepest_any{w0:World}{v:Tv}(hv:Ok w0 v):szn (nd v)≤1000000→∀u,Below w0.heap.size w0 u→Calls Try.prog 18 #[v.val] u fun e w'=>e=.returned (.tuple #[.int .i64 (dpn (nd v):Nat),.int .i64 (ctn (nd v):Nat),.int .i64 (ean (nd v):Nat)])∧Below u.heap.size u w':=by
 induction hv with
 | @mk K n r A c ks hn hr hs hm hc h0 hk ih =>
 intro hz u hu
 obtain⟨m,hm'⟩:∃m,ks.length=m:=⟨_,rfl⟩
 have HM:=Lib.hid hm'
 have IH:=Lib.hid ih
 have HS:=Lib.hid hs
 have HU:=Lib.hid hu
 have e1:dpn (nd (.mk K n r A c ks))=dpns (nds ks)+1:=by rw[nd,dpn]
 have e2:ctn (nd (.mk K n r A c ks))=1+ctns (nds ks):=by rw[nd,ctn]
 have hl:r.2.1=r.2.2.2.length:=hr.len
 have e3:ean (nd (.mk K n r A c ks))=if r.2.1 < eans (nds ks) then eans (nds ks) else r.2.1:=by rw[nd,ean,hl]
 have hz2:1+r.2.1+szns (nds ks)≤1000000:=by rw[nd,szn] at hz;omega
 have SB:=Lib.hid (dpns_sz (nds ks))
 have ZK:∀t∈ks,szn (nd t)≤szns (nds ks):=fun t ht=>by
  have h1:=(nd_all t (hk t ht)).2.2.2
  have h2:=(nds_all ks hk).2.2.2
  rw[←h1,←h2];exact sz_mem ht
 have HZK:=Lib.hid ZK
 rw[e1,e2,e3]
 obtain⟨D,hD⟩:∃D,dpns (nds ks)=D:=⟨_,rfl⟩
 obtain⟨C,hC⟩:∃C,ctns (nds ks)=C:=⟨_,rfl⟩
 obtain⟨E,hE⟩:∃E,(if r.2.1 < eans (nds ks) then eans (nds ks) else r.2.1)=E:=⟨_,rfl⟩
 rw[hD,hC,hE]
 have HD:=Lib.hid hD
 have HC:=Lib.hid hC
 have HE:=Lib.hid hE
 show Calls _ _ #[.agg #[.int .i64 K,.int .u64 (n:Int),.slice r.1 r.2.1 r.2.2.1,.slice A ks.length c]] u _
 rw[hm']
 have N0:=Lib.hid (Bl.new_ u 26 #[.int .i64 K,.int .u64 (n:Int),.slice r.1 r.2.1 r.2.2.1,.slice A m c])
 have B0:=Lib.hid (below_one u (.cells #[.int .i64 K,.int .u64 (n:Int),.slice r.1 r.2.1 r.2.2.1,.slice A m c] 26))
 obtain⟨L,hL⟩:∃L,r.2.1=L:=⟨_,rfl⟩
 rw[hL] at N0 B0 HE hz2 ⊢
 have hm9:m≤1000000:=by omega
 clear hz ih hs hu e1 e2 e3 hl ZK hD hC hE hm' hn hr hm hc h0 hk hL
 go_enter Try.func18,Try.ntmps18
 go_wp2_with fail
 go_quiet (fail)
 go_wp2_with fail
 go_loopg [5,6,7,8] m (fun g1 vd vn ve vi wr=>∃(j d1 c1 e1:Nat),vd=.int .i64 (d1:Int)∧vn=.int .i64 (c1:Int)∧ve=.int .i64 (e1:Int)∧vi=.int .i64 (j:Int)∧j≤m∧m - j≤g1∧Hid (d1=dpns (nds (ks.take j)))∧Hid (c1=1+ctns (nds (ks.take j)))∧Hid (e1=if L < eans (nds (ks.take j)) then eans (nds (ks.take j)) else L)∧Hid (Below (u.heap.size+1) (u.alloc (.cells #[.int .i64 K,.int .u64 (n:Int),.slice r.1 L r.2.2.1,.slice A m c] 26)) wr))
 case atStart=>exact⟨0,0,1,L,rfl,rfl,rfl,rfl,Nat.zero_le _,Nat.le_refl _,Lib.hid rfl,Lib.hid rfl,Lib.hid (by rw[List.take_zero,nds,eans,if_neg (Nat.not_lt_zero _)]),Lib.hid (below_drewN (Below.refl _ _) nq)⟩
 case round =>
  obtain⟨j,d1,c1,e1,rfl,rfl,rfl,rfl,hj,hg,DJ,CJ,EJ,BJ⟩:=hrel
  have ND:=Lib.hid (show Bl wr u.heap.size 26 _ from(BJ.out.block _ (by omega)).trans N0.out)
  have z3:wr.cell? ⟨u.heap.size,3,none⟩=some (.slice A m c):=ND.out.cell_ rfl
  by_cases hlt:j < m
  ·obtain⟨t,ht⟩:∃t,ks[j]?=some t:=⟨_,List.getElem?_eq_getElem (by have:=HM.out;omega)⟩
   have q0:(j:Int) < (m:Int):=by omega
   have WB:Below w0.heap.size w0 wr:=HU.out.trans ((B0.out.trans (BJ.out.mono (Nat.le_succ _))).mono HU.out.size)
   have hmem:=List.mem_of_getElem? ht
   have zt:szn (nd t)≤szns (nds ks):=HZK.out t hmem
   have CT:=Lib.hid (IH.out t hmem (by omega) wr WB)
   have SN:=Lib.hid (show nds (ks.take (j+1))=nds (ks.take j) ++ [nd t] from by rw[nds_map,nds_map,List.take_add_one,ht,List.map_append];rfl)
   have SZ:=dpn_sz (nd t)
   have hd1:d1≤1000000:=by
    have h1:=DJ.out
    have h2:=dpns_sz (nds (ks.take j))
    have h3:szns (nds (ks.take j))≤szns (nds ks):=szns_take ks j
    omega
   have hc1:c1≤1000001:=by
    have h1:=CJ.out
    have h2:=dpns_sz (nds (ks.take j))
    have h3:szns (nds (ks.take j))≤szns (nds ks):=szns_take ks j
    omega
   obtain⟨a1,ha1⟩:∃a,dpn (nd t)=a:=⟨_,rfl⟩
   obtain⟨a2,ha2⟩:∃a,ctn (nd t)=a:=⟨_,rfl⟩
   obtain⟨a3,ha3⟩:∃a,ean (nd t)=a:=⟨_,rfl⟩
   rw[ha1,ha2,ha3] at CT SZ
   have A1:=Lib.hid ha1
   have A2:=Lib.hid ha2
   have A3:=Lib.hid ha3
   have a2b:a2≤1000000:=by omega
   obtain⟨K2,N2,r2,B2,cc2,us2⟩:=t
   obtain⟨ad,rfl,ae,hae,c0,c1',c2,c3,l1⟩:=kid_cells HS.out ht WB
   clear ht hmem zt SZ ha1 ha2 ha3 WB hz2
   by_cases g1':d1 < a1
   ·have p1:(d1:Int) < (a1:Int):=by omega
    by_cases g3:e1 < a3
    ·have p3:(e1:Int) < (a3:Int):=by omega
     go_wp2_with (go_at_call 18;(refine CT.out.mono ?_);rintro e w1 ⟨rfl,hb1⟩;have B1:=Lib.hid hb1;clear hb1)
     go_roundg (m - (j+1))
     case measure=>omega
     case rel =>
      refine⟨j+1,a1,c1+a2,a3,rfl,by go_num,rfl,by go_num,by omega,Nat.le_refl _,Lib.hid ?_,Lib.hid ?_,Lib.hid ?_,Lib.hid (BJ.out.trans (B1.out.mono (by have:=BJ.out.size;simpa using this)))⟩
      ·rw[SN.out,dpns_snoc,A1.out,←DJ.out,if_pos (by omega)]
      ·rw[SN.out,ctns_snoc,A2.out,CJ.out];omega
      ·have h:=EJ.out
       rw[SN.out,eans_snoc,A3.out]
       split at h <;> split <;> (try split) <;> (try split) <;> omega
    ·have p3:¬(e1:Int) < (a3:Int):=by omega
     go_wp2_with (go_at_call 18;(refine CT.out.mono ?_);rintro e w1 ⟨rfl,hb1⟩;have B1:=Lib.hid hb1;clear hb1)
     go_roundg (m - (j+1))
     case measure=>omega
     case rel =>
      refine⟨j+1,a1,c1+a2,e1,rfl,by go_num,rfl,by go_num,by omega,Nat.le_refl _,Lib.hid ?_,Lib.hid ?_,Lib.hid ?_,Lib.hid (BJ.out.trans (B1.out.mono (by have:=BJ.out.size;simpa using this)))⟩
      ·rw[SN.out,dpns_snoc,A1.out,←DJ.out,if_pos (by omega)]
      ·rw[SN.out,ctns_snoc,A2.out,CJ.out];omega
      ·have h:=EJ.out
       rw[SN.out,eans_snoc,A3.out]
       split at h <;> split <;> (try split) <;> (try split) <;> omega
   ·have p1:¬(d1:Int) < (a1:Int):=by omega
    by_cases g3:e1 < a3
    ·have p3:(e1:Int) < (a3:Int):=by omega
     go_wp2_with (go_at_call 18;(refine CT.out.mono ?_);rintro e w1 ⟨rfl,hb1⟩;have B1:=Lib.hid hb1;clear hb1)
     go_roundg (m - (j+1))
     case measure=>omega
     case rel =>
      refine⟨j+1,d1,c1+a2,a3,rfl,by go_num,rfl,by go_num,by omega,Nat.le_refl _,Lib.hid ?_,Lib.hid ?_,Lib.hid ?_,Lib.hid (BJ.out.trans (B1.out.mono (by have:=BJ.out.size;simpa using this)))⟩
      ·rw[SN.out,dpns_snoc,A1.out,←DJ.out,if_neg (by omega)]
      ·rw[SN.out,ctns_snoc,A2.out,CJ.out];omega
      ·have h:=EJ.out
       rw[SN.out,eans_snoc,A3.out]
       split at h <;> split <;> (try split) <;> (try split) <;> omega
    ·have p3:¬(e1:Int) < (a3:Int):=by omega
     go_wp2_with (go_at_call 18;(refine CT.out.mono ?_);rintro e w1 ⟨rfl,hb1⟩;have B1:=Lib.hid hb1;clear hb1)
     go_roundg (m - (j+1))
     case measure=>omega
     case rel =>
      refine⟨j+1,d1,c1+a2,e1,rfl,by go_num,rfl,by go_num,by omega,Nat.le_refl _,Lib.hid ?_,Lib.hid ?_,Lib.hid ?_,Lib.hid (BJ.out.trans (B1.out.mono (by have:=BJ.out.size;simpa using this)))⟩
      ·rw[SN.out,dpns_snoc,A1.out,←DJ.out,if_neg (by omega)]
      ·rw[SN.out,ctns_snoc,A2.out,CJ.out];omega
      ·have h:=EJ.out
       rw[SN.out,eans_snoc,A3.out]
       split at h <;> split <;> (try split) <;> (try split) <;> omega
  ·obtain rfl:j=m:=by omega
   have q0:¬(j:Int) < (j:Int):=by omega
   have e:ks.take j=ks:=List.take_of_length_le (by have:=HM.out;omega)
   rw[e] at DJ CJ EJ
   have hd1:d1≤1000000:=by have h1:=DJ.out;have h2:=SB.out;omega
   go_wp2_with fail
   go_ret3
   have h1:d1=D:=DJ.out.trans HD.out
   have h2:c1=1+C:=by rw[CJ.out,HC.out]
   have h3:e1=E:=EJ.out.trans HE.out
   subst h1 h2 h3
   exact⟨by simp,B0.out.trans (BJ.out.mono (Nat.le_succ _))⟩
end Go.Proofs.Ytdbljpeadehjkab.Wr
