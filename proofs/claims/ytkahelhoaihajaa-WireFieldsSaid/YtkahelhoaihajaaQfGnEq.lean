/- Joined texts. -/
import Derived.Test.YtkahelhoaihajaaQfPuA
import Derived.Test.YtkahelhoaihajaaQfWrCopyB
set_option linter.unusedVariables false
namespace Go.Proofs.Ytkahelhoaihajaa.Gn
open Go.RowKit Go.Proofs.Ytkahelhoaihajaa.Fd Go.Deep
set_option maxHeartbeats 1000000 in
theorem Equal_any{w:World}{A B:Option Addr}{n m c d:Nat}{l k:List Nat}(ha:Sl w A n (bl l))(hb:Sl w B m (bl k))(hl:∀x∈l,x < 256)(hk:∀x∈k,x < 256) :
  Calls Try.prog 63 #[.slice A n c,.slice B m d] w fun e w'=>e=.returned (.bool (decide (l=k)))∧w=w':=by
 have h1:=run_txt w _ _ _ Try.underlying23 Try.underlying5 Try.underlying9 A n c l ha
 have h2:=run_txt w _ _ _ Try.underlying23 Try.underlying5 Try.underlying9 B m d k hb
 have e:((txt l).toList == (txt k).toList)=decide (l=k):=by
  rw[Bool.eq_iff_iff,beq_iff_eq,decide_eq_true_iff,ByteArray.toList_eq,ByteArray.toList_eq]
  exact⟨fun h=>txt_inj hl hk (ByteArray.ext (Array.toList_inj.1 h)),fun h=>by rw[h]⟩
 generalize decide (l=k)=r at *
 generalize txt l=s at *
 generalize txt k=t at *
 clear ha hb hl hk
 go_enter Try.func63,Try.ntmps63
 go_wp2
 go_ret
 exact⟨by simp[←e],rfl⟩
end Go.Proofs.Ytkahelhoaihajaa.Gn
namespace Go.Proofs.Ytkahelhoaihajaa.Wr
open Go.RowKit Go.Proofs.Ytkahelhoaihajaa.Gn Go.Proofs.Ytkahelhoaihajaa.Fd Go.Deep
mutual
def sn:Nd→Nd→Bool
 |.mk k n b ks,.mk k' n' b' ks'=>decide (k=k') && decide (n=n') && decide (b=b') && sns ks ks'
def sns:List Nd→List Nd→Bool
 | [],[]=>true
 |x :: xs,y :: ys=>sn x y && sns xs ys
 | [],_ :: _=>false
 |_ :: _,[]=>false
end
mutual
theorem sn_eq:∀(a b:Nd),sn a b=true↔a=b
 |.mk k n b ks,.mk k' n' b' ks'=>by
  have h:=sns_eq ks ks'
  rw[sn]
  simp only[Bool.and_eq_true,decide_eq_true_eq,h]
  constructor
  ·rintro⟨⟨⟨rfl,rfl⟩,rfl⟩,rfl⟩;rfl
  ·intro e;injection e with h1 h2 h3 h4;exact⟨⟨⟨h1,h2⟩,h3⟩,h4⟩
theorem sns_eq:∀(a b:List Nd),sns a b=true↔a=b
 | [],[]=>by simp[sns]
 |x :: xs,y :: ys=>by
  have h1:=sn_eq x y
  have h2:=sns_eq xs ys
  rw[sns,Bool.and_eq_true,h1,h2]
  constructor
  ·rintro⟨rfl,rfl⟩;rfl
  ·intro e;injection e with h1 h2;exact⟨h1,h2⟩
 | [],_ :: _=>by simp[sns]
 |_ :: _,[]=>by simp[sns]
end
theorem sns_len:∀(a b:List Nd),a.length≠b.length→sns a b=false
 | [],[],h=>(h rfl).elim
 |x :: xs,y :: ys,h=>by rw[sns,sns_len xs ys (by simpa using h),Bool.and_false]
 | [],_ :: _,_=>by simp[sns]
 |_ :: _,[],_=>by simp[sns]
theorem drop_at{ks:List Tv}{j:Nat}{t:Tv}(h:ks[j]?=some t):ks.drop j=t :: ks.drop (j+1):=by
 have hl:=(List.getElem?_eq_some_iff.1 h).1
 rw[List.drop_eq_getElem_cons hl,show ks[j]'hl=t from by have:=List.getElem?_eq_getElem hl;rw[h] at this;injection this with this;exact this.symm]
theorem kid_cells{ks:List Tv}{A:Option Addr}{w wr:World}{k:Nat}{K:Int}{N:Nat}{r:Rw}{B:Option Addr}{cc:Nat}{us:List Tv}(hs:Sl w A (4*ks.length) (flat ks))(ht:ks[k]?=some (.mk K N r B cc us))(hb:Below w.heap.size w wr) :
  ∃ad,A=some ad∧∃ae,ad.add (k*4)=ae∧wr.cell? ae=some (.int .i64 K)∧wr.cell? ⟨ae.block,ae.off+1,none⟩=some (.int .u64 N)∧wr.cell? ⟨ae.block,ae.off+2,none⟩=some (.slice r.1 r.2.1 r.2.2.1)∧wr.cell? ⟨ae.block,ae.off+3,none⟩=some (.slice B us.length cc)∧ae.block < w.heap.size:=by
 obtain⟨ad,e,hcl⟩:=kid_at hs ht hb
 obtain⟨ad',e',hcl'⟩:=kid_at hs ht (Below.refl _ w)
 rw[e] at e';cases e'
 refine⟨ad,e,_,rfl,?_⟩
 rw[Nat.mul_comm] at hcl hcl'
 refine⟨by have:=hcl 0 _ rfl;rwa [ad_zero] at this,by have:=hcl 1 _ rfl;rwa [ad_pos _ (by decide)] at this,by have:=hcl 2 _ rfl;rwa [ad_pos _ (by decide)] at this,by have:=hcl 3 _ rfl;rwa [ad_pos _ (by decide)] at this,?_⟩
 have h:=cell_lt (hcl' 0 _ rfl)
 rw[add_block,add_block] at h
 rwa [add_block]
abbrev SmQ(b:Bool)(w:World)(e:Ending)(w':World):Prop:=e=.returned (.bool b)∧Below w.heap.size w w'
set_option maxHeartbeats 4000000 in
set_option maxRecDepth 100000 in
theorem esame_any{w0:World}{ks ls:List Tv}{A B:Option Addr}(hs:Sl w0 A (4*ks.length) (flat ks))(hl:Sl w0 B (4*ls.length) (flat ls))(hz:ks.length≤1000000)
  (ih:∀t∈ks,∀s∈ls,∀u',Below w0.heap.size w0 u'→Calls Try.prog 29 #[t.val,s.val] u' (SmQ (sn (nd t) (nd s)) u')) (c d:Nat) (u:World) (hbu:Below w0.heap.size w0 u) :
  Calls Try.prog 64 #[.slice A ks.length c,.slice B ls.length d,.func (.func 29) #[] #[]] u (SmQ (sns (nds ks) (nds ls)) u):=by
 obtain⟨m,hm⟩:∃m,ks.length=m:=⟨_,rfl⟩
 obtain⟨n,hn⟩:∃n,ls.length=n:=⟨_,rfl⟩
 obtain⟨R,hR⟩:∃R,sns (nds ks) (nds ls)=R:=⟨_,rfl⟩
 rw[hR]
 have HM:=Lib.hid hm
 have HN:=Lib.hid hn
 have HS:=Lib.hid hs
 have HL:=Lib.hid hl
 have IH:=Lib.hid ih
 have HU:=Lib.hid hbu
 by_cases hmn:m=n
 ·subst hmn
  rw[hm] at hz ⊢
  rw[hn]
  have HR:=Lib.hid hR
  clear hs hl ih hm hn hR hbu
  go_enter Try.func64,Try.ntmps64
  go_wp2_with fail
  go_loopg [17] m (fun g1 vi wr=>∃j:Nat,vi=.int .i64 (j:Int)∧j≤m∧m - j≤g1∧Hid (R=sns (nds (ks.drop j)) (nds (ls.drop j)))∧Hid (Below u.heap.size u wr))
  case atStart=>exact⟨0,rfl,Nat.zero_le _,Nat.le_refl _,Lib.hid HR.out.symm,Lib.hid (Below.refl _ _)⟩
  case round =>
   obtain⟨j,rfl,hj,hg,EJ,BJ⟩:=hrel
   by_cases hlt:j < m
   ·obtain⟨t,ht⟩:∃t,ks[j]?=some t:=⟨_,List.getElem?_eq_getElem (by have:=HM.out;omega)⟩
    obtain⟨s,hs⟩:∃s,ls[j]?=some s:=⟨_,List.getElem?_eq_getElem (by have:=HN.out;omega)⟩
    have q0:(j:Int) < (m:Int):=by omega
    have WB:Below w0.heap.size w0 wr:=HU.out.trans (BJ.out.mono HU.out.size)
    have EX:R=(sn (nd t) (nd s) && sns (nds (ks.drop (j+1))) (nds (ls.drop (j+1)))):=by rw[EJ.out,drop_at ht,drop_at hs,nds,nds,sns]
    have IT:=Lib.hid (IH.out t (List.mem_of_getElem? ht) s (List.mem_of_getElem? hs))
    obtain⟨b,hb⟩:∃b,sn (nd t) (nd s)=b:=⟨_,rfl⟩
    rw[hb] at IT EX
    obtain⟨K,N,r,B',cc,us⟩:=t
    obtain⟨K2,N2,r2,B2,cc2,us2⟩:=s
    obtain⟨ad,rfl,ae,hae,c0,c1,c2,c3,l1⟩:=kid_cells HS.out ht WB
    obtain⟨ad2,rfl,ae2,hae2,d0,d1,d2,d3,l2⟩:=kid_cells HL.out hs WB
    have WA:=Lib.hid (below_one wr (.cells #[.int .i64 K,.int .u64 (N:Int),.slice r.1 r.2.1 r.2.2.1,.slice B' us.length cc] 26))
    have l3:ae2.block < wr.heap.size:=Nat.lt_of_lt_of_le l2 WB.size
    have WC:=Lib.hid (below_one (wr.alloc (.cells #[.int .i64 K,.int .u64 (N:Int),.slice r.1 r.2.1 r.2.2.1,.slice B' us.length cc] 26)) (.cells #[.int .i64 K2,.int .u64 (N2:Int),.slice r2.1 r2.2.1 r2.2.2.1,.slice B2 us2.length cc2] 26))
    have WX:=Lib.hid (show Below wr.heap.size wr _ from WA.out.trans (WC.out.mono WA.out.size))
    have CI:=Lib.hid (IT.out _ (WB.trans (WX.out.mono WB.size)))
    have EX2:=Lib.hid EX
    clear ht hs hb IT EX
    cases b with
    |true =>
     go_wp2_with (go_at_call 29;(refine CI.out.mono ?_);rintro e w1 ⟨rfl,hb1⟩;have B1:=Lib.hid (WX.out.trans (hb1.mono WX.out.size));clear hb1)
     go_roundg (m - (j+1))
     case measure=>omega
     case rel=>exact⟨j+1,by go_num,by omega,Nat.le_refl _,Lib.hid (by rw[EX2.out,Bool.true_and]),Lib.hid (BJ.out.trans (B1.out.mono BJ.out.size))⟩
    |false =>
     go_wp2_with (go_at_call 29;(refine CI.out.mono ?_);rintro e w1 ⟨rfl,hb1⟩;have B1:=Lib.hid (WX.out.trans (hb1.mono WX.out.size));clear hb1)
     go_ret
     exact⟨by rw[EX2.out,Bool.false_and];rfl,BJ.out.trans (B1.out.mono BJ.out.size)⟩
   ·obtain rfl:j=m:=by omega
    have q0:¬(j:Int) < (j:Int):=by omega
    have E2:=Lib.hid (show R=true from by rw[EJ.out,List.drop_eq_nil_of_le (by have:=HM.out;omega),List.drop_eq_nil_of_le (by have:=HN.out;omega)];rfl)
    go_wp2_with fail
    go_ret
    exact⟨by rw[E2.out];rfl,BJ.out⟩
 ·have E2:=Lib.hid (show R=false from by rw[←hR];exact sns_len _ _ (by rw[nds_len,nds_len,hm,hn];exact hmn))
  have q0:¬(m:Int)=(n:Int):=by omega
  rw[hm] at hz ⊢
  rw[hn]
  clear hs hl ih hm hn hR hbu hmn
  go_enter Try.func64,Try.ntmps64
  go_wp2_with fail
  go_ret
  exact⟨by rw[E2.out];rfl,Below.refl _ _⟩
set_option maxHeartbeats 4000000 in
set_option maxRecDepth 100000 in
theorem Same_any{w0:World}{v:Tv}(hv:Ok w0 v):∀ {v2:Tv},Ok w0 v2→∀u,Below w0.heap.size w0 u→Calls Try.prog 29 #[v.val,v2.val] u (SmQ (sn (nd v) (nd v2)) u):=by
 induction hv with
 | @mk K N r A c ks hn hr hs hm hc h0 hk ih =>
 intro v2 hv2 u hu
 cases hv2 with
 | @mk K2 N2 r2 B d ls hn2 hr2 hs2 hm2 hc2 h02 hk2 =>
 have EN:sn (nd (.mk K N r A c ks)) (nd (.mk K2 N2 r2 B d ls))=(decide (K=K2) && decide (N=N2) && decide (r.2.2.2=r2.2.2.2) && sns (nds ks) (nds ls)):=by rw[nd,nd,sn]
 have A0:=Lib.hid (below_one u (.cells #[.int .i64 K,.int .u64 (N:Int),.slice r.1 r.2.1 r.2.2.1,.slice A ks.length c] 26))
 have A1:=Lib.hid (below_one (u.alloc (.cells #[.int .i64 K,.int .u64 (N:Int),.slice r.1 r.2.1 r.2.2.1,.slice A ks.length c] 26)) (.cells #[.int .i64 K2,.int .u64 (N2:Int),.slice r2.1 r2.2.1 r2.2.2.1,.slice B ls.length d] 26))
 have AX:=Lib.hid (A0.out.trans (A1.out.mono A0.out.size))
 have UB:=Lib.hid (hu.trans (AX.out.mono hu.size))
 have CE:=Lib.hid (show Calls _ _ #[.slice r.1 r.2.1 r.2.2.1,.slice r2.1 r2.2.1 r2.2.2.1] _ _ from Equal_any (n:=r.2.1) (m:=r2.2.1) (c:=r.2.2.1) (d:=r2.2.2.1) (A:=r.1) (B:=r2.1) (l:=r.2.2.2) (k:=r2.2.2.2) (by have h:=(hr.below UB.out).row;have e:=hr.len;rw[←e] at h;exact h) (by have h:=(hr2.below UB.out).row;have e:=hr2.len;rw[←e] at h;exact h) hr.lt hr2.lt)
 have CS:=Lib.hid (esame_any hs hs2 hm (fun t ht s hs' u' hu'=>ih t ht (hk2 s hs') u' hu') c d _ UB.out)
 show Calls _ _ #[.agg #[.int .i64 K,.int .u64 (N:Int),.slice r.1 r.2.1 r.2.2.1,.slice A ks.length c],.agg #[.int .i64 K2,.int .u64 (N2:Int),.slice r2.1 r2.2.1 r2.2.2.1,.slice B ls.length d]] u _
 obtain⟨R,hR⟩:∃R,sn (nd (.mk K N r A c ks)) (nd (.mk K2 N2 r2 B d ls))=R:=⟨_,rfl⟩
 rw[hR]
 have ER:R=(decide (K=K2) && decide (N=N2) && decide (r.2.2.2=r2.2.2.2) && sns (nds ks) (nds ls)):=hR.symm.trans EN
 clear hn hr hs hm hc h0 hk ih hn2 hr2 hs2 hm2 hc2 h02 hk2 EN hR
 by_cases k1:K=K2
 ·subst k1
  by_cases n1:N=N2
  ·subst n1
   by_cases b1:r.2.2.2=r2.2.2.2
   ·rw[decide_eq_true b1] at CE
    have E2:=Lib.hid (show R=sns (nds ks) (nds ls) from by rw[ER,decide_eq_true rfl,decide_eq_true rfl,decide_eq_true b1];rfl)
    clear ER b1
    go_enter Try.func29,Try.ntmps29
    go_wp2_with (first
     |(go_at_call 63;(refine CE.out.mono ?_);rintro e w1 ⟨rfl,rfl⟩)
     |(go_at_call 64;(refine CS.out.mono ?_);rintro e w1 ⟨rfl,hb1⟩;have B1:=Lib.hid (AX.out.trans (hb1.mono AX.out.size));clear hb1))
    go_ret
    exact⟨by rw[E2.out];rfl,B1.out⟩
   ·rw[decide_eq_false b1] at CE
    have E2:=Lib.hid (show R=false from by rw[ER,decide_eq_false b1,Bool.and_false,Bool.false_and])
    clear ER b1 CS
    go_enter Try.func29,Try.ntmps29
    go_wp2_with (go_at_call 63;(refine CE.out.mono ?_);rintro e w1 ⟨rfl,rfl⟩)
    go_ret
    exact⟨by rw[E2.out];rfl,AX.out⟩
  ·have E2:=Lib.hid (show R=false from by rw[ER,decide_eq_false n1];simp)
   have q1:¬(N:Int)=(N2:Int):=by omega
   clear ER CS CE n1
   go_enter Try.func29,Try.ntmps29
   go_wp2_with fail
   go_ret
   exact⟨by rw[E2.out];rfl,AX.out⟩
 ·have E2:=Lib.hid (show R=false from by rw[ER,decide_eq_false k1];simp)
  clear ER CS CE
  go_enter Try.func29,Try.ntmps29
  go_wp2_with fail
  go_ret
  exact⟨by rw[E2.out];rfl,AX.out⟩
end Go.Proofs.Ytkahelhoaihajaa.Wr
