/- Joined texts. -/
import Derived.Deep.LoopGhost
import Derived.Test.YtkahelhoaihajaaQfWrOpen
import Derived.Test.YtkahelhoaihajaaQfGnEq
set_option linter.unusedVariables false
namespace Go.Proofs.Ytkahelhoaihajaa.Wr
open Go.RowKit Go.Proofs.Ytkahelhoaihajaa.Gn Go.Proofs.Ytkahelhoaihajaa.Fd Go.Deep
def SzR(v:Tv)(most s:Nat):Prop:=(sz v≤most→s=sz v)∧(most < sz v→most < s)∧s≤most+281474976710656
set_option maxHeartbeats 4000000 in
set_option maxRecDepth 100000 in
theorem Size_any{w0:World}{v:Tv}(hv:Ok0 w0 v):∀(most:Nat),most≤2000→∀u,Below w0.heap.size w0 u→Calls Try.prog 49 #[v.val,.int .i64 (most:Int)] u fun e w'=>∃s:Nat,e=.returned (.int .i64 (s:Int))∧SzR v most s∧Below u.heap.size u w':=by
 induction hv with
 | @mk K n r A c ks hn hr hl hs hm hc h0 hk ih =>
 intro most hmost u hu
 obtain⟨m,hm'⟩:∃m,ks.length=m:=⟨_,rfl⟩
 obtain⟨L,hL⟩:∃L,r.2.1=L:=⟨_,rfl⟩
 have HM:=Lib.hid hm'
 have IH:=Lib.hid ih
 have HS:=Lib.hid hs
 have HU:=Lib.hid hu
 have HLL:=Lib.hid hL
 have ES:sz (.mk K n r A c ks)=1+L+szs ks:=by rw[sz,hL]
 have HE:=Lib.hid ES
 have lw:IntKind.i64.wrap (1+(L:Int))=((1+L:Nat):Int):=by simp only[IntKind.wrap_i64];omega
 show Calls _ _ #[.agg #[.int .i64 K,.int .u64 (n:Int),.slice r.1 r.2.1 r.2.2.1,.slice A ks.length c],_] u _
 rw[hm',hL]
 have N0:=Lib.hid (Bl.new_ u 26 #[.int .i64 K,.int .u64 (n:Int),.slice r.1 L r.2.2.1,.slice A m c])
 have B0:=Lib.hid (below_one u (.cells #[.int .i64 K,.int .u64 (n:Int),.slice r.1 L r.2.2.1,.slice A m c] 26))
 have HL9:=Lib.hid (show L≤140737488355328 from hL▸hl)
 have HM9:=Lib.hid (show m≤140737488355328 from hm'▸hm)
 clear hn hr hl hs hm hc h0 hk ih hu hm' hL ES
 go_enter Try.func49,Try.ntmps49
 go_wp2_with fail
 go_loopg [5,6] m (fun g1 vn vi wr=>∃(j nn:Nat),vn=.int .i64 (nn:Int)∧vi=.int .i64 (j:Int)∧j≤m∧m - j≤g1∧Hid (nn≤most+281474976710656)∧Hid (nn≤most→nn=1+L+szs (ks.take j))∧Hid (most < nn→most < 1+L+szs ks)∧Hid (Below (u.heap.size+1) (u.alloc (.cells #[.int .i64 K,.int .u64 (n:Int),.slice r.1 L r.2.2.1,.slice A m c] 26)) wr))
 case atStart=>exact⟨0,1+L,rfl,rfl,Nat.zero_le _,Nat.le_refl _,Lib.hid (by have:=HL9.out;omega),Lib.hid (fun _=>by simp[szs]),Lib.hid (fun h=>by omega),Lib.hid (Below.refl _ _)⟩
 case round =>
  obtain⟨j,nn,rfl,rfl,hj,hg,NB,N1,N2,BJ⟩:=hrel
  have ND:=Lib.hid (show Bl wr u.heap.size 26 _ from(BJ.out.block _ (by omega)).trans N0.out)
  have z3:wr.cell? ⟨u.heap.size,3,none⟩=some (.slice A m c):=ND.out.cell_ rfl
  by_cases hlt:j < m
  ·have q0:(j:Int) < (m:Int):=by omega
   by_cases hle:nn≤most
   ·have q1:(nn:Int)≤(most:Int):=by omega
    obtain⟨t,ht⟩:∃t,ks[j]?=some t:=⟨_,List.getElem?_eq_getElem (by have:=HM.out;omega)⟩
    have WB:Below w0.heap.size w0 wr:=HU.out.trans ((B0.out.trans (BJ.out.mono (Nat.le_succ _))).mono HU.out.size)
    have CT:=Lib.hid (IH.out t (List.mem_of_getElem? ht) (most - nn) (by omega) wr WB)
    have SN:=Lib.hid (szs_snoc ht)
    have TK:=Lib.hid (szs_take ks (j+1))
    have NE:=Lib.hid (N1.out hle)
    have jw:IntKind.i64.wrap ((j:Int)+1)=((j+1:Nat):Int):=by have:=HM9.out;simp only[IntKind.wrap_i64];omega
    have sw:IntKind.i64.wrap ((most:Int) - (nn:Int))=((most - nn:Nat):Int):=by simp only[IntKind.wrap_i64];omega
    obtain⟨K2,N2',r2,B2,cc2,us2⟩:=t
    obtain⟨ad,rfl,ae,hae,c0,c1,c2,c3,l1⟩:=kid_cells HS.out ht WB
    clear ht WB
    go_wp2_with (go_at_call 49;(refine CT.out.mono ?_);rintro e w1 ⟨s,rfl,hs1,hb1⟩;have S1:=Lib.hid hs1;have B1:=Lib.hid hb1;have aw:IntKind.i64.wrap ((nn:Int)+(s:Int))=((nn+s:Nat):Int):=(by have h1:=hs1.2.2;simp only[IntKind.wrap_i64];omega);clear hs1 hb1)
    go_roundg (m - (j+1))
    case measure=>omega
    case rel =>
     have h1:=S1.out
     unfold SzR at h1
     have h2:=SN.out
     have h3:=TK.out
     have h4:=NE.out
     refine⟨j+1,nn+s,by first|rfl|exact congrArg _ aw,by first|rfl|exact congrArg _ jw,by omega,Nat.le_refl _,Lib.hid (by omega),Lib.hid (fun h=>?_),Lib.hid (fun h=>?_),Lib.hid (BJ.out.trans (B1.out.mono (by have:=BJ.out.size;simpa using this)))⟩
     ·rcases Nat.lt_or_ge (most - nn) (sz (.mk K2 N2' r2 B2 cc2 us2)) with h5|h5
      ·have:=h1.2.1 h5;omega
      ·have:=h1.1 h5;omega
     ·rcases Nat.lt_or_ge (most - nn) (sz (.mk K2 N2' r2 B2 cc2 us2)) with h5|h5
      ·omega
      ·have:=h1.1 h5;omega
   ·have q1:¬(nn:Int)≤(most:Int):=by omega
    go_wp2_with fail
    go_ret
    have h1:=N2.out (by omega)
    have h2:=HE.out
    exact⟨nn,rfl,⟨fun h=>by omega,fun _=>by omega,NB.out⟩,B0.out.trans (BJ.out.mono (Nat.le_succ _))⟩
  ·obtain rfl:j=m:=by omega
   have q0:¬(j:Int) < (j:Int):=by omega
   have e:ks.take j=ks:=List.take_of_length_le (by have:=HM.out;omega)
   rw[e] at N1
   go_wp2_with fail
   go_ret
   have h2:=HE.out
   refine⟨nn,rfl,⟨fun h=>?_,fun h=>?_,NB.out⟩,B0.out.trans (BJ.out.mono (Nat.le_succ _))⟩
   ·rcases Nat.lt_or_ge most nn with h3|h3
    ·have:=N2.out h3;omega
    ·have:=N1.out h3;omega
   ·rcases Nat.lt_or_ge most nn with h3|h3
    ·exact h3
    ·have:=N1.out h3;omega
set_option maxHeartbeats 4000000 in
set_option maxRecDepth 100000 in
theorem great_any{w0:World}{v:Tv}(hv:Ok0 w0 v)(u:World)(hu:Below w0.heap.size w0 u):Calls Try.prog 10 #[v.val] u fun e w'=>e=.returned (.bool (decide (2000 < sz v)))∧Below u.heap.size u w':=by
 have CS:=fun u' (hu':Below w0.heap.size w0 u')=>Size_any hv 2000 (Nat.le_refl _) u' hu'
 obtain⟨K,n,r,A,c,ks⟩:=v
 obtain⟨S,hS⟩:∃S,sz (.mk K n r A c ks)=S:=⟨_,rfl⟩
 rw[hS]
 have B0:=Lib.hid (below_one u (.cells #[.int .i64 K,.int .u64 (n:Int),.slice r.1 r.2.1 r.2.2.1,.slice A ks.length c] 26))
 have CX:=Lib.hid (show Calls _ _ #[.agg #[.int .i64 K,.int .u64 (n:Int),.slice r.1 r.2.1 r.2.2.1,.slice A ks.length c],.int .i64 2000] (u.alloc (.cells #[.int .i64 K,.int .u64 (n:Int),.slice r.1 r.2.1 r.2.2.1,.slice A ks.length c] 26)) (fun e w'=>∃s:Nat,e=.returned (.int .i64 (s:Int))∧decide (2000 < (s:Int))=decide (2000 < S)∧Below (u.alloc (.cells #[.int .i64 K,.int .u64 (n:Int),.slice r.1 r.2.1 r.2.2.1,.slice A ks.length c] 26)).heap.size (u.alloc (.cells #[.int .i64 K,.int .u64 (n:Int),.slice r.1 r.2.1 r.2.2.1,.slice A ks.length c] 26)) w') from(CS _ (hu.trans (B0.out.mono hu.size))).mono fun e w' ⟨s,h1,h2,h3⟩=>⟨s,h1,by
  unfold SzR at h2
  rw[hS] at h2
  rcases Nat.lt_or_ge 2000 S with h|h
  ·rw[decide_eq_true h,decide_eq_true (by have:=h2.2.1 h;omega)]
  ·rw[decide_eq_false (by omega),decide_eq_false (by have:=h2.1 h;omega)],h3⟩)
 clear CS hS hv hu
 show Calls _ _ #[.agg #[.int .i64 K,.int .u64 (n:Int),.slice r.1 r.2.1 r.2.2.1,.slice A ks.length c]] u _
 go_enter Try.func10,Try.ntmps10
 go_wp2_with (go_at_call 49;(refine CX.out.mono ?_);rintro e w1 ⟨s,rfl,hd,hb1⟩;have HD:=Lib.hid hd;have B1:=Lib.hid hb1;clear hd hb1)
 go_ret
 exact⟨by rw[←HD.out];rfl,B0.out.trans (B1.out.mono B0.out.size)⟩
end Go.Proofs.Ytkahelhoaihajaa.Wr
