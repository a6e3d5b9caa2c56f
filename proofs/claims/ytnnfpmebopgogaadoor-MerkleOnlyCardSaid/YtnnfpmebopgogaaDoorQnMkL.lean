/- Joined texts. -/
import Derived.IntWalk
import Derived.Test.YtnnfpmebopgogaaDoorQnPuA
import Derived.RangeFuncNested
import Derived.RangeFuncBound
import Derived.RangeFuncCalls
import Derived.RangeFuncLeaves
import Derived.RangeFuncBox
import Derived.Shelf.Abstract
import Derived.Shelf.RegionOpen
import Derived.WalkKit
import Derived.OwnWalkIn
import Derived.TacticsInMore
import Derived.LoopNIn
import Derived.LoopIn
import Derived.Maps.AppendAt
import Derived.OrdersHeld
import Derived.RangeFuncOwn
import Derived.OrdersIn
import Derived.ControlIn
import Derived.OwnWalk
import Derived.Deep.RegionWith
import Derived.Laws.BytesArg
import Derived.Test.YtnnfpmebopgogaaDoorQnMkG
import Derived.Test.YtnnfpmebopgogaaDoorQnGnA
import Derived.Deep.RegionHeld3
import Derived.Deep.QuietTactic
import Derived.BigQuiet
import Derived.Test.YtnnfpmebopgogaaDoorQnMpUp
import Derived.Test.YtnnfpmebopgogaaDoorQnMpCheck
import Derived.Deep.LoopGhost
import Derived.Test.YtnnfpmebopgogaaDoorQnMpPath
set_option linter.unusedVariables false
namespace Go.Proofs.YtnnfpmebopgogaaDoor.Mk
open Go.RowKit Go.Proofs.YtnnfpmebopgogaaDoor.Gn Go.Deep
set_option maxRecDepth 100000 in
theorem Count_ok(s c:Int)(hc:64≤c∧c≤1024)(hs:0≤s∧s≤131072)(w:World) :
  Calls Tryd.prog 30 #[.int .i64 s,.int .i64 c] w fun e w'=>e=.returned (.tuple #[.int .i64 ((s+c - 1) / c),.int .i64 0])∧w=w':=by
 obtain⟨h1,h2⟩:=hc
 obtain⟨h3,h4⟩:=hs
 obtain⟨q,hq⟩:∃q,(s+c - 1) / c=q:=⟨_,rfl⟩
 have q0:0≤q:=by rw[←hq];exact Int.ediv_nonneg (by omega) (by omega)
 have q1:q≤s+c - 1:=by rw[←hq];exact Int.ediv_le_self _ (by omega)
 rw[hq]
 go_enter Tryd.func30,Tryd.ntmps30
 go_wp2_with fail
 go_ret2
 exact⟨congrArg (fun z=>Ending.returned (.tuple #[.int .i64 z,.int .i64 0])) hq,rfl⟩
end Go.Proofs.YtnnfpmebopgogaaDoor.Mk
namespace Go.Proofs.YtnnfpmebopgogaaDoor.Mk
open Go.RowKit Go.Proofs.YtnnfpmebopgogaaDoor.Gn Go.Proofs.YtnnfpmebopgogaaDoor.Fd Go.Deep
theorem samebytes_any(A B:Option Addr)(n m c d:Nat)(l k:List Nat)(w:World)(hl:∀x∈l,x < 256)(hk:∀x∈k,x < 256)(h1:Sl w A n (bl l))(h2:Sl w B m (bl k)) :
  Calls Tryd.prog 15 #[.slice A n c,.slice B m d] w fun e w'=>e=.returned (.bool (decide (l=k)))∧w=w':=by
 have r1:=run_txt (P:=Tryd.prog) w 22 9 5 Tryd.underlying22 Tryd.underlying5 Tryd.underlying9 A n c l h1
 have r2:=run_txt (P:=Tryd.prog) w 22 9 5 Tryd.underlying22 Tryd.underlying5 Tryd.underlying9 B m d k h2
 have HE:=Lib.hid (fun h=>txt_inj (l:=l) (k:=k) hl hk h)
 clear h1 h2 hl hk
 obtain⟨s,hs⟩:∃s,s=txt l:=⟨_,rfl⟩
 obtain⟨t,ht⟩:∃t,t=txt k:=⟨_,rfl⟩
 rw[←hs] at r1
 rw[←ht] at r2
 have HS:=Lib.hid hs
 have HT:=Lib.hid ht
 clear hs ht
 go_enter Tryd.func15,Tryd.ntmps15
 go_wp2
 go_ret
 refine⟨ret_bool ?_,rfl⟩
 rw[HS.out,HT.out,ByteArray.toList_eq,ByteArray.toList_eq,Bool.eq_iff_iff,beq_iff_eq,decide_eq_true_iff]
 constructor
 ·intro h
  exact HE.out (Go.WideShapes.bytes_inj h)
 ·intro h;rw[h]
theorem same_pc{A B:Option Addr}{n m c d:Nat}{l k:List Nat}{w:World}(h1:Pc w (A,n,c,l))(h2:Pc w (B,m,d,k)) :
  Calls Tryd.prog 15 #[.slice A n c,.slice B m d] w fun e w'=>e=.returned (.bool (decide (l=k)))∧w=w':=by
 have e1:l.length=n:=h1.len.symm
 have e2:k.length=m:=h2.len.symm
 exact samebytes_any A B n m c d l k w h1.lt h2.lt (by have:=h1.row;rwa [show((A,n,c,l):Rw).2.2.2.length=n from e1] at this) (by have:=h2.row;rwa [show((B,m,d,k):Rw).2.2.2.length=m from e2] at this)
end Go.Proofs.YtnnfpmebopgogaaDoor.Mk
namespace Go.Proofs.YtnnfpmebopgogaaDoor.Mk
open Go.RowKit Go.Proofs.YtnnfpmebopgogaaDoor.Gn Go.Proofs.YtnnfpmebopgogaaDoor.Fd Go.Deep
def WayQ(n:Nat)(ws:List Bool)(x:List Nat)(ps:List (List Nat))(w:World)(e:Ending)(w':World):Prop :=
 ∃(A:Option Addr) (K c:Nat) (us:List Rw) (t:Rw) (fb:Bool),e=.returned (.tuple #[.slice A (K+1) c,.bool fb])∧fb=decide (ps.length=ws.length)∧OwnT w.heap.size w' (.slice A (K+1) c) (us ++ [t])∧us.length=K∧K≤4096∧(ps.length=ws.length→t.2.2.2=2 :: (eight n ++ tops ws x ps)∧con us=texts ws x ps)∧Below w.heap.size w w'
set_option maxHeartbeats 4000000 in
set_option maxRecDepth 100000 in
theorem rway_any{n p:Nat}(h1:1≤n)(hn:n≤4096)(hp:p < n){w:World}{P:List Rw}{B:Option Addr}{m c:Nat}{A:Option Addr}{ca:Nat}{x:List Nat}(hP:P32 w B m c P)(hx:Pc w (A,32,ca,x)) :
  Calls Tryd.prog 19 #[.int .i64 (n:Int),.int .i64 (p:Int),.slice A 32 ca,.slice B m c] w (WayQ n (way n p) x (con P) w):=by
 obtain⟨i0,hi,hz0,hz1,hz2⟩:=info_parts infobb
 have U:=Lib.hid (rup_any n h1 hn p hp w P B m c A ca x hP hx)
 have hwl:=way_len n p
 generalize way n p=ws at U hwl ⊢
 obtain⟨ps,hps⟩:∃z,z=con P:=⟨_,rfl⟩
 rw[←hps] at U ⊢
 clear hP hx hps
 go_enter Tryd.func19,Tryd.ntmps19
 go_wp2_with fail
 refine U.out.mono ?_
 rintro e w1 ⟨⟨RA,rn,rc,rx⟩,T,us,fb,rfl,hfb,p1,l1,o1,k1,s1,b1⟩
 have hrn:rn=rx.length:=p1.len
 have hrn2:rn≤32:=by rw[hrn];exact l1
 have ND:=Lib.hid ((rroot_any n (by omega) p1 (by omega)).mono fun e w' h=>OwnB.p h fun z hz=>by
  rcases List.mem_cons.1 hz with rfl|hz
  ·decide
  ·rcases List.mem_append.1 hz with h|h
   ·exact eight_lt n z h
   ·exact p1.lt z h)
 have D1:=Lib.hid b1
 have HFB:=Lib.hid hfb
 have S1:=Lib.hid s1
 have L1:=Lib.hid (show rx.length≤32 from l1)
 obtain⟨TA,tc,rfl,-, -, -, -, -⟩:=Sl.own o1.own
 rw[show rwv ((RA,rn,rc,rx):Rw)=Value.slice RA rn rc from rfl]
 obtain⟨K,hK⟩:∃K,K=us.length:=⟨_,rfl⟩
 have O1:=Lib.hid o1
 have hK2:K≤4096:=by rw[hK];omega
 have OW1:=Lib.hid (show w1.ownsRow w.heap.size 22 1 (.slice TA K tc) K (us.map rwv) from by rw[hK];exact o1.own)
 rw[←hK]
 have HK:=Lib.hid hK
 clear hfb p1 l1 o1 k1 s1 b1 hrn hK U
 go_wp2_with (first|(go_at_call 29;(with_reducible refine ND.out.mono ?_);rintro e w2 ⟨TB,tl,tb,rfl,p2,b2⟩;have D2:=Lib.hid b2;have P2:=Lib.hid p2;have OW2:=Lib.hid (own_below OW1.out b2);have B2:=Lib.hid (D1.out.trans (b2.mono D1.out.size));clear p2 b2 ND)|(at_builtin;refine wpList_append_sl rfl _ _ 23 rfl w.heap.size 22 i0 _ 24 Tryd.underlying23 hi hz0 hz1 hz2 rfl (.slice TA K tc) K _ rfl (own_alloc OW2.out _) (some ⟨w2.heap.size,0,none⟩) 1 1 [.slice TB tl tb] rfl (fun h=>by cases h) (Sl.new_ w2 22 [.slice TB tl tb]) (fun u hu=>by simp at hu;subst hu;rfl) (by unfold maxLen;omega) (by omega) (by have:=B2.out.size;simp;omega) ?_;intro v4 w4 hown4 hgrow4;have B34:=Lib.hid (((Below.refl w.heap.size w2).alloc B2.out.size (.cells #[.slice TB tl tb] 22)).grown hgrow4 (by have:=B2.out.size;simp;omega) (own_rows OW2.out));have O4:=Lib.hid hown4;have G4:=Lib.hid hgrow4;clear hown4 hgrow4))
 go_ret2
 have hP4:=(P2.out.alloc (.cells #[.slice TB tl tb] 22)).grown (own_alloc OW2.out _) G4.out
 obtain⟨A4,c4,rfl,-, -, -, -, -⟩:=Sl.own O4.out
 refine⟨A4,K,c4,us,(TB,tl,tb,2 :: (eight n ++ rx)),fb,rfl,HFB.out,⟨?_,fun z hz=>?_⟩,HK.out.symm,hK2,fun h=>?_,B2.out.trans B34.out⟩
 ·have h:=O4.out
  rw[List.length_append,List.map_append,←HK.out]
  exact h
 ·rcases List.mem_append.1 hz with h|h
  ·exact⟨((((O1.out.pcs z h).1.below D2.out)).alloc (.cells #[.slice TB tl tb] 22)).grown (own_alloc OW2.out _) G4.out,(O1.out.pcs z h).2⟩
  ·have:z=(TB,tl,tb,2 :: (eight n ++ rx)):=by simpa using h
   subst this
   refine⟨hP4,?_⟩
   have:=L1.out
   show(2 :: (eight n ++ rx)).length≤100
   rw[List.length_cons,List.length_append,eight_len]
   omega
 ·obtain⟨g1,g2⟩:=S1.out h
  refine⟨?_,g2⟩
  show 2 :: (eight n ++ rx)=_
  rw[←g1]
def SizeQ(P:List Rw)(m most:Nat)(w:World)(e:Ending)(w':World):Prop:=∃S:Nat,e=.returned (.int .i64 (S:Int))∧(S≤most→m≤S∧∀r∈P,r.2.1≤S)∧S≤140737488360000∧w=w'
set_option maxHeartbeats 1000000 in
theorem rsize_any{w:World}{B:Option Addr}{m c:Nat}{P:List Rw}(hs:Sl w B m (P.map rwv))(hl:∀r∈P,r.2.1≤140737488351232)(hm:m≤9223372036854775807)(most:Nat)(hmost:most≤1500) :
  Calls Tryd.prog 7 #[.slice B m c,.int .i64 (most:Int)] w (SizeQ P m most w):=by
 have HS:=Lib.hid hs
 have HL:=Lib.hid hl
 have PL:=Lib.hid (show P.length=m from by have:=hs.1;rwa [List.length_map] at this)
 clear hs hl
 go_enter Tryd.func7,Tryd.ntmps7
 go_wp2_with fail
 go_loopg [5,6] m (fun g1 vs vi wr=>∃(S i:Nat),vs=.int .i64 (S:Int)∧vi=.int .i64 i∧i≤m∧m - i≤g1∧S≤140737488360000∧i≤S∧Hid (∀r∈P.take i,r.2.1≤S)∧w=wr)
 case atStart=>exact⟨0,0,rfl,rfl,Nat.zero_le _,by omega,by omega,Nat.le_refl _,Lib.hid (fun r h=>by simp at h),rfl⟩
 case round =>
  obtain⟨S,i,rfl,rfl,him,hg,hS,hiS,HA,rfl⟩:=hrel
  by_cases hlt:i < m
  ·have q0:(i:Int) < (m:Int):=by omega
   by_cases hle:S≤most
   ·have q1:(S:Int)≤(most:Int):=by omega
    have hl0:i < P.length:=by have:=PL.out;omega
    obtain⟨l,hl⟩:∃l,P[i]?=some l:=⟨P[i],List.getElem?_eq_getElem hl0⟩
    have hlm:=HL.out l (List.mem_of_getElem? hl)
    obtain⟨ad,hB,c1⟩:=HS.out.at_ hlt
    rw[List.getElem?_map,hl] at c1
    obtain⟨L,nl,cl,y⟩:=l
    have c1':w.cell? (ad.add i)=some (.slice L nl cl):=c1
    change nl≤_ at hlm
    have HT:=Lib.hid (show ∀r∈P.take (i+1),r.2.1≤S+1+nl from fun r hr=>by
     rw[List.take_add_one,hl] at hr
     rcases List.mem_append.1 hr with h|h
     ·have:=HA.out r h;omega
     ·have:r=(L,nl,cl,y):=by simpa using h
      subst this
      show nl≤_
      omega)
    obtain⟨S2,hS2⟩:∃z,z=S+1+nl:=⟨_,rfl⟩
    have e1:(S:Int)+1+(nl:Int)=(S2:Int):=by omega
    rw[←hS2] at HT
    have hS3:S2≤140737488360000:=by omega
    have hS4:i+1≤S2:=by omega
    subst hB
    clear c1 hl hl0 hS2
    go_wp2_with fail
    go_roundg (m - (i+1))
    case measure=>omega
    case rel=>exact⟨S2,i+1,rfl,by go_num,by omega,Nat.le_refl _,hS3,hS4,HT,rfl⟩
   ·have q1:¬(S:Int)≤(most:Int):=by omega
    go_wp2_with fail
    go_ret
    exact⟨S,rfl,fun h=>by omega,hS,rfl⟩
  ·have q0:¬(i:Int) < (m:Int):=by omega
   go_wp2_with fail
   go_ret
   refine⟨S,rfl,fun h=>⟨by omega,fun r hr=>HA.out r ?_⟩,hS,rfl⟩
   rw[List.take_of_length_le (by have:=PL.out;omega)]
   exact hr
end Go.Proofs.YtnnfpmebopgogaaDoor.Mk
namespace Go.Proofs.YtnnfpmebopgogaaDoor.Mk
open Go.RowKit Go.Proofs.YtnnfpmebopgogaaDoor.Gn Go.Proofs.YtnnfpmebopgogaaDoor.Fd Go.Deep
theorem pathL_len:∀(N:Nat) (ps:List (List Nat)) (k:Nat),ps.length≤N→k < ps.length→(pathL ps k).length+1≤ps.length:=by
 intro N
 induction N with
 |zero=>intro ps k h1 h2;omega
 |succ N ih =>
  intro ps k hN hk
  by_cases h2:2≤ps.length
  ·have hs:=half_spec h2
   by_cases hc:k < half ps.length
   ·have e:=ih (ps.take (half ps.length)) k (by rw[List.length_take];omega) (by rw[List.length_take];omega)
    rw[List.length_take] at e
    rw[pathL_first h2 hc,List.length_append,List.length_singleton]
    omega
   ·have e:=ih (ps.drop (half ps.length)) (k - half ps.length) (by rw[List.length_drop];omega) (by rw[List.length_drop];omega)
    rw[List.length_drop] at e
    rw[pathL_second h2 hc,List.length_append,List.length_singleton]
    omega
  ·rw[pathL_one (by omega)]
   simp
   omega
end Go.Proofs.YtnnfpmebopgogaaDoor.Mk
