/- Joined texts. -/
import Derived.Laws.EntriesVeiled
import Derived.Test.YtnnfpmebopgogaaDoorQsMpRCheck
import Derived.Test.YtnnfpmebopgogaaDoorQsMpRTop
import Derived.IntWalk
import Derived.Test.YtnnfpmebopgogaaDoorQsPuA
import Derived.Test.YtnnfpmebopgogaaDoorQsMpDoc
import Derived.RangeFuncNested
import Derived.RangeFuncBound
import Derived.RangeFuncCalls
import Derived.RangeFuncLeaves
import Derived.RangeFuncBox
import Derived.Shelf.Abstract
import Derived.Shelf.RegionOpen
import Derived.WalkKit
import Derived.OwnWalkIn
import Derived.TacticsInMore
import Derived.LoopNIn
import Derived.LoopIn
import Derived.Maps.AppendAt
import Derived.OrdersHeld
import Derived.RangeFuncOwn
import Derived.OrdersIn
import Derived.ControlIn
import Derived.OwnWalk
import Derived.Deep.RegionWith
import Derived.Laws.BytesArg
import Derived.Test.YtnnfpmebopgogaaDoorQsMkG
import Derived.Test.YtnnfpmebopgogaaDoorQsGnA
set_option linter.unusedVariables false
namespace Go.Proofs.YtnnfpmebopgogaaDoor.Mk
open Go.RowKit Go.Proofs.YtnnfpmebopgogaaDoor.Gn Go.Proofs.YtnnfpmebopgogaaDoor.Fd Go.Deep
theorem asize(w:World)(o:Obj):(w.alloc o).heap.size=w.heap.size+1:=by first|exact Array.size_push _|exact Array.size_push _ _|exact Array.size_push ..
def ProveQ(l:List (List Nat))(w:World)(e:Ending)(w':World):Prop :=
 ∃A n cap us,e=.returned (.tuple #[.slice A n cap,.int .i64 0])∧OwnP0 w.heap.size w' (.slice A n cap) us∧us.length=n∧con us=l∧Below w.heap.size w w'
end Go.Proofs.YtnnfpmebopgogaaDoor.Mk
namespace Go.Proofs.YtnnfpmebopgogaaDoor.Mk
open Go.RowKit Go.Proofs.YtnnfpmebopgogaaDoor.Gn Go.Proofs.YtnnfpmebopgogaaDoor.Fd Go.Deep
set_option maxHeartbeats 4000000 in
set_option maxRecDepth 100000 in
theorem rok_any{B:Option Addr}{m c:Nat}{P:List Rw}{w:World}(hP:PAny w B m c P)(Z:Int)(hZ:Z=if all32 P=true then 0 else 1) :
  Calls Tryd.prog 41 #[.slice B m c] w fun e w'=>e=.returned (.int .i64 Z)∧w=w':=by
 have HP:=Lib.hid hP
 have PL:=Lib.hid hP.len
 have hm:=hP.few
 have HZ:=Lib.hid hZ
 clear hP hZ
 go_enter Tryd.func41,Tryd.ntmps41
 go_wp2_with fail
 go_loopg [3] m (fun g1 vi wr=>∃(i:Nat),vi=.int .i64 i∧i≤m∧m - i≤g1∧Hid (∀r∈P.take i,r.2.1=32)∧w=wr)
 case atStart=>exact⟨0,rfl,Nat.zero_le _,by omega,Lib.hid (fun r h=>by simp at h),rfl⟩
 case round =>
  obtain⟨i,rfl,him,hg,HA,rfl⟩:=hrel
  by_cases hlt:i < m
  ·have q0:(i:Int) < (m:Int):=by omega
   have hl0:i < P.length:=by have:=PL.out;omega
   obtain⟨l,hl⟩:∃l,P[i]?=some l:=⟨P[i],List.getElem?_eq_getElem hl0⟩
   obtain⟨ad,hB,c1⟩:=HP.out.row.at_ hlt
   rw[List.getElem?_map,hl] at c1
   have hTT:=take_all (p:=fun r:Rw=>r.2.1=32) HA.out hl
   have HN:=Lib.hid (fun h:l.2.1≠32=>all32_no (List.mem_of_getElem? hl) h)
   obtain⟨L,nl,cl,y⟩:=l
   have c1':w.cell? (ad.add i)=some (.slice L nl cl):=c1
   have HT:=Lib.hid (show nl=32→∀r∈P.take (i+1),r.2.1=32 from hTT)
   subst hB
   clear c1 hl hl0 hTT
   by_cases h32:nl=32
   ·have q1:((nl:Int) != 32)=false:=by rw[h32];rfl
    have HT2:=Lib.hid (HT.out h32)
    clear h32 HT
    go_wp2_with fail
    go_roundg (m - (i+1))
    case measure=>omega
    case rel=>exact⟨i+1,by go_num,by omega,Nat.le_refl _,HT2,rfl⟩
   ·have q1:((nl:Int) != 32)=true:=by rw[bne_iff_ne];omega
    have HZ1:=Lib.hid (show Z=1 from by rw[HZ.out,if_neg (by rw[HN.out h32];decide)])
    clear h32 HT
    go_wp2_with fail
    go_ret
    exact⟨by rw[HZ1.out];rfl,rfl⟩
  ·have q0:¬(i:Int) < (m:Int):=by omega
   have HZ1:=Lib.hid (show Z=0 from by
    rw[HZ.out,if_pos]
    unfold all32
    rw[List.all_eq_true]
    intro r hr
    refine decide_eq_true (HA.out r ?_)
    rw[List.take_of_length_le (by have:=PL.out;omega)]
    exact hr)
   go_wp2_with fail
   go_ret
   exact⟨by rw[HZ1.out];rfl,rfl⟩
end Go.Proofs.YtnnfpmebopgogaaDoor.Mk
namespace Go.Proofs.YtnnfpmebopgogaaDoor.Mk
open Go.RowKit Go.Proofs.YtnnfpmebopgogaaDoor.Gn Go.Deep
set_option maxRecDepth 100000 in
theorem Count_ok(s c:Int)(hc:64≤c∧c≤1024)(hs:0≤s∧s≤131072)(w:World) :
  Calls Tryd.prog 30 #[.int .i64 s,.int .i64 c] w fun e w'=>e=.returned (.tuple #[.int .i64 ((s+c - 1) / c),.int .i64 0])∧w=w':=by
 obtain⟨h1,h2⟩:=hc
 obtain⟨h3,h4⟩:=hs
 obtain⟨q,hq⟩:∃q,(s+c - 1) / c=q:=⟨_,rfl⟩
 have q0:0≤q:=by rw[←hq];exact Int.ediv_nonneg (by omega) (by omega)
 have q1:q≤s+c - 1:=by rw[←hq];exact Int.ediv_le_self _ (by omega)
 rw[hq]
 go_enter Tryd.func30,Tryd.ntmps30
 go_wp2_with fail
 go_ret2
 exact⟨congrArg (fun z=>Ending.returned (.tuple #[.int .i64 z,.int .i64 0])) hq,rfl⟩
end Go.Proofs.YtnnfpmebopgogaaDoor.Mk
namespace Go.Proofs.YtnnfpmebopgogaaDoor.Mk
open Go.RowKit Go.Proofs.YtnnfpmebopgogaaDoor.Gn Go.Proofs.YtnnfpmebopgogaaDoor.Fd Go.Deep
set_option maxHeartbeats 2000000 in
set_option maxRecDepth 100000 in
theorem rleaft_any(n:Nat)(hn:n≤9223372036854775807){A:Option Addr}{m c:Nat}{x:List Nat}{w:World}(h:Pc w (A,m,c,x))(hm:m≤900000) :
  Calls Tryd.prog 37 #[.int .i64 (n:Int),.slice A m c] w (OwnB (0 :: (eight n ++ x)) w):=by
 have BB:=(Below.refl w.heap.size w).alloc (Nat.le_refl _) (.cells #[.int .u8 0] 5)
 have PB:Pc (w.alloc (.cells #[.int .u8 0] 5)) (some ⟨w.heap.size,0,none⟩,1,1,[0]):=⟨rfl,Sl.new_ w 5 (bl [0]),fun x hx=>by simp at hx;omega,Nat.le_refl _,fun h=>by cases h⟩
 have C1:=Lib.hid (fun w=>reight_any n hn w)
 have HB:=Lib.hid BB
 have C2:=Lib.hid (fun(w1:World) (B:Option Addr) (d:Nat) (hb:Below (w.alloc (.cells #[.int .u8 0] 5)).heap.size (w.alloc (.cells #[.int .u8 0] 5)) w1) (hp:Pc w1 (B,8,d,eight n))=>rjoin_any (PB.below hb) hp (h.below (BB.trans (hb.mono BB.size))) (by omega))
 clear h PB BB
 go_enter Tryd.func37,Tryd.ntmps37
 go_wp2_with (go_at_call 58;(with_reducible refine(C1.out _).mono ?_);rintro e w1 ⟨v,rfl,ho,hb⟩;rw[eight_len] at ho;obtain⟨B,d,rfl,hp⟩:=own_any ho (eight_len n) (eight_lt n);have C3:=Lib.hid (C2.out w1 B d hb hp);have B1:=Lib.hid hb;clear ho hb hp C2)
 go_wp2_with (go_at_call 57;(with_reducible refine C3.out.mono ?_);rintro e w2 ⟨v,rfl,ho,hb⟩;have O2:=Lib.hid ho;have B2:=Lib.hid hb;clear ho hb)
 go_ret
 have b1:=HB.out.trans (B1.out.mono HB.out.size)
 exact⟨v,rfl,own_base O2.out b1.size,b1.trans (B2.out.mono b1.size)⟩
end Go.Proofs.YtnnfpmebopgogaaDoor.Mk
namespace Go.Proofs.YtnnfpmebopgogaaDoor.Mk
open Go.RowKit Go.Proofs.YtnnfpmebopgogaaDoor.Gn Go.Proofs.YtnnfpmebopgogaaDoor.Fd Go.Deep
set_option maxRecDepth 100000 in
theorem top_none(A:Option Addr)(c:Nat)(w:World):Calls Tryd.prog 40 #[.slice A 0 c] w fun e w'=>e=.returned (.slice none 0 0)∧w=w':=by
 go_enter Tryd.func40,Tryd.ntmps40
 go_wp2_with fail
 go_ret
 exact⟨rfl,rfl⟩
set_option maxRecDepth 100000 in
theorem rtop_none(A:Option Addr)(c:Nat)(w:World):Calls Tryd.prog 42 #[.slice A 0 c] w fun e w'=>e=.returned (.tuple #[.slice none 0 0,.slice none 0 0])∧w=w':=by
 go_enter Tryd.func42,Tryd.ntmps42
 go_wp2_with fail
 go_ret2
 exact⟨rfl,rfl⟩
theorem PAny.none32{w:World}{B:Option Addr}{c:Nat}{P:List Rw}(h:PAny w B 0 c P):all32 P=true:=by
 have:=h.len
 rw[List.length_eq_zero_iff.1 this]
 rfl
set_option maxHeartbeats 2000000 in
set_option maxRecDepth 100000 in
theorem Root_none{w:World}{B:Option Addr}{c:Nat}{P:List Rw}(h:PAny w B 0 c P)(ts:Sh.Tab w) :
  Calls Tryd.prog 11 #[.slice B 0 c] w (RootQ 0 [] w):=by
 have C1:=refused_ok (c:=c) (n:=0) h.lc (fun x hx=>by have:=(h.pcs x hx).2;omega) (by omega)
 rw[h.none32,if_pos rfl] at C1
 have C1:=Lib.hid C1
 have C3:=Lib.hid (fun(w2:World) (hb:Below w.heap.size w w2)=>show Calls Tryd.prog 39 #[.int .i64 0,.slice none 0 0] w2 (Ret32 (rootOf 0 []) w2) from sealed_any 0 (by omega) (nil_pc' w2) (by decide) (ts.below hb))
 clear h ts
 go_enter Tryd.func11,Tryd.ntmps11
 go_wp2_with (go_at_call 38;(with_reducible refine C1.out.mono ?_);rintro e w1 ⟨rfl,b1⟩;have D1:=Lib.hid b1;have C4:=Lib.hid (C3.out w1 b1);clear b1 C3)
 go_wp2_with (go_at_call 40;(with_reducible refine(top_none _ _ _).mono ?_);rintro e w2 ⟨rfl,rfl⟩)
 go_wp2_with (go_at_call 39;(with_reducible refine C4.out.mono ?_);rintro e w3 ⟨g3,rfl,p1,g1,b1⟩;have P3:=Lib.hid p1;have G3:=Lib.hid (Nat.le_trans D1.out.size g1);have D3:=Lib.hid (D1.out.trans (b1.mono D1.out.size));clear p1 g1 b1)
 go_ret2
 exact⟨g3,rfl,P3.out,G3.out,D3.out⟩
end Go.Proofs.YtnnfpmebopgogaaDoor.Mk
namespace Go.Proofs.YtnnfpmebopgogaaDoor.Mk
open Go.RowKit Go.Proofs.YtnnfpmebopgogaaDoor.Gn Go.Proofs.YtnnfpmebopgogaaDoor.Fd Go.Deep
def BE(x:List Nat)(k:Int)(w:World)(e:Ending)(w':World):Prop:=∃A n c,e=.returned (.tuple #[.slice A n c,.int .i64 k])∧Pc w' (A,n,c,x)∧Below w.heap.size w w'
theorem topL_nil:topL []=[]:=by rw[topL];simp
theorem Root_be{w:World}{B:Option Addr}{m c:Nat}{P:List Rw}(h:PAny w B m c P)(h32:all32 P=true)(ts:Sh.Tab w) :
  Calls Tryd.prog 11 #[.slice B m c] w (BE (rootOf m (topL (con P))) 0 w):=by
 rcases Nat.eq_zero_or_pos m with rfl|h1
 ·have hP:P=[]:=List.length_eq_zero_iff.1 h.len
  refine(Root_none h ts).mono ?_
  rintro e w' ⟨g,rfl,hp,-, hb⟩
  rw[hP,show con []=[] from rfl,topL_nil]
  exact⟨_,32,32,rfl,hp,hb⟩
 ·refine(Root_good h h32 h1 ts).mono ?_
  rintro e w' ⟨g,rfl,hp,-, hb⟩
  exact⟨_,32,32,rfl,hp,hb⟩
end Go.Proofs.YtnnfpmebopgogaaDoor.Mk
