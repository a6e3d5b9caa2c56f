/- Joined texts. -/
import Derived.Test.YtnnfpmebopgogaaDoorQkMpTop
import Derived.IntWalk
import Derived.Test.YtnnfpmebopgogaaDoorQkPuA
import Derived.Deep.RegionHeld3
import Derived.Deep.QuietTactic
import Derived.BigQuiet
import Derived.Test.YtnnfpmebopgogaaDoorQkMpUp0
import Derived.Test.YtnnfpmebopgogaaDoorQkMpCheck
set_option linter.unusedVariables false
namespace Go.Proofs.YtnnfpmebopgogaaDoor.Mk
open Go.RowKit Go.Proofs.YtnnfpmebopgogaaDoor.Gn Go.Proofs.YtnnfpmebopgogaaDoor.Fd Go.Deep
def At0(w:World)(r:Rw):Prop:=Pc w r∧r.2.2.2.length=32∧∃g,r.1=some ⟨g,0,none⟩
theorem At0.below{w w':World}{r:Rw}(h:At0 w r)(hb:Below w.heap.size w w'):At0 w' r:=⟨h.1.below hb,h.2⟩
structure OwnP0 (b1:Nat) (w:World) (T:Value) (us:List Rw):Prop where
 own:w.ownsRow b1 22 1 T us.length (us.map rwv)
 nil:T=.slice none 0 0∨1≤us.length
 pcs:∀r∈us,At0 w r
theorem OwnP0.below{b1:Nat}{w w':World}{T:Value}{us:List Rw}(h:OwnP0 b1 w T us)(hb:Below w.heap.size w w'):OwnP0 b1 w' T us:=⟨own_below h.own hb,h.nil,fun r hr=>(h.pcs r hr).below hb⟩
theorem At0.grown{b1:Nat}{w w':World}{T:Value}{us:List Rw}{r:Rw}(h:At0 w r)(ho:w.ownsRow b1 22 1 T us.length (us.map rwv))(hn:T=.slice none 0 0∨1≤us.length)(hg:w.grownBy w' T.ownBlock):At0 w' r:=by
 obtain⟨hp,hl,g,hr⟩:=h
 refine⟨⟨hp.len,hp.row.only hg ?_,hp.lt,hp.cap,hp.nil⟩,hl,g,hr⟩
 intro ad had e
 rw[hr] at had
 injection had with had
 subst had
 rcases hn with hn|hn
 ·rw[hn] at e;simp[Value.ownBlock] at e
 ·obtain⟨-, h3⟩:=ho
  rcases h3 with⟨rfl,h4⟩|⟨g2,cap,cur,rfl,-, hh,hlc,-, -, hx⟩
  ·simp[Value.ownBlock] at e
  ·simp[Value.ownBlock] at e
   subst e
   obtain⟨ad,e1,hc⟩:=hp.row.at_ (k:=0) (by omega)
   rw[hr] at e1
   injection e1 with e1
   subst e1
   rw[add_at,cell_of_row _ _ _ _ _ _ hh] at hc
   obtain⟨u,us',rfl⟩:∃u us',us=u :: us':=by
    cases us with
    |nil=>simp at hn
    |cons u us'=>exact⟨u,us',rfl⟩
   have h5:(cur.toList.take ((u :: us').length*1))[0]?=some (rwv u):=by first|(rw[hx];rfl)|(rw[←hx];rfl)
   rw[List.getElem?_take_of_lt (by simp)] at h5
   rw[Array.getElem?_toList] at h5
   rw[h5] at hc
   obtain⟨z,hz⟩:∃z:Nat,(bl r.2.2.2)[0]?=some (.int .u8 (z:Int)):=by
    rw[bl_get]
    have:0 < r.2.2.2.length:=by omega
    rw[List.getElem?_eq_getElem this]
    exact⟨_,rfl⟩
   rw[hz] at hc
   injection hc with hc
   unfold rwv at hc
   cases hc
end Go.Proofs.YtnnfpmebopgogaaDoor.Mk
namespace Go.Proofs.YtnnfpmebopgogaaDoor.Mk
open Go.RowKit Go.Proofs.YtnnfpmebopgogaaDoor.Gn Go.Deep
set_option maxRecDepth 100000 in
theorem Count_ok(s c:Int)(hc:64≤c∧c≤1024)(hs:0≤s∧s≤131072)(w:World) :
  Calls Tryd.prog 30 #[.int .i64 s,.int .i64 c] w fun e w'=>e=.returned (.tuple #[.int .i64 ((s+c - 1) / c),.int .i64 0])∧w=w':=by
 obtain⟨h1,h2⟩:=hc
 obtain⟨h3,h4⟩:=hs
 obtain⟨q,hq⟩:∃q,(s+c - 1) / c=q:=⟨_,rfl⟩
 have q0:0≤q:=by rw[←hq];exact Int.ediv_nonneg (by omega) (by omega)
 have q1:q≤s+c - 1:=by rw[←hq];exact Int.ediv_le_self _ (by omega)
 rw[hq]
 go_enter Tryd.func30,Tryd.ntmps30
 go_wp2_with fail
 go_ret2
 exact⟨congrArg (fun z=>Ending.returned (.tuple #[.int .i64 z,.int .i64 0])) hq,rfl⟩
end Go.Proofs.YtnnfpmebopgogaaDoor.Mk
namespace Go.Proofs.YtnnfpmebopgogaaDoor.Mk
open Go.RowKit Go.Proofs.YtnnfpmebopgogaaDoor.Gn Go.Proofs.YtnnfpmebopgogaaDoor.Fd Go.Deep
def SizeQ(P:List Rw)(m most:Nat)(w:World)(e:Ending)(w':World):Prop:=∃S:Nat,e=.returned (.int .i64 (S:Int))∧(S≤most→m≤S∧∀r∈P,r.2.1≤S)∧S≤140737488360000∧w=w'
set_option maxHeartbeats 1000000 in
theorem rsize_any{w:World}{B:Option Addr}{m c:Nat}{P:List Rw}(hs:Sl w B m (P.map rwv))(hl:∀r∈P,r.2.1≤140737488351232)(hm:m≤9223372036854775807)(most:Nat)(hmost:most≤1500) :
  Calls Tryd.prog 7 #[.slice B m c,.int .i64 (most:Int)] w (SizeQ P m most w):=by
 have HS:=Lib.hid hs
 have HL:=Lib.hid hl
 have PL:=Lib.hid (show P.length=m from by have:=hs.1;rwa [List.length_map] at this)
 clear hs hl
 go_enter Tryd.func7,Tryd.ntmps7
 go_wp2_with fail
 go_loopg [5,6] m (fun g1 vs vi wr=>∃(S i:Nat),vs=.int .i64 (S:Int)∧vi=.int .i64 i∧i≤m∧m - i≤g1∧S≤140737488360000∧i≤S∧Hid (∀r∈P.take i,r.2.1≤S)∧w=wr)
 case atStart=>exact⟨0,0,rfl,rfl,Nat.zero_le _,by omega,by omega,Nat.le_refl _,Lib.hid (fun r h=>by simp at h),rfl⟩
 case round =>
  obtain⟨S,i,rfl,rfl,him,hg,hS,hiS,HA,rfl⟩:=hrel
  by_cases hlt:i < m
  ·have q0:(i:Int) < (m:Int):=by omega
   by_cases hle:S≤most
   ·have q1:(S:Int)≤(most:Int):=by omega
    have hl0:i < P.length:=by have:=PL.out;omega
    obtain⟨l,hl⟩:∃l,P[i]?=some l:=⟨P[i],List.getElem?_eq_getElem hl0⟩
    have hlm:=HL.out l (List.mem_of_getElem? hl)
    obtain⟨ad,hB,c1⟩:=HS.out.at_ hlt
    rw[List.getElem?_map,hl] at c1
    obtain⟨L,nl,cl,y⟩:=l
    have c1':w.cell? (ad.add i)=some (.slice L nl cl):=c1
    change nl≤_ at hlm
    have HT:=Lib.hid (show ∀r∈P.take (i+1),r.2.1≤S+1+nl from fun r hr=>by
     rw[List.take_add_one,hl] at hr
     rcases List.mem_append.1 hr with h|h
     ·have:=HA.out r h;omega
     ·have:r=(L,nl,cl,y):=by simpa using h
      subst this
      show nl≤_
      omega)
    obtain⟨S2,hS2⟩:∃z,z=S+1+nl:=⟨_,rfl⟩
    have e1:(S:Int)+1+(nl:Int)=(S2:Int):=by omega
    rw[←hS2] at HT
    have hS3:S2≤140737488360000:=by omega
    have hS4:i+1≤S2:=by omega
    subst hB
    clear c1 hl hl0 hS2
    go_wp2_with fail
    go_roundg (m - (i+1))
    case measure=>omega
    case rel=>exact⟨S2,i+1,rfl,by go_num,by omega,Nat.le_refl _,hS3,hS4,HT,rfl⟩
   ·have q1:¬(S:Int)≤(most:Int):=by omega
    go_wp2_with fail
    go_ret
    exact⟨S,rfl,fun h=>by omega,hS,rfl⟩
  ·have q0:¬(i:Int) < (m:Int):=by omega
   go_wp2_with fail
   go_ret
   refine⟨S,rfl,fun h=>⟨by omega,fun r hr=>HA.out r ?_⟩,hS,rfl⟩
   rw[List.take_of_length_le (by have:=PL.out;omega)]
   exact hr
theorem take_l{P:Program}{ops:Array Oper}{Q:Exit→Act→World→Prop}{md:Region.Mode}{S:World→Prop}(i:Nat){oi:Oper}{v:Value}{fuel:Nat}{listed:Array Bool}{a:Act}{w:World}(hi:ops.toList[i]?=some oi)
  (hs:Region.noSelect ops=true) (hf:Region.free md ops listed i=true) (hr:(Region.ready md ops listed).contains i=true)
  (hQ:∀c a w,Q (.panic c) (a.put oi.dst v) w→Q (.panic c) a w) (hy:YieldsIf P ops S oi v a) (hS:S w)
  (h:wpAnyH P md ops Q S fuel (listed.setIfInBounds i true) (a.put oi.dst v) w):wpAnyH P md ops Q S (fuel+1) listed a w :=
 wpAnyH_take (by rw[←Array.getElem?_toList];exact hi) hs hf hr hQ hy hS h
theorem cons_l{P:Program}{ops:Array Oper}{Q:Exit→Act→World→Prop}{md:Region.Mode}{S:World→Prop}{fuel:Nat}{listed:Array Bool}{a:Act}{w:World}{i:Nat}{o:Oper}{rs:List Nat}(ho:ops.toList[i]?=some o)
  (h:∀K':Act→World→Prop,Shut (∀a w,S w→(S w→wpAnyH P md ops Q S fuel (listed.setIfInBounds i true) a w)→K' a w)→if Region.wanted o (yielded ops a.tmps)=true then Oper.wp P o a w K' Q else K' (a.put o.dst undef) w)
  (hs:AllReadyH P md ops Q S fuel listed a w rs):AllReadyH P md ops Q S fuel listed a w (i :: rs) :=
 AllReadyH.cons (by rw[←Array.getElem?_toList];exact ho) h hs
end Go.Proofs.YtnnfpmebopgogaaDoor.Mk
