/- Joined texts. -/
import Derived.Deep.RegionHeld3
import Derived.Deep.QuietTactic
import Derived.BigQuiet
import Derived.Test.YtcnlmekjcffohaaDoorQmMpUp
import Derived.Test.YtcnlmekjcffohaaDoorQmMpCheck
set_option linter.unusedVariables false
namespace Go.Proofs.YtcnlmekjcffohaaDoor.Mk
open Go.RowKit Go.Proofs.YtcnlmekjcffohaaDoor.Gn Go.Proofs.YtcnlmekjcffohaaDoor.Fd Go.Deep
def WayQ(n:Nat)(ws:List Bool)(x:List Nat)(ps:List (List Nat))(w:World)(e:Ending)(w':World):Prop :=
 ∃(A:Option Addr) (K c:Nat) (us:List Rw) (t:Rw) (fb:Bool),e=.returned (.tuple #[.slice A (K+1) c,.bool fb])∧fb=decide (ps.length=ws.length)∧OwnT w.heap.size w' (.slice A (K+1) c) (us ++ [t])∧us.length=K∧K≤4096∧(ps.length=ws.length→t.2.2.2=2 :: (eight n ++ tops ws x ps)∧con us=texts ws x ps)∧Below w.heap.size w w'
set_option maxHeartbeats 4000000 in
set_option maxRecDepth 100000 in
theorem rway_any{n p:Nat}(h1:1≤n)(hn:n≤4096)(hp:p < n){w:World}{P:List Rw}{B:Option Addr}{m c:Nat}{A:Option Addr}{ca:Nat}{x:List Nat}(hP:P32 w B m c P)(hx:Pc w (A,32,ca,x)) :
  Calls Tryd.prog 23 #[.int .i64 (n:Int),.int .i64 (p:Int),.slice A 32 ca,.slice B m c] w (WayQ n (way n p) x (con P) w):=by
 obtain⟨i0,hi,hz0,hz1,hz2⟩:=info_parts infobb
 have U:=Lib.hid (rup_any n h1 hn p hp w P B m c A ca x hP hx)
 have hwl:=way_len n p
 generalize way n p=ws at U hwl ⊢
 obtain⟨ps,hps⟩:∃z,z=con P:=⟨_,rfl⟩
 rw[←hps] at U ⊢
 clear hP hx hps
 go_enter Tryd.func23,Tryd.ntmps23
 go_wp2_with fail
 refine U.out.mono ?_
 rintro e w1 ⟨⟨RA,rn,rc,rx⟩,T,us,fb,rfl,hfb,p1,l1,o1,k1,s1,b1⟩
 have hrn:rn=rx.length:=p1.len
 have hrn2:rn≤32:=by rw[hrn];exact l1
 have ND:=Lib.hid ((rroot_any n (by omega) p1 (by omega)).mono fun e w' h=>OwnB.p h fun z hz=>by
  rcases List.mem_cons.1 hz with rfl|hz
  ·decide
  ·rcases List.mem_append.1 hz with h|h
   ·exact eight_lt n z h
   ·exact p1.lt z h)
 have D1:=Lib.hid b1
 have HFB:=Lib.hid hfb
 have S1:=Lib.hid s1
 have L1:=Lib.hid (show rx.length≤32 from l1)
 obtain⟨TA,tc,rfl,-, -, -, -, -⟩:=Sl.own o1.own
 rw[show rwv ((RA,rn,rc,rx):Rw)=Value.slice RA rn rc from rfl]
 obtain⟨K,hK⟩:∃K,K=us.length:=⟨_,rfl⟩
 have O1:=Lib.hid o1
 have hK2:K≤4096:=by rw[hK];omega
 have OW1:=Lib.hid (show w1.ownsRow w.heap.size 22 1 (.slice TA K tc) K (us.map rwv) from by rw[hK];exact o1.own)
 rw[←hK]
 have HK:=Lib.hid hK
 clear hfb p1 l1 o1 k1 s1 b1 hrn hK U
 go_wp2_with (first|(go_at_call 40;(with_reducible refine ND.out.mono ?_);rintro e w2 ⟨TB,tl,tb,rfl,p2,b2⟩;have D2:=Lib.hid b2;have P2:=Lib.hid p2;have OW2:=Lib.hid (own_below OW1.out b2);have B2:=Lib.hid (D1.out.trans (b2.mono D1.out.size));clear p2 b2 ND)|(at_builtin;refine wpList_append_sl rfl _ _ 23 rfl w.heap.size 22 i0 _ 24 Tryd.underlying23 hi hz0 hz1 hz2 rfl (.slice TA K tc) K _ rfl (own_alloc OW2.out _) (some ⟨w2.heap.size,0,none⟩) 1 1 [.slice TB tl tb] rfl (fun h=>by cases h) (Sl.new_ w2 22 [.slice TB tl tb]) (fun u hu=>by simp at hu;subst hu;rfl) (by unfold maxLen;omega) (by omega) (by have:=B2.out.size;simp;omega) ?_;intro v4 w4 hown4 hgrow4;have B34:=Lib.hid (((Below.refl w.heap.size w2).alloc B2.out.size (.cells #[.slice TB tl tb] 22)).grown hgrow4 (by have:=B2.out.size;simp;omega) (own_rows OW2.out));have O4:=Lib.hid hown4;have G4:=Lib.hid hgrow4;clear hown4 hgrow4))
 go_ret2
 have hP4:=(P2.out.alloc (.cells #[.slice TB tl tb] 22)).grown (own_alloc OW2.out _) G4.out
 obtain⟨A4,c4,rfl,-, -, -, -, -⟩:=Sl.own O4.out
 refine⟨A4,K,c4,us,(TB,tl,tb,2 :: (eight n ++ rx)),fb,rfl,HFB.out,⟨?_,fun z hz=>?_⟩,HK.out.symm,hK2,fun h=>?_,B2.out.trans B34.out⟩
 ·have h:=O4.out
  rw[List.length_append,List.map_append,←HK.out]
  exact h
 ·rcases List.mem_append.1 hz with h|h
  ·exact⟨((((O1.out.pcs z h).1.below D2.out)).alloc (.cells #[.slice TB tl tb] 22)).grown (own_alloc OW2.out _) G4.out,(O1.out.pcs z h).2⟩
  ·have:z=(TB,tl,tb,2 :: (eight n ++ rx)):=by simpa using h
   subst this
   refine⟨hP4,?_⟩
   have:=L1.out
   show(2 :: (eight n ++ rx)).length≤100
   rw[List.length_cons,List.length_append,eight_len]
   omega
 ·obtain⟨g1,g2⟩:=S1.out h
  refine⟨?_,g2⟩
  show 2 :: (eight n ++ rx)=_
  rw[←g1]
def SizeQ(P:List Rw)(m most:Nat)(w:World)(e:Ending)(w':World):Prop:=∃S:Nat,e=.returned (.int .i64 (S:Int))∧(S≤most→m≤S∧∀r∈P,r.2.1≤S)∧S≤140737488360000∧w=w'
set_option maxHeartbeats 1000000 in
theorem rsize_any{w:World}{B:Option Addr}{m c:Nat}{P:List Rw}(hs:Sl w B m (P.map rwv))(hl:∀r∈P,r.2.1≤140737488351232)(hm:m≤9223372036854775807)(most:Nat)(hmost:most≤1500) :
  Calls Tryd.prog 8 #[.slice B m c,.int .i64 (most:Int)] w (SizeQ P m most w):=by
 have HS:=Lib.hid hs
 have HL:=Lib.hid hl
 have PL:=Lib.hid (show P.length=m from by have:=hs.1;rwa [List.length_map] at this)
 clear hs hl
 go_enter Tryd.func8,Tryd.ntmps8
 go_wp2_with fail
 go_loopg [5,6] m (fun g1 vs vi wr=>∃(S i:Nat),vs=.int .i64 (S:Int)∧vi=.int .i64 i∧i≤m∧m - i≤g1∧S≤140737488360000∧i≤S∧Hid (∀r∈P.take i,r.2.1≤S)∧w=wr)
 case atStart=>exact⟨0,0,rfl,rfl,Nat.zero_le _,by omega,by omega,Nat.le_refl _,Lib.hid (fun r h=>by simp at h),rfl⟩
 case round =>
  obtain⟨S,i,rfl,rfl,him,hg,hS,hiS,HA,rfl⟩:=hrel
  by_cases hlt:i < m
  ·have q0:(i:Int) < (m:Int):=by omega
   by_cases hle:S≤most
   ·have q1:(S:Int)≤(most:Int):=by omega
    have hl0:i < P.length:=by have:=PL.out;omega
    obtain⟨l,hl⟩:∃l,P[i]?=some l:=⟨P[i],List.getElem?_eq_getElem hl0⟩
    have hlm:=HL.out l (List.mem_of_getElem? hl)
    obtain⟨ad,hB,c1⟩:=HS.out.at_ hlt
    rw[List.getElem?_map,hl] at c1
    obtain⟨L,nl,cl,y⟩:=l
    have c1':w.cell? (ad.add i)=some (.slice L nl cl):=c1
    change nl≤_ at hlm
    have HT:=Lib.hid (show ∀r∈P.take (i+1),r.2.1≤S+1+nl from fun r hr=>by
     rw[List.take_add_one,hl] at hr
     rcases List.mem_append.1 hr with h|h
     ·have:=HA.out r h;omega
     ·have:r=(L,nl,cl,y):=by simpa using h
      subst this
      show nl≤_
      omega)
    obtain⟨S2,hS2⟩:∃z,z=S+1+nl:=⟨_,rfl⟩
    have e1:(S:Int)+1+(nl:Int)=(S2:Int):=by omega
    rw[←hS2] at HT
    have hS3:S2≤140737488360000:=by omega
    have hS4:i+1≤S2:=by omega
    subst hB
    clear c1 hl hl0 hS2
    go_wp2_with fail
    go_roundg (m - (i+1))
    case measure=>omega
    case rel=>exact⟨S2,i+1,rfl,by go_num,by omega,Nat.le_refl _,hS3,hS4,HT,rfl⟩
   ·have q1:¬(S:Int)≤(most:Int):=by omega
    go_wp2_with fail
    go_ret
    exact⟨S,rfl,fun h=>by omega,hS,rfl⟩
  ·have q0:¬(i:Int) < (m:Int):=by omega
   go_wp2_with fail
   go_ret
   refine⟨S,rfl,fun h=>⟨by omega,fun r hr=>HA.out r ?_⟩,hS,rfl⟩
   rw[List.take_of_length_le (by have:=PL.out;omega)]
   exact hr
set_option maxHeartbeats 4000000 in
set_option maxRecDepth 100000 in
theorem rcheck_bad {R A B : Option Addr} {nr nx m cr ca c : Nat} {lr x : List Nat} {P : List Rw} {w : World} (hP : PAny w B m c P) (h1 : nr ≤ 1000) (h2 : nx ≤ 1000) {n p : Int} (hb : badA n p nr nx P) :
    Calls Tryd.prog 21 #[.slice R nr cr, .int .i64 n, .int .i64 p, .slice A nx ca, .slice B m c] w (OneQ w) := by
  have HP := Lib.hid hP
  have PL := Lib.hid hP.len
  have hm := hP.few
  clear hP
  unfold badA at hb
  by_cases k1 : n < 1
  · clear hb
    go_enter Tryd.func21, Tryd.ntmps21
    go_wp2_with fail
    go_ret
    exact ⟨rfl, Below.refl _ _⟩
  by_cases k2 : 4096 < n
  · clear hb
    go_enter Tryd.func21, Tryd.ntmps21
    go_wp2_with fail
    go_ret
    exact ⟨rfl, Below.refl _ _⟩
  by_cases k3 : p < 0
  · clear hb
    go_enter Tryd.func21, Tryd.ntmps21
    go_wp2_with fail
    go_ret
    exact ⟨rfl, Below.refl _ _⟩
  by_cases k4 : n ≤ p
  · clear hb
    go_enter Tryd.func21, Tryd.ntmps21
    go_wp2_with fail
    go_ret
    exact ⟨rfl, Below.refl _ _⟩
  have hf : (decide (nr = 32 ∧ nx = 32) && all32 P) = false := by
    rcases hb with h | h | h | h | h
    · omega
    · omega
    · omega
    · omega
    · exact h
  clear hb
  by_cases k5 : nr = 32
  · by_cases k6 : nx = 32
    · have hno : ¬ ∀ r ∈ P, r.2.1 = 32 := fun h => by
        have : all32 P = true := by
          unfold all32
          rw [List.all_eq_true]
          exact fun r hr => decide_eq_true (h r hr)
        rw [this, decide_eq_true ⟨k5, k6⟩] at hf
        cases hf
      have HNO := Lib.hid hno
      subst k5 k6
      clear hf hno h1 h2
      go_enter Tryd.func21, Tryd.ntmps21
      go_wp2_with fail
      go_loopg [11] m (fun g1 vi wr => ∃ (i : Nat), vi = .int .i64 i ∧ i ≤ m ∧ m - i ≤ g1 ∧ Hid (∀ r ∈ P.take i, r.2.1 = 32) ∧ w = wr)
      case atStart => exact ⟨0, rfl, Nat.zero_le _, by omega, Lib.hid (fun r h => by simp at h), rfl⟩
      case round =>
        obtain ⟨i, rfl, him, hg, HA, rfl⟩ := hrel
        have hlt : i < m := by
          rcases Nat.lt_or_ge i m with h | h
          · exact h
          · refine absurd (fun r hr => HA.out r ?_) HNO.out
            rw [List.take_of_length_le (by have := PL.out; omega)]
            exact hr
        have q0 : (i : Int) < (m : Int) := by omega
        have hl0 : i < P.length := by have := PL.out; omega
        obtain ⟨l, hl⟩ : ∃ l, P[i]? = some l := ⟨P[i], List.getElem?_eq_getElem hl0⟩
        obtain ⟨ad, hB, c1⟩ := HP.out.row.at_ hlt
        rw [List.getElem?_map, hl] at c1
        have hTT := take_all (p := fun r : Rw => r.2.1 = 32) HA.out hl
        obtain ⟨L, nl, cl, y⟩ := l
        have c1' : w.cell? (ad.add i) = some (.slice L nl cl) := c1
        have HT := Lib.hid (show nl = 32 → ∀ r ∈ P.take (i + 1), r.2.1 = 32 from hTT)
        subst hB
        clear c1 hl hl0 hTT
        by_cases h32 : nl = 32
        · have q1 : ((nl : Int) != 32) = false := by rw [h32]; rfl
          have HT2 := Lib.hid (HT.out h32)
          clear h32 HT
          go_wp2_with fail
          go_roundg (m - (i + 1))
          case measure => omega
          case rel => exact ⟨i + 1, by go_num, by omega, Nat.le_refl _, HT2, rfl⟩
        · have q1 : ((nl : Int) != 32) = true := by rw [bne_iff_ne]; omega
          clear h32 HT
          go_wp2_with fail
          go_ret
          exact ⟨rfl, Below.refl _ _⟩
    · have q1 : ((nx : Int) != 32) = true := by rw [bne_iff_ne]; omega
      subst k5
      clear hf k6
      go_enter Tryd.func21, Tryd.ntmps21
      go_wp2_with fail
      go_ret
      exact ⟨rfl, Below.refl _ _⟩
  · have q1 : ((nr : Int) != 32) = true := by rw [bne_iff_ne]; omega
    clear hf k5
    go_enter Tryd.func21, Tryd.ntmps21
    go_wp2_with fail
    go_ret
    exact ⟨rfl, Below.refl _ _⟩
theorem take_l{P:Program}{ops:Array Oper}{Q:Exit→Act→World→Prop}{md:Region.Mode}{S:World→Prop}(i:Nat){oi:Oper}{v:Value}{fuel:Nat}{listed:Array Bool}{a:Act}{w:World}(hi:ops.toList[i]?=some oi)
  (hs:Region.noSelect ops=true) (hf:Region.free md ops listed i=true) (hr:(Region.ready md ops listed).contains i=true)
  (hQ:∀c a w,Q (.panic c) (a.put oi.dst v) w→Q (.panic c) a w) (hy:YieldsIf P ops S oi v a) (hS:S w)
  (h:wpAnyH P md ops Q S fuel (listed.setIfInBounds i true) (a.put oi.dst v) w):wpAnyH P md ops Q S (fuel+1) listed a w :=
 wpAnyH_take (by rw[←Array.getElem?_toList];exact hi) hs hf hr hQ hy hS h
theorem cons_l{P:Program}{ops:Array Oper}{Q:Exit→Act→World→Prop}{md:Region.Mode}{S:World→Prop}{fuel:Nat}{listed:Array Bool}{a:Act}{w:World}{i:Nat}{o:Oper}{rs:List Nat}(ho:ops.toList[i]?=some o)
  (h:∀K':Act→World→Prop,Shut (∀a w,S w→(S w→wpAnyH P md ops Q S fuel (listed.setIfInBounds i true) a w)→K' a w)→if Region.wanted o (yielded ops a.tmps)=true then Oper.wp P o a w K' Q else K' (a.put o.dst undef) w)
  (hs:AllReadyH P md ops Q S fuel listed a w rs):AllReadyH P md ops Q S fuel listed a w (i :: rs) :=
 AllReadyH.cons (by rw[←Array.getElem?_toList];exact ho) h hs
set_option maxHeartbeats 4000000 in
set_option maxRecDepth 100000 in
theorem rcheck_ok{R A B:Option Addr}{m cr ca c:Nat}{lr x:List Nat}{P:List Rw}{w:World}(hr:Pc w (R,32,cr,lr))(hx:Pc w (A,32,ca,x))(hP:PAny w B m c P)(h32:all32 P=true){n p:Nat}(h1:1≤n)(hn:n≤4096)(hp:p < n) :
  Calls Tryd.prog 21 #[.slice R 32 cr,.int .i64 (n:Int),.int .i64 (p:Int),.slice A 32 ca,.slice B m c] w (ErrQ (checkE n p lr x (con P)) w):=by
 have HP:=Lib.hid hP
 have PL:=Lib.hid hP.len
 have hm:=hP.few
 have HR:=Lib.hid hr
 have H32:=Lib.hid (show ∀r∈P,r.2.1=32 from by
  unfold all32 at h32
  rw[List.all_eq_true] at h32
  exact fun r hr=>of_decide_eq_true (h32 r hr))
 have WY:=Lib.hid (rway_any h1 hn hp (hP.p32 h32) hx)
 obtain⟨ws,hws⟩:∃ws,ws=way n p:=⟨_,rfl⟩
 rw[←hws] at WY
 obtain⟨ps,hps⟩:∃z,z=con P:=⟨_,rfl⟩
 rw[←hps] at WY ⊢
 obtain⟨Z,hZ⟩:∃Z,Z=checkE n p lr x ps:=⟨_,rfl⟩
 rw[←hZ]
 have HZ:=Lib.hid (show Z=if ps.length≠ws.length then 50 else if lr=Sh.dg false (2 :: (eight n ++ tops ws x ps)) then 0 else 50 from by rw[hZ,hws];rfl)
 have g1:¬(n:Int) < 1:=by omega
 have g2:¬(4096:Int) < (n:Int):=by omega
 have g3:(p:Int) < (n:Int):=by omega
 clear hP hr hx h32 hws hps hZ
 go_enter Tryd.func21,Tryd.ntmps21
 go_wp2_with fail
 go_loopg [11] m (fun g1 vi wr=>∃(i:Nat),vi=.int .i64 i∧i≤m∧m - i≤g1∧w=wr)
 case atStart=>exact⟨0,rfl,Nat.zero_le _,by omega,rfl⟩
 case round =>
  obtain⟨i,rfl,him,hg,rfl⟩:=hrel
  by_cases hlt:i < m
  ·have q0:(i:Int) < (m:Int):=by omega
   have hl0:i < P.length:=by have:=PL.out;omega
   obtain⟨l,hl⟩:∃l,P[i]?=some l:=⟨P[i],List.getElem?_eq_getElem hl0⟩
   have hl32:=H32.out l (List.mem_of_getElem? hl)
   obtain⟨ad,hB,c1⟩:=HP.out.row.at_ hlt
   rw[List.getElem?_map,hl] at c1
   obtain⟨L,nl,cl,y⟩:=l
   have c1':w.cell? (ad.add i)=some (.slice L nl cl):=c1
   change nl=32 at hl32
   subst hl32 hB
   clear c1 hl hl0
   go_wp2_with fail
   go_roundg (m - (i+1))
   case measure=>omega
   case rel=>exact⟨i+1,by go_num,by omega,Nat.le_refl _,rfl⟩
  ·have q0:¬(i:Int) < (m:Int):=by omega
   go_wp2_with fail
   refine WY.out.mono ?_
   rintro e w1 ⟨A1,K,c1,us,t,fb,rfl,hfb,ho,hus,hK,hs,b1⟩
   have D1:=Lib.hid b1
   have HFB:=Lib.hid hfb
   have HS:=Lib.hid hs
   have hsl:Sl w1 A1 (K+1) ((us ++ [t]).map rwv):=by
    obtain⟨A',c',e,s',-⟩:=Sl.own ho.own
    injection e with e1 e2 e3
    subst e1
    have e4:(us ++ [t]).length=K+1:=by rw[List.length_append,hus];rfl
    rw[e4] at s'
    exact s'
   obtain⟨ad,hA1,ct⟩:=hsl.at_ (Nat.lt_succ_self K)
   have htv:((us ++ [t]).map rwv)[K]?=some (rwv t):=by
    rw[List.getElem?_map,List.getElem?_append_right (by omega),hus]
    simp
   rw[htv] at ct
   have htp:=(ho.pcs t (by simp)).1.1
   have htl:=(ho.pcs t (by simp)).2
   have HRT:=Lib.hid (HR.out.below b1)
   clear hs ho hsl htv hfb b1 hus
   obtain⟨TA,tn,tc,tx⟩:=t
   subst hA1
   obtain⟨M,hM⟩:∃M,M=K+1:=⟨_,rfl⟩
   rw[←hM]
   have m1:(M:Int) - 1=(K:Int):=by omega
   have m2:IntKind.i64.wrap (K:Int)=(K:Int):=by rw[IntKind.wrap_i64];omega
   have m3:(K:Int) < (M:Int):=by omega
   have m4:(0:Int)≤(K:Int):=by omega
   clear hM
   have ct':w1.cell? (ad.add K)=some (.slice TA tn tc):=ct
   have HHS:=Lib.hid (fun(wq:World) (hb:Below w1.heap.size w1 wq)=>rhash_p (htp.below hb) (by rw[show tn=tx.length from htp.len];change tx.length≤100 at htl;omega))
   clear ct htp htl
   cases fb with
   |false =>
    have hz:Z=50:=by
     rw[HZ.out,if_pos (of_decide_eq_false HFB.out.symm)]
    have HZ5:=Lib.hid hz
    clear hz HHS ct'
    go_wp2_with fail
    go_quiet (fail)
    go_wp2_with fail
    go_ret
    exact⟨by rw[HZ5.out];rfl,below_drewN D1.out nq⟩
   |true =>
    have hlw:=of_decide_eq_true HFB.out.symm
    have hz:Z=if lr=Sh.dg false tx then 0 else 50:=by
     have e:=(HS.out hlw).1
     change tx=_ at e
     rw[HZ.out,if_neg (by rw[hlw];simp),e]
    have HZ2:=Lib.hid hz
    have hlr:lr.length=32:=HRT.out.len.symm
    have RT:=Lib.hid (fun(wq:World) (hb:Below w1.heap.size w1 wq)=>run_txt (P:=Tryd.prog) wq 22 9 5 Tryd.underlying22 Tryd.underlying5 Tryd.underlying9 R 32 cr lr (by have h:=(HRT.out.below hb).row;rwa [show((R,32,cr,lr):Rw).2.2.2.length=32 from hlr] at h))
    have LT:=Lib.hid HRT.out.lt
    obtain⟨sr,hsr⟩:∃s,s=txt lr:=⟨_,rfl⟩
    rw[←hsr] at RT
    have KEY:=Lib.hid (show ∀wq,Below w1.heap.size w1 wq→wq.cell? (ad.add K)=some (.slice TA tn tc)∧(convert 22 9 (.slice R 32 cr)).run Tryd.prog wq=.ok (.string sr) wq∧Below w1.heap.size w1 wq from fun wq hb=>⟨keepc hb ct',RT.out wq hb,hb⟩)
    have HSR:=Lib.hid hsr
    clear hz hlr hlw HZ HFB HS hsr RT ct'
    have X0:Below w1.heap.size w1 w1:=Below.refl _ _
    obtain⟨sd,hsd⟩:∃s,s=txt (Sh.dg false tx):=⟨_,rfl⟩
    have RRT:=Lib.hid (show ∀(wq:World) (A':Option Addr) (n' c':Nat),Pc wq (A',n',c',Sh.dg false tx)→(convert 22 9 (.slice A' n' c')).run Tryd.prog wq=.ok (.string sd) wq from fun wq A' n' c' hp=>by
     rw[hsd]
     refine run_txt (P:=Tryd.prog) wq 22 9 5 Tryd.underlying22 Tryd.underlying5 Tryd.underlying9 A' n' c' (Sh.dg false tx) ?_
     have h:=hp.row
     have h2:=hp.len
     change n'=(Sh.dg false tx).length at h2
     change Sl wq A' (Sh.dg false tx).length _ at h
     rwa [←h2] at h)
    by_cases hq:lr=Sh.dg false tx
    ·have hss:sd=sr:=by rw[hsd,HSR.out,hq]
     have HZQ:=Lib.hid (show Z=0 from by rw[HZ2.out,if_pos hq])
     have t1:(sd.toList != sr.toList)=false:=by rw[hss];simp
     have t2:(sd.toList == sr.toList)=true:=by rw[hss];simp
     clear hss hq hsd
     go_wp2_with fail
     refine wp_region_held_drew (S:=fun x=>x.cell? (ad.add K)=some (.slice TA tn tc)∧(convert 22 9 (.slice R 32 cr)).run Tryd.prog x=.ok (.string sr) x∧Below w1.heap.size w1 x) (by kernel_rfl) (KEY.out _ X0.drew) (fun hHeld=>?_)
     refine take_l 0 (v:=?_) rfl (by kernel_rfl) (by kernel_rfl) (by kernel_rfl) (fun _ _ _ h=>h) (Or.inl ⟨by rfl,?_⟩) (by assumption) ?_;rotate_left
     ·intro w' hSw
      try dsimp only at hSw
      go_simp
      all_goals with_reducible rfl
     try simp only[Act.put,List.setIfInBounds_toArray,List.set_cons_zero,List.set_cons_succ]
     refine take_l 1 (v:=?_) rfl (by kernel_rfl) (by kernel_rfl) (by kernel_rfl) (fun _ _ _ h=>h) (Or.inl ⟨by rfl,?_⟩) (by assumption) ?_;rotate_left
     ·intro w' hSw
      try dsimp only at hSw
      go_simp
      all_goals with_reducible rfl
     try simp only[Act.put,List.setIfInBounds_toArray,List.set_cons_zero,List.set_cons_succ]
     refine take_l 2 (v:=?_) rfl (by kernel_rfl) (by kernel_rfl) (by kernel_rfl) (fun _ _ _ h=>h) (Or.inl ⟨by rfl,?_⟩) (by assumption) ?_;rotate_left
     ·intro w' hSw
      try dsimp only at hSw
      go_simp
      all_goals with_reducible rfl
     try simp only[Act.put,List.setIfInBounds_toArray,List.set_cons_zero,List.set_cons_succ]
     refine take_l 3 (v:=?_) rfl (by kernel_rfl) (by kernel_rfl) (by kernel_rfl) (fun _ _ _ h=>h) (Or.inl ⟨by rfl,?_⟩) (by assumption) ?_;rotate_left
     ·intro w' hSw
      try dsimp only at hSw
      go_simp
      all_goals with_reducible rfl
     try simp only[Act.put,List.setIfInBounds_toArray,List.set_cons_zero,List.set_cons_succ]
     refine take_l 4 (v:=?_) rfl (by kernel_rfl) (by kernel_rfl) (by kernel_rfl) (fun _ _ _ h=>h) (Or.inl ⟨by rfl,?_⟩) (by assumption) ?_;rotate_left
     ·intro w' hSw
      try dsimp only at hSw
      go_simp
      all_goals with_reducible rfl
     try simp only[Act.put,List.setIfInBounds_toArray,List.set_cons_zero,List.set_cons_succ]
     refine take_l 5 (v:=?_) rfl (by kernel_rfl) (by kernel_rfl) (by kernel_rfl) (fun _ _ _ h=>h) (Or.inl ⟨by rfl,?_⟩) (by assumption) ?_;rotate_left
     ·intro w' hSw
      try dsimp only at hSw
      go_simp
      all_goals with_reducible rfl
     try simp only[Act.put,List.setIfInBounds_toArray,List.set_cons_zero,List.set_cons_succ]
     refine take_l 6 (v:=?_) rfl (by kernel_rfl) (by kernel_rfl) (by kernel_rfl) (fun _ _ _ h=>h) (Or.inl ⟨by rfl,?_⟩) (by assumption) ?_;rotate_left
     ·intro w' hSw
      try dsimp only at hSw
      go_simp
      all_goals with_reducible rfl
     try simp only[Act.put,List.setIfInBounds_toArray,List.set_cons_zero,List.set_cons_succ]
     refine take_l 7 (v:=?_) rfl (by kernel_rfl) (by kernel_rfl) (by kernel_rfl) (fun _ _ _ h=>h) (Or.inl ⟨by rfl,?_⟩) (by assumption) ?_;rotate_left
     ·intro w' hSw
      try dsimp only at hSw
      go_simp
      all_goals with_reducible rfl
     try simp only[Act.put,List.setIfInBounds_toArray,List.set_cons_zero,List.set_cons_succ]
     refine take_l 8 (v:=?_) rfl (by kernel_rfl) (by kernel_rfl) (by kernel_rfl) (fun _ _ _ h=>h) (Or.inl ⟨by rfl,?_⟩) (by assumption) ?_;rotate_left
     ·intro w' hSw
      try dsimp only at hSw
      go_simp
      all_goals with_reducible rfl
     try simp only[Act.put,List.setIfInBounds_toArray,List.set_cons_zero,List.set_cons_succ]
     refine take_l 11 (v:=?_) rfl (by kernel_rfl) (by kernel_rfl) (by kernel_rfl) (fun _ _ _ h=>h) (Or.inl ⟨by rfl,?_⟩) (by assumption) ?_;rotate_left
     ·intro w' hSw
      try dsimp only at hSw
      go_simp
      all_goals with_reducible rfl
     try simp only[Act.put,List.setIfInBounds_toArray,List.set_cons_zero,List.set_cons_succ]
     refine take_l 12 (v:=?_) rfl (by kernel_rfl) (by kernel_rfl) (by kernel_rfl) (fun _ _ _ h=>h) (Or.inl ⟨by rfl,?_⟩) (by assumption) ?_;rotate_left
     ·intro w' hSw
      try dsimp only at hSw
      go_simp
      all_goals with_reducible rfl
     try simp only[Act.put,List.setIfInBounds_toArray,List.set_cons_zero,List.set_cons_succ]
     refine wpAnyH_ready (rs:=[9]) (by kernel_rfl) (by simp) ?_
     refine cons_l rfl (fun K0 hK=>?_) AllReadyH.nil
     (try dsimp only[List.getElem_toArray,List.getElem_cons_succ,List.getElem_cons_zero])
     go_simp
     go_at_call 33;(with_reducible refine(HHS.out _ (by first|exact X0|exact X0.drew)).mono ?_);rintro e w2 ⟨HA,hn,hc,rfl,hp,hb⟩;have X2:=X0.drew.trans (hb.mono X0.drew.size);have Y2:=Lib.hid hp;have RR:=RRT.out w2 HA hn hc hp.1;clear hp hb
     refine hK.out _ _ (KEY.out _ X2) (fun hHeld=>?_)
     clear hK K0
     try simp only[Act.put,List.setIfInBounds_toArray,List.set_cons_zero,List.set_cons_succ]
     refine wpAnyH_ready (rs:=[10]) (by kernel_rfl) (by simp) ?_
     refine cons_l rfl (fun K0 hK=>?_) AllReadyH.nil
     (try dsimp only[List.getElem_toArray,List.getElem_cons_succ,List.getElem_cons_zero])
     go_simp
     refine hK.out _ _ (KEY.out _ X2) (fun hHeld=>?_)
     clear hK K0
     try simp only[Act.put,List.setIfInBounds_toArray,List.set_cons_zero,List.set_cons_succ]
     refine take_l 13 (v:=?_) rfl (by kernel_rfl) (by kernel_rfl) (by kernel_rfl) (fun _ _ _ h=>h) (Or.inl ⟨by rfl,?_⟩) (by assumption) ?_;rotate_left
     ·intro w' hSw
      try dsimp only at hSw
      go_simp
      all_goals with_reducible rfl
     try simp only[Act.put,List.setIfInBounds_toArray,List.set_cons_zero,List.set_cons_succ]
     refine take_l 14 (v:=?_) rfl (by kernel_rfl) (by kernel_rfl) (by kernel_rfl) (fun _ _ _ h=>h) (Or.inl ⟨by rfl,?_⟩) (by assumption) ?_;rotate_left
     ·intro w' hSw
      try dsimp only at hSw
      go_simp
      all_goals with_reducible rfl
     try simp only[Act.put,List.setIfInBounds_toArray,List.set_cons_zero,List.set_cons_succ]
     refine wpAnyH_done (by kernel_rfl) ?_ _
     go_wp2_with fail
     go_ret
     exact⟨by rw[HZQ.out];rfl,D1.out.trans (X2.mono D1.out.size)⟩
    ·have HZQ:=Lib.hid (show Z=50 from by rw[HZ2.out,if_neg hq])
     have hss:sd≠sr:=fun h=>hq (txt_inj LT.out (dg32_lt _) (by rw[←hsd,←HSR.out];exact h.symm))
     have hst:sd.toList≠sr.toList:=fun h=>hss (by rw[ByteArray.toList_eq,ByteArray.toList_eq] at h;exact Go.WideShapes.bytes_inj h)
     have t1:(sd.toList != sr.toList)=true:=by rw[bne_iff_ne];exact hst
     have t2:(sd.toList == sr.toList)=false:=by rw[beq_eq_false_iff_ne];exact hst
     clear hst
     clear hss hq hsd
     go_wp2_with fail
     refine wp_region_held_drew (S:=fun x=>x.cell? (ad.add K)=some (.slice TA tn tc)∧(convert 22 9 (.slice R 32 cr)).run Tryd.prog x=.ok (.string sr) x∧Below w1.heap.size w1 x) (by kernel_rfl) (KEY.out _ X0.drew) (fun hHeld=>?_)
     refine take_l 0 (v:=?_) rfl (by kernel_rfl) (by kernel_rfl) (by kernel_rfl) (fun _ _ _ h=>h) (Or.inl ⟨by rfl,?_⟩) (by assumption) ?_;rotate_left
     ·intro w' hSw
      try dsimp only at hSw
      go_simp
      all_goals with_reducible rfl
     try simp only[Act.put,List.setIfInBounds_toArray,List.set_cons_zero,List.set_cons_succ]
     refine take_l 1 (v:=?_) rfl (by kernel_rfl) (by kernel_rfl) (by kernel_rfl) (fun _ _ _ h=>h) (Or.inl ⟨by rfl,?_⟩) (by assumption) ?_;rotate_left
     ·intro w' hSw
      try dsimp only at hSw
      go_simp
      all_goals with_reducible rfl
     try simp only[Act.put,List.setIfInBounds_toArray,List.set_cons_zero,List.set_cons_succ]
     refine take_l 2 (v:=?_) rfl (by kernel_rfl) (by kernel_rfl) (by kernel_rfl) (fun _ _ _ h=>h) (Or.inl ⟨by rfl,?_⟩) (by assumption) ?_;rotate_left
     ·intro w' hSw
      try dsimp only at hSw
      go_simp
      all_goals with_reducible rfl
     try simp only[Act.put,List.setIfInBounds_toArray,List.set_cons_zero,List.set_cons_succ]
     refine take_l 3 (v:=?_) rfl (by kernel_rfl) (by kernel_rfl) (by kernel_rfl) (fun _ _ _ h=>h) (Or.inl ⟨by rfl,?_⟩) (by assumption) ?_;rotate_left
     ·intro w' hSw
      try dsimp only at hSw
      go_simp
      all_goals with_reducible rfl
     try simp only[Act.put,List.setIfInBounds_toArray,List.set_cons_zero,List.set_cons_succ]
     refine take_l 4 (v:=?_) rfl (by kernel_rfl) (by kernel_rfl) (by kernel_rfl) (fun _ _ _ h=>h) (Or.inl ⟨by rfl,?_⟩) (by assumption) ?_;rotate_left
     ·intro w' hSw
      try dsimp only at hSw
      go_simp
      all_goals with_reducible rfl
     try simp only[Act.put,List.setIfInBounds_toArray,List.set_cons_zero,List.set_cons_succ]
     refine take_l 5 (v:=?_) rfl (by kernel_rfl) (by kernel_rfl) (by kernel_rfl) (fun _ _ _ h=>h) (Or.inl ⟨by rfl,?_⟩) (by assumption) ?_;rotate_left
     ·intro w' hSw
      try dsimp only at hSw
      go_simp
      all_goals with_reducible rfl
     try simp only[Act.put,List.setIfInBounds_toArray,List.set_cons_zero,List.set_cons_succ]
     refine take_l 6 (v:=?_) rfl (by kernel_rfl) (by kernel_rfl) (by kernel_rfl) (fun _ _ _ h=>h) (Or.inl ⟨by rfl,?_⟩) (by assumption) ?_;rotate_left
     ·intro w' hSw
      try dsimp only at hSw
      go_simp
      all_goals with_reducible rfl
     try simp only[Act.put,List.setIfInBounds_toArray,List.set_cons_zero,List.set_cons_succ]
     refine take_l 7 (v:=?_) rfl (by kernel_rfl) (by kernel_rfl) (by kernel_rfl) (fun _ _ _ h=>h) (Or.inl ⟨by rfl,?_⟩) (by assumption) ?_;rotate_left
     ·intro w' hSw
      try dsimp only at hSw
      go_simp
      all_goals with_reducible rfl
     try simp only[Act.put,List.setIfInBounds_toArray,List.set_cons_zero,List.set_cons_succ]
     refine take_l 8 (v:=?_) rfl (by kernel_rfl) (by kernel_rfl) (by kernel_rfl) (fun _ _ _ h=>h) (Or.inl ⟨by rfl,?_⟩) (by assumption) ?_;rotate_left
     ·intro w' hSw
      try dsimp only at hSw
      go_simp
      all_goals with_reducible rfl
     try simp only[Act.put,List.setIfInBounds_toArray,List.set_cons_zero,List.set_cons_succ]
     refine take_l 11 (v:=?_) rfl (by kernel_rfl) (by kernel_rfl) (by kernel_rfl) (fun _ _ _ h=>h) (Or.inl ⟨by rfl,?_⟩) (by assumption) ?_;rotate_left
     ·intro w' hSw
      try dsimp only at hSw
      go_simp
      all_goals with_reducible rfl
     try simp only[Act.put,List.setIfInBounds_toArray,List.set_cons_zero,List.set_cons_succ]
     refine take_l 12 (v:=?_) rfl (by kernel_rfl) (by kernel_rfl) (by kernel_rfl) (fun _ _ _ h=>h) (Or.inl ⟨by rfl,?_⟩) (by assumption) ?_;rotate_left
     ·intro w' hSw
      try dsimp only at hSw
      go_simp
      all_goals with_reducible rfl
     try simp only[Act.put,List.setIfInBounds_toArray,List.set_cons_zero,List.set_cons_succ]
     refine wpAnyH_ready (rs:=[9]) (by kernel_rfl) (by simp) ?_
     refine cons_l rfl (fun K0 hK=>?_) AllReadyH.nil
     (try dsimp only[List.getElem_toArray,List.getElem_cons_succ,List.getElem_cons_zero])
     go_simp
     go_at_call 33;(with_reducible refine(HHS.out _ (by first|exact X0|exact X0.drew)).mono ?_);rintro e w2 ⟨HA,hn,hc,rfl,hp,hb⟩;have X2:=X0.drew.trans (hb.mono X0.drew.size);have Y2:=Lib.hid hp;have RR:=RRT.out w2 HA hn hc hp.1;clear hp hb
     refine hK.out _ _ (KEY.out _ X2) (fun hHeld=>?_)
     clear hK K0
     try simp only[Act.put,List.setIfInBounds_toArray,List.set_cons_zero,List.set_cons_succ]
     refine wpAnyH_ready (rs:=[10]) (by kernel_rfl) (by simp) ?_
     refine cons_l rfl (fun K0 hK=>?_) AllReadyH.nil
     (try dsimp only[List.getElem_toArray,List.getElem_cons_succ,List.getElem_cons_zero])
     go_simp
     refine hK.out _ _ (KEY.out _ X2) (fun hHeld=>?_)
     clear hK K0
     try simp only[Act.put,List.setIfInBounds_toArray,List.set_cons_zero,List.set_cons_succ]
     refine take_l 13 (v:=?_) rfl (by kernel_rfl) (by kernel_rfl) (by kernel_rfl) (fun _ _ _ h=>h) (Or.inl ⟨by rfl,?_⟩) (by assumption) ?_;rotate_left
     ·intro w' hSw
      try dsimp only at hSw
      go_simp
      all_goals with_reducible rfl
     try simp only[Act.put,List.setIfInBounds_toArray,List.set_cons_zero,List.set_cons_succ]
     refine take_l 14 (v:=?_) rfl (by kernel_rfl) (by kernel_rfl) (by kernel_rfl) (fun _ _ _ h=>h) (Or.inl ⟨by rfl,?_⟩) (by assumption) ?_;rotate_left
     ·intro w' hSw
      try dsimp only at hSw
      go_simp
      all_goals with_reducible rfl
     try simp only[Act.put,List.setIfInBounds_toArray,List.set_cons_zero,List.set_cons_succ]
     refine wpAnyH_done (by kernel_rfl) ?_ _
     go_wp2_with fail
     go_ret
     exact⟨by rw[HZQ.out];rfl,D1.out.trans (X2.mono D1.out.size)⟩
end Go.Proofs.YtcnlmekjcffohaaDoor.Mk
