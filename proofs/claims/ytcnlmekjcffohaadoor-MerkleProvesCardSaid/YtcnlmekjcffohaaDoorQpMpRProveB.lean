/- Joined texts. -/
import Derived.Test.YtcnlmekjcffohaaDoorQpMpRProve
import Derived.Test.YtcnlmekjcffohaaDoorQpMpProveB
set_option linter.unusedVariables false
namespace Go.Proofs.YtcnlmekjcffohaaDoor.Mk
open Go.RowKit Go.Proofs.YtcnlmekjcffohaaDoor.Gn Go.Proofs.YtcnlmekjcffohaaDoor.Fd Go.Deep
set_option maxHeartbeats 4000000 in
set_option maxRecDepth 100000 in
theorem rok_any{B:Option Addr}{m c:Nat}{P:List Rw}{w:World}(hP:PAny w B m c P)(Z:Int)(hZ:Z=if all32 P=true then 0 else 1) :
  Calls Tryd.prog 38 #[.slice B m c] w fun e w'=>e=.returned (.int .i64 Z)∧w=w':=by
 have HP:=Lib.hid hP
 have PL:=Lib.hid hP.len
 have hm:=hP.few
 have HZ:=Lib.hid hZ
 clear hP hZ
 go_enter Tryd.func38,Tryd.ntmps38
 go_wp2_with fail
 go_loopg [3] m (fun g1 vi wr=>∃(i:Nat),vi=.int .i64 i∧i≤m∧m - i≤g1∧Hid (∀r∈P.take i,r.2.1=32)∧w=wr)
 case atStart=>exact⟨0,rfl,Nat.zero_le _,by omega,Lib.hid (fun r h=>by simp at h),rfl⟩
 case round =>
  obtain⟨i,rfl,him,hg,HA,rfl⟩:=hrel
  by_cases hlt:i < m
  ·have q0:(i:Int) < (m:Int):=by omega
   have hl0:i < P.length:=by have:=PL.out;omega
   obtain⟨l,hl⟩:∃l,P[i]?=some l:=⟨P[i],List.getElem?_eq_getElem hl0⟩
   obtain⟨ad,hB,c1⟩:=HP.out.row.at_ hlt
   rw[List.getElem?_map,hl] at c1
   have hTT:=take_all (p:=fun r:Rw=>r.2.1=32) HA.out hl
   have HN:=Lib.hid (fun h:l.2.1≠32=>all32_no (List.mem_of_getElem? hl) h)
   obtain⟨L,nl,cl,y⟩:=l
   have c1':w.cell? (ad.add i)=some (.slice L nl cl):=c1
   have HT:=Lib.hid (show nl=32→∀r∈P.take (i+1),r.2.1=32 from hTT)
   subst hB
   clear c1 hl hl0 hTT
   by_cases h32:nl=32
   ·have q1:((nl:Int) != 32)=false:=by rw[h32];rfl
    have HT2:=Lib.hid (HT.out h32)
    clear h32 HT
    go_wp2_with fail
    go_roundg (m - (i+1))
    case measure=>omega
    case rel=>exact⟨i+1,by go_num,by omega,Nat.le_refl _,HT2,rfl⟩
   ·have q1:((nl:Int) != 32)=true:=by rw[bne_iff_ne];omega
    have HZ1:=Lib.hid (show Z=1 from by rw[HZ.out,if_neg (by rw[HN.out h32];decide)])
    clear h32 HT
    go_wp2_with fail
    go_ret
    exact⟨by rw[HZ1.out];rfl,rfl⟩
  ·have q0:¬(i:Int) < (m:Int):=by omega
   have HZ1:=Lib.hid (show Z=0 from by
    rw[HZ.out,if_pos]
    unfold all32
    rw[List.all_eq_true]
    intro r hr
    refine decide_eq_true (HA.out r ?_)
    rw[List.take_of_length_le (by have:=PL.out;omega)]
    exact hr)
   go_wp2_with fail
   go_ret
   exact⟨by rw[HZ1.out];rfl,rfl⟩
def NoneQ(w:World)(e:Ending)(w':World):Prop:=e=.returned (.tuple #[.slice none 0 0,.int .i64 1])∧Below w.heap.size w w'
def badP(p:Int)(m:Nat)(P:List Rw):Prop:=all32 P=false∨p < 0∨(m:Int)≤p
set_option maxHeartbeats 2000000 in
set_option maxRecDepth 100000 in
theorem RProve_bad {B : Option Addr} {m c : Nat} {P : List Rw} {w : World} (hP : PAny w B m c P) {p : Int} (hb : badP p m P) :
    Calls Tryd.prog 18 #[.slice B m c, .int .i64 p] w (NoneQ w) := by
  cases ha : all32 P with
  | false =>
    have OK := Lib.hid (rok_any hP 1 (by rw [ha]; rfl))
    clear hP ha hb
    go_enter Tryd.func18, Tryd.ntmps18
    go_wp2_with (go_at_call 38; (with_reducible refine OK.out.mono ?_); rintro e w1 ⟨rfl, rfl⟩)
    go_ret2
    exact ⟨rfl, Below.refl _ _⟩
  | true =>
    have OK := Lib.hid (rok_any hP 0 (by rw [ha]; rfl))
    by_cases h0 : p < 0
    · clear hP ha hb
      go_enter Tryd.func18, Tryd.ntmps18
      go_wp2_with (go_at_call 38; (with_reducible refine OK.out.mono ?_); rintro e w1 ⟨rfl, rfl⟩)
      go_ret2
      exact ⟨rfl, Below.refl _ _⟩
    · have h1 : (m : Int) ≤ p := by
        rcases hb with h | h | h
        · rw [ha] at h; cases h
        · omega
        · exact h
      clear hP ha hb
      go_enter Tryd.func18, Tryd.ntmps18
      go_wp2_with (go_at_call 38; (with_reducible refine OK.out.mono ?_); rintro e w1 ⟨rfl, rfl⟩)
      go_ret2
      exact ⟨rfl, Below.refl _ _⟩
def RProveQ(P:List Rw)(l:List (List Nat))(w:World)(e:Ending)(w':World):Prop :=
 ∃A n cap us,e=.returned (.tuple #[.slice A n cap,.int .i64 0])∧w'.ownsRow w.heap.size 22 1 (.slice A n cap) n (us.map rwv)∧us.length=n∧(∀r∈us,Po w' r∨r∈P)∧con us=l∧Below w.heap.size w w'
set_option maxHeartbeats 2000000 in
set_option maxRecDepth 100000 in
theorem RProve_good{B:Option Addr}{m c:Nat}{P:List Rw}{w:World}(hP:PAny w B m c P)(h32:all32 P=true){k:Nat}(hk:k < m) :
  Calls Tryd.prog 18 #[.slice B m c,.int .i64 (k:Int)] w (RProveQ P (pathL (con P) k) w):=by
 have OK:=Lib.hid (rok_any hP 0 (by rw[h32];rfl))
 have hf:=hP.few
 have WK:=Lib.hid (rwalk_any m m (Nat.le_refl _) (by omega) (by omega) k hk w P B c (hP.p32 h32))
 have hk0:¬(k:Int) < 0:=by omega
 have hk1:¬(m:Int)≤(k:Int):=by omega
 generalize pathL (con P) k=pa at WK ⊢
 clear hP h32
 go_enter Tryd.func18,Tryd.ntmps18
 go_wp2_with (first|(go_at_call 38;(with_reducible refine OK.out.mono ?_);rintro e w1 ⟨rfl,rfl⟩)|(go_at_call 45;(with_reducible refine WK.out.mono ?_);rintro e w1 ⟨T,us,rfl,ho,hps,hx,hb⟩;have O1:=Lib.hid ho;have PS:=Lib.hid hps;have X1:=Lib.hid hx;have B1:=Lib.hid hb;clear ho hps hx hb WK))
 go_ret2
 have h:=O1.out
 obtain⟨A,cap,rfl,-, -, -, -, -⟩:=Sl.own h
 exact⟨A,us.length,cap,us,rfl,h,rfl,PS.out,X1.out,B1.out⟩
set_option maxHeartbeats 2000000 in
set_option maxRecDepth 100000 in
theorem Prove_bad {w : World} {B : Option Addr} {m c : Nat} {P : List Rw} (h : PAny w B m c P) {p : Int} (hb : badP p m P) :
    Calls Tryd.prog 17 #[.slice B m c, .int .i64 p] w (NoneQ w) := by
  have hf := h.few
  have C1 := refused_ok (c := c) (n := m) h.lc (fun x hx => by have := (h.pcs x hx).2; omega) (by omega)
  cases ha : all32 P with
  | false =>
    rw [ha, if_neg (by decide)] at C1
    have C1 := Lib.hid C1
    clear h ha hb
    go_enter Tryd.func17, Tryd.ntmps17
    go_wp2_with (go_at_call 35; (with_reducible refine C1.out.mono ?_); rintro e w1 ⟨rfl, b1⟩; have D1 := Lib.hid b1; clear b1)
    go_ret2
    exact ⟨rfl, D1.out⟩
  | true =>
    rw [ha, if_pos rfl] at C1
    have C1 := Lib.hid C1
    by_cases h0 : p < 0
    · clear h ha hb
      go_enter Tryd.func17, Tryd.ntmps17
      go_wp2_with (go_at_call 35; (with_reducible refine C1.out.mono ?_); rintro e w1 ⟨rfl, b1⟩; have D1 := Lib.hid b1; clear b1)
      go_ret2
      exact ⟨rfl, D1.out⟩
    · have h1 : (m : Int) ≤ p := by
        rcases hb with h | h | h
        · rw [ha] at h; cases h
        · omega
        · exact h
      clear h ha hb
      go_enter Tryd.func17, Tryd.ntmps17
      go_wp2_with (go_at_call 35; (with_reducible refine C1.out.mono ?_); rintro e w1 ⟨rfl, b1⟩; have D1 := Lib.hid b1; clear b1)
      go_ret2
      exact ⟨rfl, D1.out⟩
end Go.Proofs.YtcnlmekjcffohaaDoor.Mk
