/- Joined texts. -/
import Derived.Test.YtnnfpmebopgogaaDoorQkMrClimb
import Derived.Test.YtnnfpmebopgogaaDoorQkMpProve
set_option linter.unusedVariables false
namespace Go.Proofs.YtnnfpmebopgogaaDoor.Mk
open Go.RowKit Go.Proofs.YtnnfpmebopgogaaDoor.Gn Go.Proofs.YtnnfpmebopgogaaDoor.Fd Go.Deep
set_option maxHeartbeats 4000000 in
set_option maxRecDepth 100000 in
theorem rsized_any{B:Option Addr}{m c:Nat}{P:List Rw}{w:World}(hP:PAny w B m c P)(Z:Bool)(hZ:Z=all32 P) :
  Calls Tryd.prog 54 #[.slice B m c] w fun e w'=>e=.returned (.bool Z)∧w=w':=by
 have HP:=Lib.hid hP
 have PL:=Lib.hid hP.len
 have hm:=hP.few
 have HZ:=Lib.hid hZ
 clear hP hZ
 go_enter Tryd.func54,Tryd.ntmps54
 go_wp2_with fail
 go_loopg [3] m (fun g1 vi wr=>∃(i:Nat),vi=.int .i64 i∧i≤m∧m - i≤g1∧Hid (∀r∈P.take i,r.2.1=32)∧w=wr)
 case atStart=>exact⟨0,rfl,Nat.zero_le _,by omega,Lib.hid (fun r h=>by simp at h),rfl⟩
 case round =>
  obtain⟨i,rfl,him,hg,HA,rfl⟩:=hrel
  by_cases hlt:i < m
  ·have q0:(i:Int) < (m:Int):=by omega
   have hl0:i < P.length:=by have:=PL.out;omega
   obtain⟨l,hl⟩:∃l,P[i]?=some l:=⟨P[i],List.getElem?_eq_getElem hl0⟩
   obtain⟨ad,hB,c1⟩:=HP.out.row.at_ hlt
   rw[List.getElem?_map,hl] at c1
   have hTT:=take_all (p:=fun r:Rw=>r.2.1=32) HA.out hl
   have HN:=Lib.hid (fun h:l.2.1≠32=>all32_no (List.mem_of_getElem? hl) h)
   obtain⟨L,nl,cl,y⟩:=l
   have c1':w.cell? (ad.add i)=some (.slice L nl cl):=c1
   have HT:=Lib.hid (show nl=32→∀r∈P.take (i+1),r.2.1=32 from hTT)
   subst hB
   clear c1 hl hl0 hTT
   by_cases h32:nl=32
   ·have q1:((nl:Int) != 32)=false:=by rw[h32];rfl
    have HT2:=Lib.hid (HT.out h32)
    clear h32 HT
    go_wp2_with fail
    go_roundg (m - (i+1))
    case measure=>omega
    case rel=>exact⟨i+1,by go_num,by omega,Nat.le_refl _,HT2,rfl⟩
   ·have q1:((nl:Int) != 32)=true:=by rw[bne_iff_ne];omega
    have HZ1:=Lib.hid (show Z=false from by rw[HZ.out,HN.out h32])
    clear h32 HT
    go_wp2_with fail
    go_ret
    exact⟨by rw[HZ1.out];rfl,rfl⟩
  ·have q0:¬(i:Int) < (m:Int):=by omega
   have HZ1:=Lib.hid (show Z=true from by
    rw[HZ.out]
    unfold all32
    rw[List.all_eq_true]
    intro r hr
    refine decide_eq_true (HA.out r ?_)
    rw[List.take_of_length_le (by have:=PL.out;omega)]
    exact hr)
   go_wp2_with fail
   go_ret
   exact⟨by rw[HZ1.out];rfl,rfl⟩
def badS(f t:Int)(m:Nat)(P:List Rw):Prop:=all32 P=false∨f < 0∨t≤f∨(m:Int) < t
set_option maxHeartbeats 2000000 in
set_option maxRecDepth 100000 in
theorem RProveRange_bad{B:Option Addr}{m c:Nat}{P:List Rw}{w:World}(hP:PAny w B m c P){f t:Int}(hb:badS f t m P) :
  Calls Tryd.prog 24 #[.slice B m c,.int .i64 f,.int .i64 t] w (NoneQ w):=by
 have hf:=hP.few
 cases ha:all32 P with
 |false =>
  have OK:=Lib.hid (rok_any hP 1 (by rw[ha];rfl))
  clear hb ha hP
  go_enter Tryd.func24,Tryd.ntmps24
  go_wp2_with (go_at_call 41;(with_reducible refine OK.out.mono ?_);rintro e w1 ⟨rfl,rfl⟩)
  go_ret2
  exact⟨rfl,Below.refl _ _⟩
 |true =>
  have OK:=Lib.hid (rok_any hP 0 (by rw[ha];rfl))
  by_cases c1:f < 0
  ·clear hb ha hP
   go_enter Tryd.func24,Tryd.ntmps24
   go_wp2_with (go_at_call 41;(with_reducible refine OK.out.mono ?_);rintro e w1 ⟨rfl,rfl⟩)
   go_ret2
   exact⟨rfl,Below.refl _ _⟩
  by_cases c2:t≤f
  ·clear hb ha hP
   go_enter Tryd.func24,Tryd.ntmps24
   go_wp2_with (go_at_call 41;(with_reducible refine OK.out.mono ?_);rintro e w1 ⟨rfl,rfl⟩)
   go_ret2
   exact⟨rfl,Below.refl _ _⟩
  have c3:(m:Int) < t:=by
   rcases hb with h|h|h|h
   ·rw[ha] at h;cases h
   ·omega
   ·omega
   ·exact h
  clear hb ha hP
  go_enter Tryd.func24,Tryd.ntmps24
  go_wp2_with (go_at_call 41;(with_reducible refine OK.out.mono ?_);rintro e w1 ⟨rfl,rfl⟩)
  go_ret2
  exact⟨rfl,Below.refl _ _⟩
set_option maxHeartbeats 2000000 in
set_option maxRecDepth 100000 in
theorem RProveRange_good{B:Option Addr}{m c:Nat}{P:List Rw}{w:World}(hP:PAny w B m c P)(h32:all32 P=true){f t:Nat}(hft:f < t)(htm:t≤m) :
  Calls Tryd.prog 24 #[.slice B m c,.int .i64 (f:Int),.int .i64 (t:Int)] w fun e w'=>∃A n cap us,e=.returned (.tuple #[.slice A n cap,.int .i64 0])∧w'.ownsRow w.heap.size 22 1 (.slice A n cap) n (us.map rwv)∧(∀r∈us,Po w' r∨r∈P)∧con us=outs (con P) f t 0 m∧Below w.heap.size w w':=by
 have OK:=Lib.hid (rok_any hP 0 (by rw[h32];rfl))
 have hf:=hP.few
 have OU:=Lib.hid (show Calls Tryd.prog 52 #[.slice B m c,.int .i64 0,.int .i64 (f:Int),.int .i64 (t:Int)] w (OutQ P (outs (con P) f t 0 m) w) from router_any (con P) f t (by omega) (by omega) m m (Nat.le_refl _) (by omega) (by omega) 0 (by omega) w P B c (hP.p32 h32) (by unfold sub;rw[List.drop_zero,List.take_of_length_le (by rw[con_len,hP.len];omega)]))
 have q1:¬(f:Int) < 0:=by omega
 have q2:¬(t:Int)≤(f:Int):=by omega
 have q3:¬(m:Int) < (t:Int):=by omega
 generalize outs (con P) f t 0 m=pa at OU ⊢
 clear hP h32
 go_enter Tryd.func24,Tryd.ntmps24
 go_wp2_with (first|(go_at_call 41;(with_reducible refine OK.out.mono ?_);rintro e w1 ⟨rfl,rfl⟩)|(go_at_call 52;(with_reducible refine OU.out.mono ?_);rintro e w1 ⟨A,n,cap,us,rfl,ho,hps,hx,hb⟩;have O1:=Lib.hid ho;have PS:=Lib.hid hps;have X1:=Lib.hid hx;have B1:=Lib.hid hb;clear ho hps hx hb OU))
 go_ret2
 exact⟨A,n,cap,us,rfl,O1.out,PS.out,X1.out,B1.out⟩
def badR(n f:Int)(nr ml:Nat)(Lv Q:List Rw):Prop:=n < 1∨4096 < n∨ml=0∨f < 0∨n - ml < f∨nr≠32∨all32 Lv=false∨all32 Q=false
set_option maxHeartbeats 4000000 in
set_option maxRecDepth 100000 in
theorem rcheckR_bad{R BL B:Option Addr}{nr cr ml cl m c:Nat}{Lv Q:List Rw}{w:World}(hL:PAny w BL ml cl Lv)(hQ:PAny w B m c Q){n f:Int}(hfb : -9223372036854775808≤f∧f≤9223372036854775807)(hb:badR n f nr ml Lv Q) :
  Calls Tryd.prog 26 #[.slice R nr cr,.int .i64 n,.int .i64 f,.slice BL ml cl,.slice B m c] w (OneQ w):=by
 have hlf:=hL.few
 have hqf:=hQ.few
 by_cases c1:n < 1
 ·clear hb
  go_enter Tryd.func26,Tryd.ntmps26
  go_wp2_with fail
  go_ret
  exact⟨rfl,Below.refl _ _⟩
 by_cases c2:(4096:Int) < n
 ·clear hb
  go_enter Tryd.func26,Tryd.ntmps26
  go_wp2_with fail
  go_ret
  exact⟨rfl,Below.refl _ _⟩
 by_cases c3:ml=0
 ·subst c3
  clear hb
  go_enter Tryd.func26,Tryd.ntmps26
  go_wp2_with fail
  go_ret
  exact⟨rfl,Below.refl _ _⟩
 have q3:((ml:Int) == 0)=false:=beq_eq_false_iff_ne.2 (by omega)
 by_cases c4:f < 0
 ·clear hb
  go_enter Tryd.func26,Tryd.ntmps26
  go_wp2_with fail
  go_ret
  exact⟨rfl,Below.refl _ _⟩
 by_cases c5:n < f
 ·clear hb
  go_enter Tryd.func26,Tryd.ntmps26
  go_wp2_with fail
  go_ret
  exact⟨rfl,Below.refl _ _⟩
 by_cases c6:n - f < (ml:Int)
 ·clear hb
  go_enter Tryd.func26,Tryd.ntmps26
  go_wp2_with fail
  go_ret
  exact⟨rfl,Below.refl _ _⟩
 by_cases c7:nr=32
 rotate_left
 ·have q7:((nr:Int) != 32)=true:=by rw[bne_iff_ne];omega
  clear hb
  go_enter Tryd.func26,Tryd.ntmps26
  go_wp2_with fail
  go_ret
  exact⟨rfl,Below.refl _ _⟩
 subst c7
 cases ha:all32 Lv with
 |false =>
  have Z1:=Lib.hid (rsized_any hL false ha.symm)
  clear hb ha
  go_enter Tryd.func26,Tryd.ntmps26
  go_wp2_with (go_at_call 54;(with_reducible refine Z1.out.mono ?_);rintro e w1 ⟨rfl,rfl⟩)
  go_ret
  exact⟨rfl,Below.refl _ _⟩
 |true =>
  cases hc:all32 Q with
  |false =>
   have Z1:=Lib.hid (rsized_any hL true ha.symm)
   have Z2:=Lib.hid (rsized_any hQ false hc.symm)
   clear hb ha hc
   go_enter Tryd.func26,Tryd.ntmps26
   go_wp2_with (first|(go_at_call 54;(with_reducible refine Z1.out.mono ?_);rintro e w1 ⟨rfl,rfl⟩)|(go_at_call 54;(with_reducible refine Z2.out.mono ?_);rintro e w1 ⟨rfl,rfl⟩))
   go_ret
   exact⟨rfl,Below.refl _ _⟩
  |true =>
   exfalso
   rcases hb with h|h|h|h|h|h|h|h
   ·exact c1 h
   ·exact c2 h
   ·exact c3 h
   ·exact c4 h
   ·omega
   ·exact h rfl
   ·rw[ha] at h;cases h
   ·rw[hc] at h;cases h
def checkRE(n f:Nat)(lr:List Nat)(lv pr:List (List Nat)):Int:=if pr.length≠(bes f (f+lv.length) 0 n).length then 50 else if lr=rootOf n (upv lv pr f (f+lv.length) 0 n 0) then 0 else 50
set_option maxHeartbeats 8000000 in
set_option maxRecDepth 100000 in
theorem rcheckR_ok{R BL B:Option Addr}{cr ml cl m c:Nat}{lr:List Nat}{Lv Q:List Rw}{w:World}(hr:Pc w (R,32,cr,lr))(hL:PAny w BL ml cl Lv)(hl32:all32 Lv=true)(hQ:PAny w B m c Q)(hq32:all32 Q=true){n f:Nat}(hn:n≤4096)(h1:1≤ml)(hfn:f+ml≤n) :
  Calls Tryd.prog 26 #[.slice R 32 cr,.int .i64 (n:Int),.int .i64 (f:Int),.slice BL ml cl,.slice B m c] w (ErrQ (checkRE n f lr (con Lv) (con Q)) w):=by
 have hlf:=hL.few
 have hqf:=hQ.few
 have HR:=Lib.hid hr
 have Z1:=Lib.hid (rsized_any hL true hl32.symm)
 have Z2:=Lib.hid (rsized_any hQ true hq32.symm)
 have CL:=Lib.hid (show Calls Tryd.prog 28 #[.int .i64 0,.int .i64 (n:Int),.int .i64 (f:Int),.slice BL ml cl,.slice B m c] w (ClimbQ w (con Lv) (con Q) Q m f (f+ml) 0 n 0 w) from
  rclimb_any (hL.p32 hl32) rfl (by omega) h1 (hQ.p32 hq32).pcs hQ.len (by omega) n n (Nat.le_refl _) (by omega) 0 (by omega) 0 w B m c (Below.refl _ _) ⟨by rw[List.drop_zero];exact hQ.row,rfl,hQ.cap⟩)
 obtain⟨Z,hZ⟩:∃Z,Z=checkRE n f lr (con Lv) (con Q):=⟨_,rfl⟩
 rw[←hZ]
 obtain⟨ct,hct⟩:∃z,z=(bes f (f+ml) 0 n).length:=⟨_,rfl⟩
 have HZ:=Lib.hid (show Z=if m≠ct then 50 else if lr=Sh.dg false (2 :: (eight n ++ upv (con Lv) (con Q) f (f+ml) 0 n 0)) then 0 else 50 from by rw[hZ,hct,checkRE,con_len,con_len,hL.len,hQ.len];rfl)
 have HCT:=Lib.hid hct
 have g1:¬(n:Int) < 1:=by omega
 have g2:¬(4096:Int) < (n:Int):=by omega
 have g3:((ml:Int) == 0)=false:=beq_eq_false_iff_ne.2 (by omega)
 have g4:¬(f:Int) < 0:=by omega
 have g5:¬(n:Int) < (f:Int):=by omega
 have g6:¬(n:Int) - (f:Int) < (ml:Int):=by omega
 clear hr hL hl32 hQ hq32 hZ hct
 go_enter Tryd.func26,Tryd.ntmps26
 go_wp2_with (first|(go_at_call 54;(with_reducible refine Z1.out.mono ?_);rintro e w1 ⟨rfl,rfl⟩)|(go_at_call 54;(with_reducible refine Z2.out.mono ?_);rintro e w1 ⟨rfl,rfl⟩))
 refine CL.out.mono ?_
 rintro e w1 ⟨⟨XA,xn,xc,xx⟩,R2,k,cR,j',T,us,fb,rfl,px,lx,rs,hfb,ot,hu,hx,b1⟩
 rw[show rwv ((XA,xn,xc,xx):Rw)=Value.slice XA xn xc from rfl]
 have D1:=Lib.hid b1
 have HFB:=Lib.hid hfb
 have HX:=Lib.hid hx
 have PX:=Lib.hid px
 have XL:=Lib.hid (show xx.length≤32 from lx)
 have RS:=Lib.hid rs.len
 have HRT:=Lib.hid (HR.out.below b1)
 obtain⟨TA,tc,rfl,-, -, -, -, -⟩:=Sl.own ot.own
 obtain⟨U,hU⟩:∃z,z=us.length:=⟨_,rfl⟩
 rw[←hU]
 clear px lx rs hfb ot hu hx b1 hU CL
 cases fb with
 |false =>
  have HZ5:=Lib.hid (show Z=50 from by rw[HZ.out,if_pos];have:=of_decide_eq_false HFB.out.symm;rw[←HCT.out] at this;omega)
  clear HZ HFB HX
  go_wp2_with fail
  go_quiet (fail)
  go_wp2_with fail
  go_ret
  exact⟨by rw[HZ5.out];rfl,below_drewN D1.out nq⟩
 |true =>
  have hle:=of_decide_eq_true HFB.out.symm
  obtain⟨e1,e2,-⟩:=HX.out hle
  rw[←HCT.out] at hle e1
  change xx=_ at e2
  by_cases hk:k=0
  ·subst hk
   have hz:Z=if lr=Sh.dg false (2 :: (eight n ++ xx)) then 0 else 50:=by
    rw[HZ.out,if_neg (by have:=RS.out;omega),e2]
   have HZ2:=Lib.hid hz
   have hlr:lr.length=32:=HRT.out.len.symm
   have RT:=Lib.hid (fun(wq:World) (hb:Below w1.heap.size w1 wq)=>run_txt (P:=Tryd.prog) wq 22 9 5 Tryd.underlying22 Tryd.underlying5 Tryd.underlying9 R 32 cr lr (by have h:=(HRT.out.below hb).row;rwa [show((R,32,cr,lr):Rw).2.2.2.length=32 from hlr] at h))
   have LT:=Lib.hid HRT.out.lt
   obtain⟨sr,hsr⟩:∃s,s=txt lr:=⟨_,rfl⟩
   rw[←hsr] at RT
   have KEY:=Lib.hid (show ∀wq,Below w1.heap.size w1 wq→(convert 22 9 (.slice R 32 cr)).run Tryd.prog wq=.ok (.string sr) wq∧Below w1.heap.size w1 wq from fun wq hb=>⟨RT.out wq hb,hb⟩)
   have HSR:=Lib.hid hsr
   have RTX:=Lib.hid (fun(wq:World) (hb:Below w1.heap.size w1 wq)=>(rroot_any n (by omega) (PX.out.below hb) (by rw[show xn=xx.length from PX.out.len];have:=XL.out;omega)).mono fun e w' h=>ownB_p (fun z hz=>by
    rcases List.mem_cons.1 hz with rfl|hz
    ·decide
    ·rcases List.mem_append.1 hz with h|h
     ·exact eight_lt n z h
     ·exact PX.out.lt z h) h)
   clear hz hlr HZ HFB HX hsr RT hle e1 e2
   have X0:Below w1.heap.size w1 w1:=Below.refl _ _
   obtain⟨sd,hsd⟩:∃s,s=txt (Sh.dg false (2 :: (eight n ++ xx))):=⟨_,rfl⟩
   have RRT:=Lib.hid (show ∀(wq:World) (A':Option Addr) (n' c':Nat),Pc wq (A',n',c',Sh.dg false (2 :: (eight n ++ xx)))→(convert 22 9 (.slice A' n' c')).run Tryd.prog wq=.ok (.string sd) wq from fun wq A' n' c' hp=>by
    rw[hsd]
    refine run_txt (P:=Tryd.prog) wq 22 9 5 Tryd.underlying22 Tryd.underlying5 Tryd.underlying9 A' n' c' (Sh.dg false (2 :: (eight n ++ xx))) ?_
    have h:=hp.row
    have h2:=hp.len
    change n'=(Sh.dg false (2 :: (eight n ++ xx))).length at h2
    change Sl wq A' (Sh.dg false (2 :: (eight n ++ xx))).length _ at h
    rwa [←h2] at h)
   by_cases hq:lr=Sh.dg false (2 :: (eight n ++ xx))
   ·have hss:sd=sr:=by rw[hsd,HSR.out,hq]
    have HZQ:=Lib.hid (show Z=0 from by rw[HZ2.out,if_pos hq])
    have t1:(sd.toList != sr.toList)=false:=by rw[hss];simp
    have t2:(sd.toList == sr.toList)=true:=by rw[hss];simp
    clear hss hq hsd
    go_wp2_with fail
    refine wp_region_held_drew (S:=fun x=>(convert 22 9 (.slice R 32 cr)).run Tryd.prog x=.ok (.string sr) x∧Below w1.heap.size w1 x) (by kernel_rfl) (KEY.out _ X0.drew) (fun hHeld=>?_)
    refine take_l 0 (v:=?_) rfl (by kernel_rfl) (by kernel_rfl) (by kernel_rfl) (fun _ _ _ h=>h) (Or.inl ⟨by rfl,?_⟩) (by assumption) ?_;rotate_left
    ·intro w' hSw
     try dsimp only at hSw
     go_simp
     all_goals with_reducible rfl
    try simp only[Act.put,List.setIfInBounds_toArray,List.set_cons_zero,List.set_cons_succ]
    refine take_l 1 (v:=?_) rfl (by kernel_rfl) (by kernel_rfl) (by kernel_rfl) (fun _ _ _ h=>h) (Or.inl ⟨by rfl,?_⟩) (by assumption) ?_;rotate_left
    ·intro w' hSw
     try dsimp only at hSw
     go_simp
     all_goals with_reducible rfl
    try simp only[Act.put,List.setIfInBounds_toArray,List.set_cons_zero,List.set_cons_succ]
    refine take_l 2 (v:=?_) rfl (by kernel_rfl) (by kernel_rfl) (by kernel_rfl) (fun _ _ _ h=>h) (Or.inl ⟨by rfl,?_⟩) (by assumption) ?_;rotate_left
    ·intro w' hSw
     try dsimp only at hSw
     go_simp
     all_goals with_reducible rfl
    try simp only[Act.put,List.setIfInBounds_toArray,List.set_cons_zero,List.set_cons_succ]
    refine take_l 3 (v:=?_) rfl (by kernel_rfl) (by kernel_rfl) (by kernel_rfl) (fun _ _ _ h=>h) (Or.inl ⟨by rfl,?_⟩) (by assumption) ?_;rotate_left
    ·intro w' hSw
     try dsimp only at hSw
     go_simp
     all_goals with_reducible rfl
    try simp only[Act.put,List.setIfInBounds_toArray,List.set_cons_zero,List.set_cons_succ]
    refine take_l 4 (v:=?_) rfl (by kernel_rfl) (by kernel_rfl) (by kernel_rfl) (fun _ _ _ h=>h) (Or.inl ⟨by rfl,?_⟩) (by assumption) ?_;rotate_left
    ·intro w' hSw
     try dsimp only at hSw
     go_simp
     all_goals with_reducible rfl
    try simp only[Act.put,List.setIfInBounds_toArray,List.set_cons_zero,List.set_cons_succ]
    refine take_l 5 (v:=?_) rfl (by kernel_rfl) (by kernel_rfl) (by kernel_rfl) (fun _ _ _ h=>h) (Or.inl ⟨by rfl,?_⟩) (by assumption) ?_;rotate_left
    ·intro w' hSw
     try dsimp only at hSw
     go_simp
     all_goals with_reducible rfl
    try simp only[Act.put,List.setIfInBounds_toArray,List.set_cons_zero,List.set_cons_succ]
    refine take_l 6 (v:=?_) rfl (by kernel_rfl) (by kernel_rfl) (by kernel_rfl) (fun _ _ _ h=>h) (Or.inl ⟨by rfl,?_⟩) (by assumption) ?_;rotate_left
    ·intro w' hSw
     try dsimp only at hSw
     go_simp
     all_goals with_reducible rfl
    try simp only[Act.put,List.setIfInBounds_toArray,List.set_cons_zero,List.set_cons_succ]
    refine take_l 7 (v:=?_) rfl (by kernel_rfl) (by kernel_rfl) (by kernel_rfl) (fun _ _ _ h=>h) (Or.inl ⟨by rfl,?_⟩) (by assumption) ?_;rotate_left
    ·intro w' hSw
     try dsimp only at hSw
     go_simp
     all_goals with_reducible rfl
    try simp only[Act.put,List.setIfInBounds_toArray,List.set_cons_zero,List.set_cons_succ]
    refine take_l 8 (v:=?_) rfl (by kernel_rfl) (by kernel_rfl) (by kernel_rfl) (fun _ _ _ h=>h) (Or.inl ⟨by rfl,?_⟩) (by assumption) ?_;rotate_left
    ·intro w' hSw
     try dsimp only at hSw
     go_simp
     all_goals with_reducible rfl
    try simp only[Act.put,List.setIfInBounds_toArray,List.set_cons_zero,List.set_cons_succ]
    refine take_l 9 (v:=?_) rfl (by kernel_rfl) (by kernel_rfl) (by kernel_rfl) (fun _ _ _ h=>h) (Or.inl ⟨by rfl,?_⟩) (by assumption) ?_;rotate_left
    ·intro w' hSw
     try dsimp only at hSw
     go_simp
     all_goals with_reducible rfl
    try simp only[Act.put,List.setIfInBounds_toArray,List.set_cons_zero,List.set_cons_succ]
    refine take_l 13 (v:=?_) rfl (by kernel_rfl) (by kernel_rfl) (by kernel_rfl) (fun _ _ _ h=>h) (Or.inl ⟨by rfl,?_⟩) (by assumption) ?_;rotate_left
    ·intro w' hSw
     try dsimp only at hSw
     go_simp
     all_goals with_reducible rfl
    try simp only[Act.put,List.setIfInBounds_toArray,List.set_cons_zero,List.set_cons_succ]
    refine take_l 14 (v:=?_) rfl (by kernel_rfl) (by kernel_rfl) (by kernel_rfl) (fun _ _ _ h=>h) (Or.inl ⟨by rfl,?_⟩) (by assumption) ?_;rotate_left
    ·intro w' hSw
     try dsimp only at hSw
     go_simp
     all_goals with_reducible rfl
    try simp only[Act.put,List.setIfInBounds_toArray,List.set_cons_zero,List.set_cons_succ]
    refine wpAnyH_ready (rs:=[10]) (by kernel_rfl) (by simp) ?_
    refine cons_l rfl (fun K0 hK=>?_) AllReadyH.nil
    (try dsimp only[List.getElem_toArray,List.getElem_cons_succ,List.getElem_cons_zero])
    go_simp
    go_at_call 29;(with_reducible refine(RTX.out _ X0.drew).mono ?_);rintro e w2 ⟨RA2,rn2,rc2,rfl,hp,hb⟩;have X2:=X0.drew.trans (hb.mono X0.drew.size);have HHS:=Lib.hid (rhash_p hp.1 (by rw[show rn2=_ from hp.1.len,List.length_cons,List.length_append,eight_len];have:=XL.out;omega));clear hp hb
    refine hK.out _ _ (KEY.out _ X2) (fun hHeld=>?_)
    clear hK K0
    try simp only[Act.put,List.setIfInBounds_toArray,List.set_cons_zero,List.set_cons_succ]
    refine wpAnyH_ready (rs:=[11]) (by kernel_rfl) (by simp) ?_
    refine cons_l rfl (fun K0 hK=>?_) AllReadyH.nil
    (try dsimp only[List.getElem_toArray,List.getElem_cons_succ,List.getElem_cons_zero])
    go_simp
    go_at_call 36;(with_reducible refine HHS.out.mono ?_);rintro e w3 ⟨HA,hn,hc,rfl,hp,hb⟩;have X3:=X2.trans (hb.mono X2.size);have RR:=RRT.out w3 HA hn hc hp.1;clear hp hb
    refine hK.out _ _ (KEY.out _ X3) (fun hHeld=>?_)
    clear hK K0
    try simp only[Act.put,List.setIfInBounds_toArray,List.set_cons_zero,List.set_cons_succ]
    refine wpAnyH_ready (rs:=[12]) (by kernel_rfl) (by simp) ?_
    refine cons_l rfl (fun K0 hK=>?_) AllReadyH.nil
    (try dsimp only[List.getElem_toArray,List.getElem_cons_succ,List.getElem_cons_zero])
    go_simp
    refine hK.out _ _ (KEY.out _ X3) (fun hHeld=>?_)
    clear hK K0
    try simp only[Act.put,List.setIfInBounds_toArray,List.set_cons_zero,List.set_cons_succ]
    refine take_l 15 (v:=?_) rfl (by kernel_rfl) (by kernel_rfl) (by kernel_rfl) (fun _ _ _ h=>h) (Or.inl ⟨by rfl,?_⟩) (by assumption) ?_;rotate_left
    ·intro w' hSw
     try dsimp only at hSw
     go_simp
     all_goals with_reducible rfl
    try simp only[Act.put,List.setIfInBounds_toArray,List.set_cons_zero,List.set_cons_succ]
    refine take_l 16 (v:=?_) rfl (by kernel_rfl) (by kernel_rfl) (by kernel_rfl) (fun _ _ _ h=>h) (Or.inl ⟨by rfl,?_⟩) (by assumption) ?_;rotate_left
    ·intro w' hSw
     try dsimp only at hSw
     go_simp
     all_goals with_reducible rfl
    try simp only[Act.put,List.setIfInBounds_toArray,List.set_cons_zero,List.set_cons_succ]
    refine wpAnyH_done (by kernel_rfl) ?_ _
    go_wp2_with fail
    go_ret
    exact⟨by rw[HZQ.out];rfl,D1.out.trans (X3.mono D1.out.size)⟩
   ·have hss:sd≠sr:=fun e=>hq (txt_inj LT.out (fun x hx=>dg32_lt _ x hx) (by rw[←HSR.out,←hsd,e]))
    have HZQ:=Lib.hid (show Z=50 from by rw[HZ2.out,if_neg hq])
    have hst:sd.toList≠sr.toList:=fun h=>hss (by rw[ByteArray.toList_eq,ByteArray.toList_eq] at h;exact Go.WideShapes.bytes_inj h)
    have t1:(sd.toList != sr.toList)=true:=by rw[bne_iff_ne];exact hst
    have t2:(sd.toList == sr.toList)=false:=by rw[beq_eq_false_iff_ne];exact hst
    clear hss hq hsd hst
    go_wp2_with fail
    refine wp_region_held_drew (S:=fun x=>(convert 22 9 (.slice R 32 cr)).run Tryd.prog x=.ok (.string sr) x∧Below w1.heap.size w1 x) (by kernel_rfl) (KEY.out _ X0.drew) (fun hHeld=>?_)
    refine take_l 0 (v:=?_) rfl (by kernel_rfl) (by kernel_rfl) (by kernel_rfl) (fun _ _ _ h=>h) (Or.inl ⟨by rfl,?_⟩) (by assumption) ?_;rotate_left
    ·intro w' hSw
     try dsimp only at hSw
     go_simp
     all_goals with_reducible rfl
    try simp only[Act.put,List.setIfInBounds_toArray,List.set_cons_zero,List.set_cons_succ]
    refine take_l 1 (v:=?_) rfl (by kernel_rfl) (by kernel_rfl) (by kernel_rfl) (fun _ _ _ h=>h) (Or.inl ⟨by rfl,?_⟩) (by assumption) ?_;rotate_left
    ·intro w' hSw
     try dsimp only at hSw
     go_simp
     all_goals with_reducible rfl
    try simp only[Act.put,List.setIfInBounds_toArray,List.set_cons_zero,List.set_cons_succ]
    refine take_l 2 (v:=?_) rfl (by kernel_rfl) (by kernel_rfl) (by kernel_rfl) (fun _ _ _ h=>h) (Or.inl ⟨by rfl,?_⟩) (by assumption) ?_;rotate_left
    ·intro w' hSw
     try dsimp only at hSw
     go_simp
     all_goals with_reducible rfl
    try simp only[Act.put,List.setIfInBounds_toArray,List.set_cons_zero,List.set_cons_succ]
    refine take_l 3 (v:=?_) rfl (by kernel_rfl) (by kernel_rfl) (by kernel_rfl) (fun _ _ _ h=>h) (Or.inl ⟨by rfl,?_⟩) (by assumption) ?_;rotate_left
    ·intro w' hSw
     try dsimp only at hSw
     go_simp
     all_goals with_reducible rfl
    try simp only[Act.put,List.setIfInBounds_toArray,List.set_cons_zero,List.set_cons_succ]
    refine take_l 4 (v:=?_) rfl (by kernel_rfl) (by kernel_rfl) (by kernel_rfl) (fun _ _ _ h=>h) (Or.inl ⟨by rfl,?_⟩) (by assumption) ?_;rotate_left
    ·intro w' hSw
     try dsimp only at hSw
     go_simp
     all_goals with_reducible rfl
    try simp only[Act.put,List.setIfInBounds_toArray,List.set_cons_zero,List.set_cons_succ]
    refine take_l 5 (v:=?_) rfl (by kernel_rfl) (by kernel_rfl) (by kernel_rfl) (fun _ _ _ h=>h) (Or.inl ⟨by rfl,?_⟩) (by assumption) ?_;rotate_left
    ·intro w' hSw
     try dsimp only at hSw
     go_simp
     all_goals with_reducible rfl
    try simp only[Act.put,List.setIfInBounds_toArray,List.set_cons_zero,List.set_cons_succ]
    refine take_l 6 (v:=?_) rfl (by kernel_rfl) (by kernel_rfl) (by kernel_rfl) (fun _ _ _ h=>h) (Or.inl ⟨by rfl,?_⟩) (by assumption) ?_;rotate_left
    ·intro w' hSw
     try dsimp only at hSw
     go_simp
     all_goals with_reducible rfl
    try simp only[Act.put,List.setIfInBounds_toArray,List.set_cons_zero,List.set_cons_succ]
    refine take_l 7 (v:=?_) rfl (by kernel_rfl) (by kernel_rfl) (by kernel_rfl) (fun _ _ _ h=>h) (Or.inl ⟨by rfl,?_⟩) (by assumption) ?_;rotate_left
    ·intro w' hSw
     try dsimp only at hSw
     go_simp
     all_goals with_reducible rfl
    try simp only[Act.put,List.setIfInBounds_toArray,List.set_cons_zero,List.set_cons_succ]
    refine take_l 8 (v:=?_) rfl (by kernel_rfl) (by kernel_rfl) (by kernel_rfl) (fun _ _ _ h=>h) (Or.inl ⟨by rfl,?_⟩) (by assumption) ?_;rotate_left
    ·intro w' hSw
     try dsimp only at hSw
     go_simp
     all_goals with_reducible rfl
    try simp only[Act.put,List.setIfInBounds_toArray,List.set_cons_zero,List.set_cons_succ]
    refine take_l 9 (v:=?_) rfl (by kernel_rfl) (by kernel_rfl) (by kernel_rfl) (fun _ _ _ h=>h) (Or.inl ⟨by rfl,?_⟩) (by assumption) ?_;rotate_left
    ·intro w' hSw
     try dsimp only at hSw
     go_simp
     all_goals with_reducible rfl
    try simp only[Act.put,List.setIfInBounds_toArray,List.set_cons_zero,List.set_cons_succ]
    refine take_l 13 (v:=?_) rfl (by kernel_rfl) (by kernel_rfl) (by kernel_rfl) (fun _ _ _ h=>h) (Or.inl ⟨by rfl,?_⟩) (by assumption) ?_;rotate_left
    ·intro w' hSw
     try dsimp only at hSw
     go_simp
     all_goals with_reducible rfl
    try simp only[Act.put,List.setIfInBounds_toArray,List.set_cons_zero,List.set_cons_succ]
    refine take_l 14 (v:=?_) rfl (by kernel_rfl) (by kernel_rfl) (by kernel_rfl) (fun _ _ _ h=>h) (Or.inl ⟨by rfl,?_⟩) (by assumption) ?_;rotate_left
    ·intro w' hSw
     try dsimp only at hSw
     go_simp
     all_goals with_reducible rfl
    try simp only[Act.put,List.setIfInBounds_toArray,List.set_cons_zero,List.set_cons_succ]
    refine wpAnyH_ready (rs:=[10]) (by kernel_rfl) (by simp) ?_
    refine cons_l rfl (fun K0 hK=>?_) AllReadyH.nil
    (try dsimp only[List.getElem_toArray,List.getElem_cons_succ,List.getElem_cons_zero])
    go_simp
    go_at_call 29;(with_reducible refine(RTX.out _ X0.drew).mono ?_);rintro e w2 ⟨RA2,rn2,rc2,rfl,hp,hb⟩;have X2:=X0.drew.trans (hb.mono X0.drew.size);have HHS:=Lib.hid (rhash_p hp.1 (by rw[show rn2=_ from hp.1.len,List.length_cons,List.length_append,eight_len];have:=XL.out;omega));clear hp hb
    refine hK.out _ _ (KEY.out _ X2) (fun hHeld=>?_)
    clear hK K0
    try simp only[Act.put,List.setIfInBounds_toArray,List.set_cons_zero,List.set_cons_succ]
    refine wpAnyH_ready (rs:=[11]) (by kernel_rfl) (by simp) ?_
    refine cons_l rfl (fun K0 hK=>?_) AllReadyH.nil
    (try dsimp only[List.getElem_toArray,List.getElem_cons_succ,List.getElem_cons_zero])
    go_simp
    go_at_call 36;(with_reducible refine HHS.out.mono ?_);rintro e w3 ⟨HA,hn,hc,rfl,hp,hb⟩;have X3:=X2.trans (hb.mono X2.size);have RR:=RRT.out w3 HA hn hc hp.1;clear hp hb
    refine hK.out _ _ (KEY.out _ X3) (fun hHeld=>?_)
    clear hK K0
    try simp only[Act.put,List.setIfInBounds_toArray,List.set_cons_zero,List.set_cons_succ]
    refine wpAnyH_ready (rs:=[12]) (by kernel_rfl) (by simp) ?_
    refine cons_l rfl (fun K0 hK=>?_) AllReadyH.nil
    (try dsimp only[List.getElem_toArray,List.getElem_cons_succ,List.getElem_cons_zero])
    go_simp
    refine hK.out _ _ (KEY.out _ X3) (fun hHeld=>?_)
    clear hK K0
    try simp only[Act.put,List.setIfInBounds_toArray,List.set_cons_zero,List.set_cons_succ]
    refine take_l 15 (v:=?_) rfl (by kernel_rfl) (by kernel_rfl) (by kernel_rfl) (fun _ _ _ h=>h) (Or.inl ⟨by rfl,?_⟩) (by assumption) ?_;rotate_left
    ·intro w' hSw
     try dsimp only at hSw
     go_simp
     all_goals with_reducible rfl
    try simp only[Act.put,List.setIfInBounds_toArray,List.set_cons_zero,List.set_cons_succ]
    refine take_l 16 (v:=?_) rfl (by kernel_rfl) (by kernel_rfl) (by kernel_rfl) (fun _ _ _ h=>h) (Or.inl ⟨by rfl,?_⟩) (by assumption) ?_;rotate_left
    ·intro w' hSw
     try dsimp only at hSw
     go_simp
     all_goals with_reducible rfl
    try simp only[Act.put,List.setIfInBounds_toArray,List.set_cons_zero,List.set_cons_succ]
    refine wpAnyH_done (by kernel_rfl) ?_ _
    go_wp2_with fail
    go_ret
    exact⟨by rw[HZQ.out];rfl,D1.out.trans (X3.mono D1.out.size)⟩
  ·have HZ5:=Lib.hid (show Z=50 from by rw[HZ.out,if_pos];have:=RS.out;omega)
   have q9:(0:Int) < (k:Int):=by omega
   clear HZ HFB HX hle e1 e2
   go_wp2_with fail
   go_quiet (fail)
   go_wp2_with fail
   go_ret
   exact⟨by rw[HZ5.out];rfl,below_drewN D1.out nq⟩
end Go.Proofs.YtnnfpmebopgogaaDoor.Mk
