/- Joined texts. -/
import Derived.Test.YteblmphohhbgcaaGreatQmWrBytes
import Derived.Test.YteblmphohhbgcaaGreatQmWrRead
set_option linter.unusedVariables false
namespace Go.Proofs.YteblmphohhbgcaaGreat.Wr
open Go.RowKit Go.Proofs.YteblmphohhbgcaaGreat.Gn Go.Proofs.YteblmphohhbgcaaGreat.Fd Go.Deep
set_option maxHeartbeats 2000000 in
set_option maxRecDepth 100000 in
theorem zero_any(x:Int)(w:World):Calls Tryz.prog 107 #[.int .i64 x] w fun e w'=>e=.returned (.int .i64 (max x 0))∧w=w':=by
 by_cases h:x < 0
 ·rw[max_low h]
  go_enter Tryz.func107,Tryz.ntmps107
  go_wp2_with fail
  go_ret
  exact⟨rfl,rfl⟩
 ·rw[max_high (by omega)]
  go_enter Tryz.func107,Tryz.ntmps107
  go_wp2_with fail
  go_ret
  exact⟨rfl,rfl⟩
def MkQ(v:Tv)(w:World)(e:Ending)(w':World):Prop:=e=.returned v.val∧Ok w' v∧Below w.heap.size w w'
theorem nil_pc(w:World):Pc w (none,0,0,[]):=⟨rfl,Sl.nil_ w none,fun x hx=>(List.not_mem_nil hx).elim,Nat.le_refl _,fun _=>rfl⟩
theorem ok_leaf{w:World}{k:Int}{n:Nat}{r:Rw}(hn:n < 18446744073709551616)(hr:Pc w r):Ok w (.mk k n r none 0 []) :=
 .mk hn hr (Sl.nil_ w none) (Nat.zero_le _) (Nat.le_refl _) (fun _=>rfl) fun t ht=>(List.not_mem_nil ht).elim
set_option maxHeartbeats 2000000 in
set_option maxRecDepth 100000 in
theorem Num_any(n:Nat)(hn:n < 18446744073709551616)(w:World):Calls Tryz.prog 112 #[.int .u64 (n:Int)] w (MkQ (.mk 1 n (none,0,0,[]) none 0 []) w):=by
 have HL:=Lib.hid (Bl.new_ w 75 #[.int .i64 1,.int .u64 (n:Int),.slice none 0 0,.slice none 0 0])
 have HB:=Lib.hid (below_one w (.cells #[.int .i64 1,.int .u64 (n:Int),.slice none 0 0,.slice none 0 0] 75))
 go_enter Tryz.func112,Tryz.ntmps112
 go_wp2_with fail
 exact⟨rfl,_,results_c rfl _ _ _ ⟨w.heap.size,0,none⟩ _ (by kernel_rfl) (run_loadVar_row _ w.heap.size 75 75 _ (0,0) _ HL.out Tryz.underlying75 rfl size34),rfl,ok_leaf hn (nil_pc _),HB.out⟩
set_option maxRecDepth 100000 in
set_option maxHeartbeats 4000000 in
theorem Clone_own{ad:Addr}{n c:Nat}{l:List Nat}{w:World}(h:Pc w (some ad,n,c,l))(hn:n≤1000000) :
  Calls Tryz.prog 121 #[.slice (some ad) n c] w (Wr.OwnB l w):=by
 have hln:l.length=n:=h.len.symm
 have hs:Sl w (some ad) n (bl l):=by have:=h.row;rwa [show((some ad,n,c,l):Rw).2.2.2=l from rfl,hln] at this
 obtain⟨i0,hi,hz0,hz1,hz2⟩:=info_parts Wr.infob8
 clear h
 go_enter Tryz.func121,Tryz.ntmps121
 go_upto_region 1 with(fail)
 refine wp_region_lit ?_
 refine sq_run (.slice (some ad) n c) rfl (by kernel_rfl) ?_
 refine sq_run (.bool false) rfl (by kernel_rfl) ?_
 refine sq_done ?_
 simp only[Act.put,List.setIfInBounds_toArray,List.set_cons_zero,List.set_cons_succ]
 go_upto_region 3 with(fail)
 refine wp_region_lit ?_
 refine sq_new (w.alloc (.cells #[] 5)) (.slice (some ⟨w.heap.size,0,none⟩) 0 0) rfl (by kernel_rfl) ?_
 refine sq_run (.slice (some ad) n c) rfl (by kernel_rfl) ?_
 refine wpList_append_sl rfl (.tmp 5) (.tmp 6) 25 rfl w.heap.size 5 i0 _ 1 Tryz.underlying25 hi hz0 hz1 hz2 rfl (.slice (some ⟨w.heap.size,0,none⟩) 0 0) 0 [] rfl (own_new w 5 [] (by decide)) (some ad) n c (bl l) rfl (by simp) (hs.below (below_one w _)) (bl_one _) (by unfold maxLen;omega) (by omega) (by simp) ?_
 intro v' w1 hown hgrow
 rw[Nat.zero_add,List.nil_append] at hown
 have hB:Below w.heap.size w w1:=(below_one w (.cells #[] 5)).grown hgrow (by simp) (by intro k e;simp[Value.ownBlock] at e;omega)
 obtain⟨E,cap,rfl,-, -, -, -, -⟩:=Sl.own hown
 refine sq_run (.slice E n cap) rfl (by kernel_rfl) ?_
 refine sq_done ?_
 simp only[Act.put,List.setIfInBounds_toArray,List.set_cons_zero,List.set_cons_succ]
 go_wp2_with fail
 go_ret
 exact⟨_,rfl,by rw[hln];exact hown,hB⟩
set_option maxRecDepth 100000 in
set_option maxHeartbeats 4000000 in
theorem Clone_nil(w:World):Calls Tryz.prog 121 #[.slice none 0 0] w fun e w'=>e=.returned (.slice none 0 0)∧w=w':=by
 go_enter Tryz.func121,Tryz.ntmps121
 go_upto_region 1 with(fail)
 refine wp_region_lit ?_
 refine sq_run (.slice none 0 0) rfl (by kernel_rfl) ?_
 refine sq_run (.bool true) rfl (by kernel_rfl) ?_
 refine sq_done ?_
 simp only[Act.put,List.setIfInBounds_toArray,List.set_cons_zero,List.set_cons_succ]
 go_wp2_with fail
 go_ret
 exact⟨rfl,rfl⟩
theorem Clone_pc{r:Rw}{w:World}(h:Pc w r)(hn:r.2.1≤1000000) :
  Calls Tryz.prog 121 #[.slice r.1 r.2.1 r.2.2.1] w fun e w'=>∃A c,e=.returned (.slice A r.2.1 c)∧Pc w' (A,r.2.1,c,r.2.2.2)∧(∀a,A=some a→w.heap.size≤a.block)∧Below w.heap.size w w':=by
 obtain⟨A,n,c,l⟩:=r
 cases A with
 |none =>
  obtain rfl:c=0:=h.nil rfl
  obtain rfl:l=[]:=List.length_eq_zero_iff.1 (Nat.le_zero.1 h.cap)
  obtain rfl:n=0:=h.len
  refine(Clone_nil w).mono ?_
  rintro e w' ⟨rfl,rfl⟩
  exact⟨none,0,rfl,nil_pc w,(fun a e=>by cases e),Below.refl _ _⟩
 |some ad =>
  refine(Clone_own h hn).mono ?_
  rintro e w' ⟨v,rfl,ho,hb⟩
  have hA:=Sl.own ho
  obtain⟨A,c',rfl,hp⟩:=Wr.own_any ho rfl h.lt
  obtain⟨A3,c3,e3,-, -, -, -, h3⟩:=hA
  injection e3 with e3 _ _
  subst e3
  have e1:n=l.length:=h.len
  exact⟨A,c',by rw[e1],by rw[e1];exact hp,fun a ha=>(h3 a ha).1,hb⟩
set_option maxHeartbeats 2000000 in
set_option maxRecDepth 100000 in
theorem Bytes_any{r:Rw}{w:World}(h:Pc w r)(hn:r.2.1≤1000000):Calls Tryz.prog 114 #[.slice r.1 r.2.1 r.2.2.1] w fun e w'=>∃A c,MkQ (.mk 2 0 (A,r.2.1,c,r.2.2.2) none 0 []) w e w'∧(∀a,A=some a→w.heap.size < a.block):=by
 have HC:=Lib.hid (fun(u:World) (hu:Below w.heap.size w u)=>Clone_pc (h.below hu) hn)
 have B0:=Lib.hid (below_one w (.cells #[.int .i64 0,.int .u64 0,.slice none 0 0,.slice none 0 0] 75))
 obtain⟨A,n,c,l⟩:=r
 show Calls _ _ #[.slice A n c] w _
 clear h
 go_enter Tryz.func114,Tryz.ntmps114
 go_wp2_with (go_at_call 121;(refine(HC.out _ B0.out).mono ?_);rintro e w1 ⟨A2,c2,rfl,hp,hq,hb⟩;have HP:=Lib.hid hp;have HQ:=Lib.hid hq;have HB:=Lib.hid hb;have D1:=Lib.hid (show Bl w1 w.heap.size 75 _ from(hb.block _ (by simp)).trans (Bl.new_ w 75 #[.int .i64 0,.int .u64 0,.slice none 0 0,.slice none 0 0]));have q0:w1.cell? ⟨w.heap.size,0,none⟩=some (.int .i64 0):=D1.out.cell_ rfl;have q1:w1.cell? ⟨w.heap.size,1,none⟩=some (.int .u64 0):=D1.out.cell_ rfl;have q2:w1.cell? ⟨w.heap.size,2,none⟩=some (.slice none 0 0):=D1.out.cell_ rfl;have q3:w1.cell? ⟨w.heap.size,3,none⟩=some (.slice none 0 0):=D1.out.cell_ rfl;have f0:=D1.out.frozen 0;have f1:=D1.out.frozen 1;have f2:=D1.out.frozen 2;have f3:=D1.out.frozen 3;clear hp hq hb)
 have HL:=(((D1.out.set_ 0 (.int .i64 2)).set_ 1 (.int .u64 0)).set_ 2 (.slice A2 n c2)).set_ 3 (.slice none 0 0)
 have HG:=only_set (only_set (only_set (only_set (World.grownBy.refl w1 (some w.heap.size)) (p:=⟨w.heap.size,0,none⟩) (Or.inl rfl) (.int .i64 2)) (p:=⟨w.heap.size,1,none⟩) (Or.inl rfl) (.int .u64 0)) (p:=⟨w.heap.size,2,none⟩) (Or.inl rfl) (.slice A2 n c2)) (p:=⟨w.heap.size,3,none⟩) (Or.inl rfl) (.slice none 0 0)
 have W1:=B0.out.trans (HB.out.mono (by simp))
 have W2:=(((W1.setCell (p:=⟨w.heap.size,0,none⟩) (Nat.le_refl _) (.int .i64 2)).setCell (p:=⟨w.heap.size,1,none⟩) (Nat.le_refl _) (.int .u64 0)).setCell (p:=⟨w.heap.size,2,none⟩) (Nat.le_refl _) (.slice A2 n c2)).setCell (p:=⟨w.heap.size,3,none⟩) (Nat.le_refl _) (.slice none 0 0)
 have PP:=HP.out
 refine⟨rfl,_,results_c rfl _ _ _ ⟨w.heap.size,0,none⟩ _ (by kernel_rfl) (run_loadVar_row _ w.heap.size 75 75 #[.int .i64 2,.int .u64 0,.slice A2 n c2,.slice none 0 0] (0,0) _ HL Tryz.underlying75 rfl size34),A2,c2,⟨rfl,ok_leaf (by decide) ⟨PP.len,PP.row.only HG (fun a ha e=>?_),PP.lt,PP.cap,PP.nil⟩,W2⟩,fun a ha=>by have h2:w.heap.size+1≤a.block:=(by simpa using HQ.out a ha);omega⟩
 have e2:=Option.some.inj e
 have h2:w.heap.size+1≤a.block:=by simpa using HQ.out a ha
 omega
end Go.Proofs.YteblmphohhbgcaaGreat.Wr
namespace Go.Proofs.YteblmphohhbgcaaGreat.Wr
open Go.RowKit Go.Proofs.YteblmphohhbgcaaGreat.Gn Go.Proofs.YteblmphohhbgcaaGreat.Fd Go.Deep
theorem rcl_nil:rcl []=(0,0,20):=rfl
theorem rcl_low{x:Nat}{t:List Nat}(h:x < 192):rcl (x :: t)=(x,1,0):=by simp[rcl,noC,szC,h]
theorem rcl_wide{x:Nat}{t:List Nat}(h:199 < x):rcl (x :: t)=(0,0,22):=by simp[rcl,noC,h,show ¬x < 192 by omega]
theorem rcl_one{x:Nat}(h:¬x < 192)(h2:¬199 < x):rcl [x]=(0,0,20):=by
 simp only[rcl,noC,szC,if_neg h,if_neg h2]
 rw[if_neg (by decide),if_pos (by simp;omega)]
theorem rcl_form{x y:Nat}{u:List Nat}(h:¬x < 192)(h2:¬199 < x)(h3:y=0∨(x=192∧y < 192)):rcl (x :: y :: u)=(0,0,22):=by
 simp only[rcl,noC,szC,if_neg h,if_neg h2,decide_eq_true h3,if_true]
theorem rcl_short{x y:Nat}{u:List Nat}(h:¬x < 192)(h2:¬199 < x)(h3:¬(y=0∨(x=192∧y < 192)))(h4:u.length+2≤x - 191):rcl (x :: y :: u)=(0,0,20):=by
 simp only[rcl,noC,szC,if_neg h,if_neg h2,decide_eq_false h3]
 rw[if_neg (by decide),if_pos (by simp;omega)]
theorem rcl_good{x y:Nat}{u:List Nat}(h:¬x < 192)(h2:¬199 < x)(h3:¬(y=0∨(x=192∧y < 192)))(h4:¬u.length+2≤x - 191):rcl (x :: y :: u)=(be ((y :: u).take (x - 191)),x - 190,0):=by
 simp only[rcl,noC,szC,if_neg h,if_neg h2,decide_eq_false h3]
 rw[if_neg (by decide),if_neg (by simp;omega),if_neg (by omega),List.drop_succ_cons,List.drop_zero,show x - 190 - 1=x - 191 by omega]
set_option maxHeartbeats 4000000 in
set_option maxRecDepth 100000 in
theorem RReadCount_any{A:Option Addr}{n c:Nat}{l:List Nat}{w:World}(h:Pc w (A,n,c,l))(p:Int)(hmax:n≤1000000000) :
  Calls Tryz.prog 141 #[.slice A n c,.int .i64 p] w fun e w'=>e=.returned (rcv l p)∧w=w':=by
 have hn:n=l.length:=h.len
 have hcap:l.length≤c:=h.cap
 by_cases p0:p < 0
 ·rw[rcv_out (Or.inl p0)]
  clear hn hcap h
  go_enter Tryz.func141,Tryz.ntmps141
  go_wp2_with fail
  go_ret3
  exact⟨rfl,rfl⟩
 by_cases p1:(n:Int) < p
 ·rw[rcv_out (Or.inr (by omega))]
  clear hn hcap h
  go_enter Tryz.func141,Tryz.ntmps141
  go_wp2_with fail
  go_ret3
  exact⟨rfl,rfl⟩
 obtain⟨k,rfl⟩:∃k:Nat,p=(k:Int):=⟨p.toNat,by omega⟩
 have hkn:k≤n:=by omega
 have hnc:n≤c:=by omega
 have P1:=pc_drop h hkn
 have hl:(l.drop k).length=n - k:=by simp;omega
 have RV':∀a b e,rcl (l.drop k)=(a,b,e)→rcv l (k:Int)=.tuple #[.int .u64 (a:Int),.int .i64 ((k:Int)+(b:Int)),.int .i64 (e:Int)]:=fun a b e he=>rcv_in (by omega) he
 obtain⟨r,hr⟩:∃r,l.drop k=r:=⟨_,rfl⟩
 obtain⟨R,hR⟩:∃R,rcv l (k:Int)=R:=⟨_,rfl⟩
 obtain⟨B,hB⟩:∃B,(if c=k then A else A.map (fun x=>x.add k))=B:=⟨_,rfl⟩
 obtain⟨m,hm⟩:∃m,n - k=m:=⟨_,rfl⟩
 obtain⟨d,hd⟩:∃d,c - k=d:=⟨_,rfl⟩
 rw[hr,hB,hm,hd] at P1
 rw[hr,hm] at hl
 rw[hr,hR] at RV'
 rw[hR]
 have RV:=Lib.hid RV'
 have PP:=Lib.hid P1
 clear h hr hR P1 hcap hn RV'
 cases r with
 |nil =>
  rw[RV.out 0 0 20 rcl_nil]
  have m0:(m:Int)=0:=by simp at hl;omega
  clear RV PP hl
  go_enter Tryz.func141,Tryz.ntmps141
  go_wp2_with fail
  go_ret3
  exact⟨rfl,rfl⟩
 |cons x t =>
  obtain⟨ad,rfl,h0,k0,x2⟩:=pc_at PP.out (k:=0) (x:=x) rfl
  rw[add_zero] at h0
  have m0:0 < (m:Int):=by omega
  have m00:¬(m:Int)=0:=by omega
  have hB2:Option.map (fun x=>x.add k) A=some ad:=by rw[if_neg (by omega)] at hB;exact hB
  by_cases c1:x < 192
  ·rw[RV.out x 1 0 (rcl_low c1)]
   have q1:(x:Int) < 192:=by omega
   clear RV PP hl c1
   go_enter Tryz.func141,Tryz.ntmps141
   go_wp2_with fail
   go_ret3
   exact⟨rfl,rfl⟩
  have q1:¬(x:Int) < 192:=by omega
  have x3:(x:Int) < 256:=by omega
  by_cases c2:199 < x
  ·rw[RV.out 0 0 22 (rcl_wide c2)]
   have q2:8 < (x:Int) - 191:=by omega
   clear RV PP hl c1 c2
   go_enter Tryz.func141,Tryz.ntmps141
   go_wp2_with fail
   go_ret3
   exact⟨rfl,rfl⟩
  obtain⟨q,hq⟩:∃q:Nat,x - 191=q:=⟨_,rfl⟩
  have eq1:(x:Int) - 191=(q:Int):=by omega
  have q2:¬8 < (q:Int):=by omega
  cases t with
  |nil =>
   rw[RV.out 0 0 20 (rcl_one c1 c2)]
   have m1:(m:Int)=1:=by simp at hl;omega
   have m2:¬1 < (m:Int):=by omega
   have q3:(1:Int)≤(q:Int):=by omega
   clear RV PP hl c1 c2 hq
   go_enter Tryz.func141,Tryz.ntmps141
   go_wp2_with fail
   go_ret3
   exact⟨rfl,rfl⟩
  |cons y u =>
   obtain⟨ad',e,h1,k1,y2⟩:=pc_at PP.out (k:=1) (x:=y) rfl
   obtain rfl:ad=ad':=by injection e
   rw[add_one] at h1
   have n1:¬(m:Int)=1:=by omega
   have nk:1 < (m:Int):=by omega
   by_cases d1:y=0
   ·rw[RV.out 0 0 22 (rcl_form c1 c2 (Or.inl d1))]
    have q3:(y:Int)=0:=by omega
    clear RV PP hl c1 c2 d1 e hq
    go_enter Tryz.func141,Tryz.ntmps141
    go_wp2_with fail
    go_ret3
    exact⟨rfl,rfl⟩
   have q3:¬(y:Int)=0:=by omega
   by_cases d2:x=192∧y < 192
   ·rw[RV.out 0 0 22 (rcl_form c1 c2 (Or.inr d2))]
    have q4:(q:Int)=1:=by omega
    have q5:(y:Int) < 192:=by omega
    clear RV PP hl c1 c2 d1 d2 e hq
    go_enter Tryz.func141,Tryz.ntmps141
    go_wp2_with fail
    go_ret3
    exact⟨rfl,rfl⟩
   have D:¬(y=0∨(x=192∧y < 192)):=by omega
   by_cases dx:x=192
   ·have q4:(q:Int)=1:=by omega
    have q5:¬(y:Int) < 192:=by omega
    rw[RV.out _ _ _ (rcl_good c1 c2 D (by simp at hl;omega)),show x - 191=1 by omega,show((k:Int)+((x - 190:Nat):Int))=(k:Int)+1+1 by omega,show be ((y :: u).take 1)=y by simp[be]]
    clear RV PP hl c1 c2 d1 d2 e hq D q3 dx
    go_enter Tryz.func141,Tryz.ntmps141
    go_wp2_with fail
    clear q4 q5
    go_loopw [9,10] (fun v i wr=>(v=.int .u64 0∧i=.int .i64 1∨v=.int .u64 (y:Int)∧i=.int .i64 2)∧w=wr) (fun _ i _=>2 - (intOf i).toNat)
    case atStart=>exact⟨Or.inl ⟨rfl,rfl⟩,rfl⟩
    case round =>
     obtain⟨⟨rfl,rfl⟩|⟨rfl,rfl⟩,rfl⟩:=hrel
     ·go_wp2
      exact⟨⟨Or.inr ⟨rfl,rfl⟩,trivial⟩,by decide⟩
     ·go_wp2_with fail
      go_ret3
      exact⟨rfl,rfl⟩
   ·have q4:¬(q:Int)=1:=by omega
    by_cases hs:m≤q
    ·rw[RV.out 0 0 20 (rcl_short c1 c2 D (by simp at hl;omega))]
     have q5:(m:Int)≤(q:Int):=by omega
     clear RV PP hl c1 c2 d1 d2 e hq D
     go_enter Tryz.func141,Tryz.ntmps141
     go_wp2_with fail
     go_ret3
     exact⟨rfl,rfl⟩
    have z0:¬(m:Int)≤(q:Int):=by omega
    rw[RV.out _ _ _ (rcl_good c1 c2 D (by simp at hl;omega)),show((k:Int)+((x - 190:Nat):Int))=(k:Int)+1+(q:Int) by omega,hq]
    have RX:=Lib.hid (show x - 190=q+1 from by omega)
    obtain⟨t,ht⟩:∃t,y :: u=t:=⟨_,rfl⟩
    have CI:=Lib.hid (show ∀(j z:Nat),t[j]?=some z→w.cell? (ad.add (j+1))=some (.int .u8 (z:Int)) from by
     intro j z hz
     rw[←ht] at hz
     obtain⟨ad',e,hc,-, -⟩:=pc_at PP.out (k:=j+1) (x:=z) hz
     obtain rfl:ad=ad':=by injection e
     exact hc)
    have LT:=Lib.hid (show ∀z∈t,z < 256 from fun z hz=>PP.out.lt z (by rw[←ht] at hz;exact List.mem_cons_of_mem _ hz))
    have HT:=Lib.hid (show q≤t.length from by rw[←ht];simp at hl ⊢;omega)
    have QM:=Lib.hid (show q < m from by omega)
    rw[ht]
    clear RV PP hl c1 c2 d1 d2 e hq D ht
    go_enter Tryz.func141,Tryz.ntmps141
    go_wp2_with fail
    go_loopw [9,10] (fun v i wr=>∃j:Nat,j≤q∧v=.int .u64 (be (t.take j):Int)∧i=.int .i64 ((j+1:Nat):Int)∧w=wr) (fun _ i _=>q+1 - (intOf i).toNat)
    case atStart=>exact⟨0,Nat.zero_le _,by simp[be],rfl,rfl⟩
    case round =>
     obtain⟨j,hj,rfl,rfl,rfl⟩:=hrel
     by_cases hlt:j < q
     ·obtain⟨y,hy⟩:∃y,t[j]?=some y:=⟨_,List.getElem?_eq_getElem (by have:=HT.out;omega)⟩
      have c1:=CI.out j y hy
      have c2:w.cell? (ad.add j.succ)=_:=c1
      have y2:y < 256:=LT.out y (List.mem_of_getElem? hy)
      have NX:=Lib.hid (show be (t.take (j+1))=be (t.take j)*256+y from by rw[List.take_add_one,hy];exact be_snoc _ _)
      have BL:=be_lt j (t.take j) (by have:=HT.out;simp;omega) fun x hx=>LT.out x (List.mem_of_mem_take hx)
      have BP:256 ^ j≤256 ^ 7:=Nat.pow_le_pow_right (by decide) (by omega)
      obtain⟨N,hN⟩:∃N,be (t.take j)=N:=⟨_,rfl⟩
      rw[hN] at BL NX ⊢
      have NL:(N:Int) < 72057594037927936:=by have:=Nat.lt_of_lt_of_le BL BP;omega
      obtain⟨i,hi⟩:∃i,j+1=i:=⟨_,rfl⟩
      rw[hi] at c1 NX ⊢
      have i1:(i:Int)≤(q:Int):=by omega
      have i2:(i:Int) < (m:Int):=by have:=QM.out;omega
      have i3:0 < i:=by omega
      have HI:=Lib.hid hi
      clear BL BP hN hy c2 hj hlt hi
      go_wp2
      exact⟨⟨i,by omega,by rw[NX.out];exact congrArg (Value.int IntKind.u64) (by omega),by have:=HI.out;go_num,trivial⟩,by simp[intOf];omega⟩
     ·obtain rfl:j=q:=by omega
      have q1:¬((j+1:Nat):Int)≤(j:Int):=by omega
      go_wp2_with fail
      go_ret3
      exact⟨rfl,rfl⟩
end Go.Proofs.YteblmphohhbgcaaGreat.Wr
