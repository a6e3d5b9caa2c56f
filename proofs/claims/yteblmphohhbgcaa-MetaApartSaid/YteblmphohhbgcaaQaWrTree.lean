/- Joined texts. -/
import Derived.Deep.LoopGhost
import Derived.Test.YteblmphohhbgcaaQaMkSeq
set_option linter.unusedVariables false
namespace Go.Proofs.Yteblmphohhbgcaa.Wr
open Go.RowKit Go.Proofs.Yteblmphohhbgcaa.Gn Go.Proofs.Yteblmphohhbgcaa.Fd Go.Deep
inductive Tv where
 |mk (kind:Int) (num:Nat) (bytes:Rw) (A:Option Addr) (c:Nat) (kids:List Tv)
def Tv.row:Tv→List Value
 |.mk k n r A c ks=>[.int .i64 k,.int .u64 n,.slice r.1 r.2.1 r.2.2.1,.slice A ks.length c]
abbrev Tv.val(v:Tv):Value:=.agg v.row.toArray
def flat(ks:List Tv):List Value:=ks.flatMap Tv.row
theorem row_len(t:Tv):t.row.length=4:=by cases t;rfl
theorem flat_len(ks:List Tv):(flat ks).length=4*ks.length:=by
 induction ks with
 |nil=>rfl
 |cons t ks ih=>unfold flat at ih ⊢;rw[List.flatMap_cons,List.length_append,ih,row_len,List.length_cons];omega
theorem flat_get:∀(ks:List Tv) (i j:Nat) (t:Tv) (v:Value),ks[i]?=some t→t.row[j]?=some v→(flat ks)[4*i+j]?=some v:=by
 intro ks
 induction ks with
 |nil=>intro i j t v h;simp at h
 |cons a ks ih =>
  intro i j t v h hv
  have hj:j < 4:=by have:=(List.getElem?_eq_some_iff.1 hv).1;rwa [row_len] at this
  unfold flat at ih ⊢
  rw[List.flatMap_cons]
  cases i with
  |zero =>
   rw[List.getElem?_cons_zero,Option.some.injEq] at h
   subst h
   rw[List.getElem?_append_left (by rw[row_len];omega),Nat.mul_zero,Nat.zero_add];exact hv
  |succ i =>
   rw[List.getElem?_cons_succ] at h
   rw[List.getElem?_append_right (by rw[row_len];omega),row_len,show 4*(i+1)+j - 4=4*i+j by omega]
   exact ih i j t v h hv
inductive Ok (w:World):Tv→Prop
 |mk {k:Int} {n:Nat} {r:Rw} {A:Option Addr} {c:Nat} {ks:List Tv} (hn:n < 18446744073709551616) (hr:Pc w r) (hs:Sl w A (4*ks.length) (flat ks)) (hm:ks.length≤1000000) (hc:ks.length≤c) (h0:A=none→c=0) (hk:∀t∈ks,Ok w t):Ok w (.mk k n r A c ks)
theorem Ok.keep{w:World}:∀ {v:Tv},Ok w v→∀ {w':World},Below w.heap.size w w'→Ok w' v:=by
 intro v h
 induction h with
 |mk hn hr hs hm hc h0 hk ih=>intro w' hb;exact .mk hn (hr.below hb) (hs.below hb) hm hc h0 fun t ht=>ih t ht hb
mutual
def right:Tv→Bool
 |.mk k n r _ _ ks=>if k=1 then decide (r.2.1=0) && decide (ks.length=0) else if k=2 then decide (n=0) && decide (ks.length=0) else if k=3 then decide (n=0) && decide (r.2.1=0) && rights ks else false
def rights:List Tv→Bool
 | []=>true
 |t :: ts=>right t && rights ts
end
theorem ad_add(ad:Addr)(i j:Nat):(ad.add i).add j=ad.add (i+j):=by
 unfold Addr.add
 by_cases h1:i=0
 ·subst h1;simp
 ·by_cases h2:j=0
  ·subst h2;simp
  ·simp[h1,h2,Nat.add_assoc]
theorem ad_zero(ad:Addr):ad.add 0=ad:=by unfold Addr.add;simp
theorem ad_pos(ad:Addr){j:Nat}(h:j≠0):ad.add j=⟨ad.block,ad.off+j,none⟩:=by unfold Addr.add;simp[h]
theorem size34:(Try.prog.info? 80).map (·.size)=some 4:=by kernel_rfl
def RiQ(b:Bool)(w:World)(e:Ending)(w':World):Prop:=e=.returned (.bool b)∧Below w.heap.size w w'
set_option maxHeartbeats 4000000 in
set_option maxRecDepth 100000 in
theorem allRight_any{ks:List Tv}{A:Option Addr}{c:Nat}{w:World}(hs:Sl w A (4*ks.length) (flat ks))(hm:ks.length≤1000000)(ih:∀t∈ks,∀w',Below w.heap.size w w'→Calls Try.prog 79 #[t.val] w' (RiQ (right t) w')) :
  Calls Try.prog 90 #[.slice A ks.length c] w (RiQ (rights ks) w):=by
 obtain⟨m,hm'⟩:∃m,ks.length=m:=⟨_,rfl⟩
 have HM:=Lib.hid hm'
 have IH:=Lib.hid ih
 have HS:=Lib.hid hs
 rw[hm'] at hm ⊢
 clear ih hs hm'
 go_enter Try.func90,Try.ntmps90
 go_wp2_with fail
 go_loopw [7] (fun i wr=>∃k:Nat,k≤m∧i=.int .i64 (k:Int)∧rights ks=rights (ks.drop k)∧Below w.heap.size w wr) (fun i _=>m - (intOf i).toNat)
 case atStart=>exact⟨0,Nat.zero_le _,rfl,rfl,Below.refl _ _⟩
 case round =>
  obtain⟨k,hk,rfl,hd,hb⟩:=hrel
  by_cases hlt:k < m
  ·obtain⟨t,ht⟩:∃t,ks[k]?=some t:=⟨_,List.getElem?_eq_getElem (by have:=HM.out;omega)⟩
   have q0:(k:Int) < (m:Int):=by omega
   obtain⟨ad,rfl,hcl⟩:∃ad,A=some ad∧∀j v,t.row[j]?=some v→wr.cell? ((ad.add (4*k)).add j)=some v:=by
    have h0:t.row[0]?=some t.row[0]!:=by cases t;rfl
    obtain⟨ad,e,-⟩:=HS.out.2 _ _ (flat_get ks k 0 t _ ht h0)
    refine⟨ad,e,fun j v hv=>?_⟩
    obtain⟨ad',e',hc⟩:=HS.out.2 _ _ (flat_get ks k j t v ht hv)
    obtain rfl:ad=ad':=by rw[e] at e';injection e'
    rw[ad_add]
    exact(hb.cell (cell_lt hc)).trans hc
   obtain⟨ae,hae⟩:∃ae,ad.add (k*4)=ae:=⟨_,rfl⟩
   rw[Nat.mul_comm,hae] at hcl
   cases t with
   |mk K N r B d us =>
   have c0:wr.cell? ae=some (.int .i64 K):=by have:=hcl 0 _ rfl;rwa [ad_zero] at this
   have c1:wr.cell? ⟨ae.block,ae.off+1,none⟩=some (.int .u64 N):=by have:=hcl 1 _ rfl;rwa [ad_pos _ (by decide)] at this
   have c2:wr.cell? ⟨ae.block,ae.off+2,none⟩=some (.slice r.1 r.2.1 r.2.2.1):=by have:=hcl 2 _ rfl;rwa [ad_pos _ (by decide)] at this
   have c3:wr.cell? ⟨ae.block,ae.off+3,none⟩=some (.slice B us.length d):=by have:=hcl 3 _ rfl;rwa [ad_pos _ (by decide)] at this
   have HD:=Lib.hid hd
   clear hcl
   have B1:=Lib.hid (hb.alloc hb.size (.cells #[.int .i64 K,.int .u64 (N:Int),.slice r.1 r.2.1 r.2.2.1,.slice B us.length d] 80))
   have CR:=Lib.hid (IH.out _ (List.mem_of_getElem? ht) _ B1.out)
   have SP:=Lib.hid (show rights (ks.drop k)=(right (.mk K N r B d us) && rights (ks.drop (k+1))) from by
    rw[List.drop_eq_getElem_cons (by have:=HM.out;omega),show ks[k]'(by have:=HM.out;omega)=Tv.mk K N r B d us from by
     have:=List.getElem?_eq_getElem (l:=ks) (i:=k) (by have:=HM.out;omega)
     rw[ht] at this;injection this with this;exact this.symm]
    rfl)
   clear hd hb ht
   cases hrt:right (.mk K N r B d us) with
   |true =>
    rw[hrt] at CR SP
    go_wp2_with (go_at_call 79;(refine CR.out.mono ?_);rintro e w1 ⟨rfl,hb1⟩;have B2:=Lib.hid (B1.out.trans (hb1.mono B1.out.size));clear hb1)
    exact⟨⟨k+1,by omega,by go_num,by rw[HD.out,SP.out,Bool.true_and],B2.out⟩,by simp[intOf];omega⟩
   |false =>
    rw[hrt] at CR SP
    go_wp2_with (go_at_call 79;(refine CR.out.mono ?_);rintro e w1 ⟨rfl,hb1⟩;have B2:=Lib.hid (B1.out.trans (hb1.mono B1.out.size));clear hb1)
    go_ret
    exact⟨by rw[HD.out,SP.out,Bool.false_and];rfl,B2.out⟩
  ·obtain rfl:k=m:=by omega
   have q0:¬(k:Int) < (k:Int):=by omega
   have e:rights ks=true:=by rw[hd,List.drop_eq_nil_of_le (by have:=HM.out;omega)];rfl
   go_wp2_with fail
   go_ret
   exact⟨by rw[←hd,e];rfl,hb⟩
set_option maxHeartbeats 4000000 in
set_option maxRecDepth 100000 in
theorem Right_any{w:World}{v:Tv}(h:Ok w v):∀w',Below w.heap.size w w'→Calls Try.prog 79 #[v.val] w' (RiQ (right v) w'):=by
 induction h with
 | @mk K N r A c ks hn hr hs hm hc h0 hk ih =>
 intro u hb
 have HB:=Lib.hid ((Below.refl u.heap.size u).alloc (Nat.le_refl _) (.cells #[.int .i64 K,.int .u64 (N:Int),.slice r.1 r.2.1 r.2.2.1,.slice A ks.length c] 80))
 have CA:=Lib.hid (fun(u':World) (hb':Below u.heap.size u u')=>allRight_any (c:=c) (hs.below (hb.trans (hb'.mono hb.size))) hm fun t ht w3 h3=>ih t ht w3 ((hb.trans (hb'.mono hb.size)).trans (h3.mono (hb.trans (hb'.mono hb.size)).size)))
 show Calls _ _ #[.agg #[.int .i64 K,.int .u64 (N:Int),.slice r.1 r.2.1 r.2.2.1,.slice A ks.length c]] u _
 have R1:right (.mk K N r A c ks)=if K=1 then decide (r.2.1=0) && decide (ks.length=0) else if K=2 then decide (N=0) && decide (ks.length=0) else if K=3 then decide (N=0) && decide (r.2.1=0) && rights ks else false:=by rw[right]
 clear ih hk hs hr h0
 obtain⟨rA,rn,rc,rl⟩:=r
 obtain⟨L,hL⟩:∃L,rn=L:=⟨_,rfl⟩
 obtain⟨M,hM⟩:∃M,ks.length=M:=⟨_,rfl⟩
 simp only[hL,hM] at R1 HB ⊢
 rw[hM] at CA
 clear hL hM hc hm
 by_cases k1:K=1
 ·rw[R1,if_pos k1]
  subst k1
  clear R1 CA
  by_cases b0:L=0
  ·subst b0
   go_enter Try.func79,Try.ntmps79
   go_wp2_with fail
   go_quiet (fail)
   go_wp2_with fail
   go_ret
   exact⟨ret_bool (by by_cases hM:M=0 <;> simp[hM] <;> omega),below_drewN HB.out _⟩
  ·have b1:0 < (L:Int):=by omega
   rw[decide_eq_false b0,Bool.false_and]
   clear b0
   go_enter Try.func79,Try.ntmps79
   go_wp2_with fail
   go_quiet (fail)
   go_wp2_with fail
   go_ret
   exact⟨ret_bool (by rfl),below_drewN HB.out _⟩
 by_cases k2:K=2
 ·rw[R1,if_neg k1,if_pos k2]
  subst k2
  clear R1 CA
  by_cases b0:N=0
  ·subst b0
   go_enter Try.func79,Try.ntmps79
   go_wp2_with fail
   go_quiet (fail)
   go_wp2_with fail
   go_ret
   exact⟨ret_bool (by by_cases hM:M=0 <;> simp[hM] <;> omega),below_drewN HB.out _⟩
  ·have b1:¬(N:Int)=0:=by omega
   rw[decide_eq_false b0,Bool.false_and]
   clear b0
   go_enter Try.func79,Try.ntmps79
   go_wp2_with fail
   go_quiet (fail)
   go_wp2_with fail
   go_ret
   exact⟨ret_bool (by rfl),below_drewN HB.out _⟩
 by_cases k3:K=3
 ·rw[R1,if_neg k1,if_neg k2,if_pos k3]
  subst k3
  clear R1
  by_cases b0:N=0
  ·subst b0
   by_cases b2:L=0
   ·subst b2
    rw[decide_eq_true rfl,Bool.true_and,Bool.true_and]
    go_enter Try.func79,Try.ntmps79
    go_wp2_with fail
    go_quiet (fail)
    go_wp2_with (go_at_call 90;(refine(CA.out _ (below_drewN HB.out _)).mono ?_);rintro e w1 ⟨rfl,hb1⟩;have B2:=Lib.hid ((below_drewN HB.out _).trans (hb1.mono (below_drewN HB.out _).size));clear hb1)
    go_ret
    exact⟨rfl,B2.out⟩
   ·have b1:0 < (L:Int):=by omega
    rw[decide_eq_false b2,Bool.and_false,Bool.false_and]
    clear b2 CA
    go_enter Try.func79,Try.ntmps79
    go_wp2_with fail
    go_quiet (fail)
    go_wp2_with fail
    go_ret
    exact⟨ret_bool (by rfl),below_drewN HB.out _⟩
  ·have b1:¬(N:Int)=0:=by omega
   rw[decide_eq_false b0,Bool.false_and,Bool.false_and]
   clear b0 CA
   go_enter Try.func79,Try.ntmps79
   go_wp2_with fail
   go_quiet (fail)
   go_wp2_with fail
   go_ret
   exact⟨ret_bool (by rfl),below_drewN HB.out _⟩
 rw[R1,if_neg k1,if_neg k2,if_neg k3]
 clear R1 CA
 go_enter Try.func79,Try.ntmps79
 go_wp2_with fail
 go_quiet (fail)
 go_wp2_with fail
 go_ret
 exact⟨ret_bool (by rfl),below_drewN HB.out _⟩
end Go.Proofs.Yteblmphohhbgcaa.Wr
