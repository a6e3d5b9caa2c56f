/- Joined texts. -/
import Derived.Test.YteblmphohhbgcaaQaWrTree
import Derived.Test.YteblmphohhbgcaaQaWrCount
import Derived.Test.YteblmphohhbgcaaQaWrRead
set_option linter.unusedVariables false
namespace Go.Proofs.Yteblmphohhbgcaa.Wr
open Go.RowKit Go.Proofs.Yteblmphohhbgcaa.Gn Go.Proofs.Yteblmphohhbgcaa.Fd Go.Deep
mutual
def wb:Tv→List Nat
 |.mk k n r _ _ ks=>k.toNat :: (if k=1 then cb n else if k=2 then cb r.2.1 ++ r.2.2.2 else cb ks.length ++ wbs ks)
def wbs:List Tv→List Nat
 | []=>[]
 |t :: ts=>wb t ++ wbs ts
end
theorem below_one(u:World)(o:Obj):Below u.heap.size u (u.alloc o):=(Below.refl u.heap.size u).alloc (Nat.le_refl _) o
end Go.Proofs.Yteblmphohhbgcaa.Wr
namespace Go.Proofs.Yteblmphohhbgcaa.Wr
open Go.RowKit Go.Proofs.Yteblmphohhbgcaa.Gn Go.Proofs.Yteblmphohhbgcaa.Fd Go.Deep
theorem wbs_append(a b:List Tv):wbs (a ++ b)=wbs a ++ wbs b:=by
 induction a with
 |nil=>simp[wbs]
 |cons t a ih=>rw[List.cons_append,wbs,wbs,ih,List.append_assoc]
theorem wbs_snoc{ks:List Tv}{k:Nat}{t:Tv}(h:ks[k]?=some t):wbs (ks.take (k+1))=wbs (ks.take k) ++ wb t:=by
 rw[List.take_add_one,h,wbs_append];simp[wbs]
theorem rights_mem:∀ {ks:List Tv},rights ks=true→∀t∈ks,right t=true:=by
 intro ks
 induction ks with
 |nil=>intro _ t h;cases h
 |cons a ks ih =>
  intro h t ht
  rw[rights,Bool.and_eq_true] at h
  rcases List.mem_cons.1 ht with rfl|ht
  ·exact h.1
  ·exact ih h.2 t ht
end Go.Proofs.Yteblmphohhbgcaa.Wr
namespace Go.Proofs.Yteblmphohhbgcaa.Wr
open Go.RowKit Go.Proofs.Yteblmphohhbgcaa.Gn Go.Proofs.Yteblmphohhbgcaa.Fd Go.Deep
theorem kid_at{ks:List Tv}{A:Option Addr}{w wr:World}{k:Nat}{t:Tv}(hs:Sl w A (4*ks.length) (flat ks))(ht:ks[k]?=some t)(hb:Below w.heap.size w wr):∃ad,A=some ad∧∀j v,t.row[j]?=some v→wr.cell? ((ad.add (4*k)).add j)=some v:=by
 have h0:t.row[0]?=some t.row[0]!:=by cases t;rfl
 obtain⟨ad,e,-⟩:=hs.2 _ _ (flat_get ks k 0 t _ ht h0)
 refine⟨ad,e,fun j v hv=>?_⟩
 obtain⟨ad',e',hc⟩:=hs.2 _ _ (flat_get ks k j t v ht hv)
 obtain rfl:ad=ad':=by rw[e] at e';injection e'
 rw[ad_add]
 exact(hb.cell (cell_lt hc)).trans hc
end Go.Proofs.Yteblmphohhbgcaa.Wr
namespace Go.Proofs.Yteblmphohhbgcaa.Wr
open Go.RowKit Go.Proofs.Yteblmphohhbgcaa.Gn Go.Proofs.Yteblmphohhbgcaa.Fd Go.Deep
def MkQ(v:Tv)(w:World)(e:Ending)(w':World):Prop:=e=.returned v.val∧Ok w' v∧Below w.heap.size w w'
theorem nil_pc(w:World):Pc w (none,0,0,[]):=⟨rfl,Sl.nil_ w none,fun x hx=>(List.not_mem_nil hx).elim,Nat.le_refl _,fun _=>rfl⟩
theorem ok_leaf{w:World}{k:Int}{n:Nat}{r:Rw}(hn:n < 18446744073709551616)(hr:Pc w r):Ok w (.mk k n r none 0 []) :=
 .mk hn hr (Sl.nil_ w none) (Nat.zero_le _) (Nat.le_refl _) (fun _=>rfl) fun t ht=>(List.not_mem_nil ht).elim
set_option maxHeartbeats 2000000 in
set_option maxRecDepth 100000 in
theorem Num_any(n:Nat)(hn:n < 18446744073709551616)(w:World):Calls Try.prog 36 #[.int .u64 (n:Int)] w (MkQ (.mk 1 n (none,0,0,[]) none 0 []) w):=by
 have HL:=Lib.hid (Bl.new_ w 80 #[.int .i64 1,.int .u64 (n:Int),.slice none 0 0,.slice none 0 0])
 have HB:=Lib.hid (below_one w (.cells #[.int .i64 1,.int .u64 (n:Int),.slice none 0 0,.slice none 0 0] 80))
 go_enter Try.func36,Try.ntmps36
 go_wp2_with fail
 exact⟨rfl,_,results_c rfl _ _ _ ⟨w.heap.size,0,none⟩ _ (by kernel_rfl) (run_loadVar_row _ w.heap.size 80 80 _ (0,0) _ HL.out Try.underlying80 rfl size34),rfl,ok_leaf hn (nil_pc _),HB.out⟩
set_option maxRecDepth 100000 in
set_option maxHeartbeats 4000000 in
theorem Clone_own{ad:Addr}{n c:Nat}{l:List Nat}{w:World}(h:Pc w (some ad,n,c,l))(hn:n≤1000000) :
  Calls Try.prog 62 #[.slice (some ad) n c] w (Wr.OwnB l w):=by
 have hln:l.length=n:=h.len.symm
 have hs:Sl w (some ad) n (bl l):=by have:=h.row;rwa [show((some ad,n,c,l):Rw).2.2.2=l from rfl,hln] at this
 obtain⟨i0,hi,hz0,hz1,hz2⟩:=info_parts Wr.infob8
 clear h
 go_enter Try.func62,Try.ntmps62
 go_upto_region 1 with(fail)
 refine wp_region_lit ?_
 refine sq_run (.slice (some ad) n c) rfl (by kernel_rfl) ?_
 refine sq_run (.bool false) rfl (by kernel_rfl) ?_
 refine sq_done ?_
 simp only[Act.put,List.setIfInBounds_toArray,List.set_cons_zero,List.set_cons_succ]
 go_upto_region 3 with(fail)
 refine wp_region_lit ?_
 refine sq_new (w.alloc (.cells #[] 5)) (.slice (some ⟨w.heap.size,0,none⟩) 0 0) rfl (by kernel_rfl) ?_
 refine sq_run (.slice (some ad) n c) rfl (by kernel_rfl) ?_
 refine wpList_append_sl rfl (.tmp 5) (.tmp 6) 25 rfl w.heap.size 5 i0 _ 1 Try.underlying25 hi hz0 hz1 hz2 rfl (.slice (some ⟨w.heap.size,0,none⟩) 0 0) 0 [] rfl (own_new w 5 [] (by decide)) (some ad) n c (bl l) rfl (by simp) (hs.below (below_one w _)) (bl_one _) (by unfold maxLen;omega) (by omega) (by simp) ?_
 intro v' w1 hown hgrow
 rw[Nat.zero_add,List.nil_append] at hown
 have hB:Below w.heap.size w w1:=(below_one w (.cells #[] 5)).grown hgrow (by simp) (by intro k e;simp[Value.ownBlock] at e;omega)
 obtain⟨E,cap,rfl,-, -, -, -, -⟩:=Sl.own hown
 refine sq_run (.slice E n cap) rfl (by kernel_rfl) ?_
 refine sq_done ?_
 simp only[Act.put,List.setIfInBounds_toArray,List.set_cons_zero,List.set_cons_succ]
 go_wp2_with fail
 go_ret
 exact⟨_,rfl,by rw[hln];exact hown,hB⟩
set_option maxRecDepth 100000 in
set_option maxHeartbeats 4000000 in
theorem Clone_nil(w:World):Calls Try.prog 62 #[.slice none 0 0] w fun e w'=>e=.returned (.slice none 0 0)∧w=w':=by
 go_enter Try.func62,Try.ntmps62
 go_upto_region 1 with(fail)
 refine wp_region_lit ?_
 refine sq_run (.slice none 0 0) rfl (by kernel_rfl) ?_
 refine sq_run (.bool true) rfl (by kernel_rfl) ?_
 refine sq_done ?_
 simp only[Act.put,List.setIfInBounds_toArray,List.set_cons_zero,List.set_cons_succ]
 go_wp2_with fail
 go_ret
 exact⟨rfl,rfl⟩
theorem Clone_pc{r:Rw}{w:World}(h:Pc w r)(hn:r.2.1≤1000000) :
  Calls Try.prog 62 #[.slice r.1 r.2.1 r.2.2.1] w fun e w'=>∃A c,e=.returned (.slice A r.2.1 c)∧Pc w' (A,r.2.1,c,r.2.2.2)∧(∀a,A=some a→w.heap.size≤a.block)∧Below w.heap.size w w':=by
 obtain⟨A,n,c,l⟩:=r
 cases A with
 |none =>
  obtain rfl:c=0:=h.nil rfl
  obtain rfl:l=[]:=List.length_eq_zero_iff.1 (Nat.le_zero.1 h.cap)
  obtain rfl:n=0:=h.len
  refine(Clone_nil w).mono ?_
  rintro e w' ⟨rfl,rfl⟩
  exact⟨none,0,rfl,nil_pc w,(fun a e=>by cases e),Below.refl _ _⟩
 |some ad =>
  refine(Clone_own h hn).mono ?_
  rintro e w' ⟨v,rfl,ho,hb⟩
  have hA:=Sl.own ho
  obtain⟨A,c',rfl,hp⟩:=Wr.own_any ho rfl h.lt
  obtain⟨A3,c3,e3,-, -, -, -, h3⟩:=hA
  injection e3 with e3 _ _
  subst e3
  have e1:n=l.length:=h.len
  exact⟨A,c',by rw[e1],by rw[e1];exact hp,fun a ha=>(h3 a ha).1,hb⟩
set_option maxHeartbeats 2000000 in
set_option maxRecDepth 100000 in
theorem Bytes_any{r:Rw}{w:World}(h:Pc w r)(hn:r.2.1≤1000000):Calls Try.prog 37 #[.slice r.1 r.2.1 r.2.2.1] w fun e w'=>∃A c,MkQ (.mk 2 0 (A,r.2.1,c,r.2.2.2) none 0 []) w e w'∧(∀a,A=some a→w.heap.size < a.block):=by
 have HC:=Lib.hid (fun(u:World) (hu:Below w.heap.size w u)=>Clone_pc (h.below hu) hn)
 have B0:=Lib.hid (below_one w (.cells #[.int .i64 0,.int .u64 0,.slice none 0 0,.slice none 0 0] 80))
 obtain⟨A,n,c,l⟩:=r
 show Calls _ _ #[.slice A n c] w _
 clear h
 go_enter Try.func37,Try.ntmps37
 go_wp2_with (go_at_call 62;(refine(HC.out _ B0.out).mono ?_);rintro e w1 ⟨A2,c2,rfl,hp,hq,hb⟩;have HP:=Lib.hid hp;have HQ:=Lib.hid hq;have HB:=Lib.hid hb;have D1:=Lib.hid (show Bl w1 w.heap.size 80 _ from(hb.block _ (by simp)).trans (Bl.new_ w 80 #[.int .i64 0,.int .u64 0,.slice none 0 0,.slice none 0 0]));have q0:w1.cell? ⟨w.heap.size,0,none⟩=some (.int .i64 0):=D1.out.cell_ rfl;have q1:w1.cell? ⟨w.heap.size,1,none⟩=some (.int .u64 0):=D1.out.cell_ rfl;have q2:w1.cell? ⟨w.heap.size,2,none⟩=some (.slice none 0 0):=D1.out.cell_ rfl;have q3:w1.cell? ⟨w.heap.size,3,none⟩=some (.slice none 0 0):=D1.out.cell_ rfl;have f0:=D1.out.frozen 0;have f1:=D1.out.frozen 1;have f2:=D1.out.frozen 2;have f3:=D1.out.frozen 3;clear hp hq hb)
 have HL:=(((D1.out.set_ 0 (.int .i64 2)).set_ 1 (.int .u64 0)).set_ 2 (.slice A2 n c2)).set_ 3 (.slice none 0 0)
 have HG:=only_set (only_set (only_set (only_set (World.grownBy.refl w1 (some w.heap.size)) (p:=⟨w.heap.size,0,none⟩) (Or.inl rfl) (.int .i64 2)) (p:=⟨w.heap.size,1,none⟩) (Or.inl rfl) (.int .u64 0)) (p:=⟨w.heap.size,2,none⟩) (Or.inl rfl) (.slice A2 n c2)) (p:=⟨w.heap.size,3,none⟩) (Or.inl rfl) (.slice none 0 0)
 have W1:=B0.out.trans (HB.out.mono (by simp))
 have W2:=(((W1.setCell (p:=⟨w.heap.size,0,none⟩) (Nat.le_refl _) (.int .i64 2)).setCell (p:=⟨w.heap.size,1,none⟩) (Nat.le_refl _) (.int .u64 0)).setCell (p:=⟨w.heap.size,2,none⟩) (Nat.le_refl _) (.slice A2 n c2)).setCell (p:=⟨w.heap.size,3,none⟩) (Nat.le_refl _) (.slice none 0 0)
 have PP:=HP.out
 refine⟨rfl,_,results_c rfl _ _ _ ⟨w.heap.size,0,none⟩ _ (by kernel_rfl) (run_loadVar_row _ w.heap.size 80 80 #[.int .i64 2,.int .u64 0,.slice A2 n c2,.slice none 0 0] (0,0) _ HL Try.underlying80 rfl size34),A2,c2,⟨rfl,ok_leaf (by decide) ⟨PP.len,PP.row.only HG (fun a ha e=>?_),PP.lt,PP.cap,PP.nil⟩,W2⟩,fun a ha=>by have h2:w.heap.size+1≤a.block:=(by simpa using HQ.out a ha);omega⟩
 have e2:=Option.some.inj e
 have h2:w.heap.size+1≤a.block:=by simpa using HQ.out a ha
 omega
end Go.Proofs.Yteblmphohhbgcaa.Wr
namespace Go.Proofs.Yteblmphohhbgcaa.Wr
open Go.RowKit Go.Proofs.Yteblmphohhbgcaa.Gn Go.Proofs.Yteblmphohhbgcaa.Fd Go.Deep
theorem rcl_low{x:Nat}{t:List Nat}(h:x < 192):rcl (x :: t)=(x,1,0):=by simp[rcl,noC,szC,h]
theorem rcl_good{x y:Nat}{u:List Nat}(h:¬x < 192)(h2:¬199 < x)(h3:¬(y=0∨(x=192∧y < 192)))(h4:¬u.length+2≤x - 191):rcl (x :: y :: u)=(be ((y :: u).take (x - 191)),x - 190,0):=by
 simp only[rcl,noC,szC,if_neg h,if_neg h2,decide_eq_false h3]
 rw[if_neg (by decide),if_neg (by simp;omega),if_neg (by omega),List.drop_succ_cons,List.drop_zero,show x - 190 - 1=x - 191 by omega]
end Go.Proofs.Yteblmphohhbgcaa.Wr
