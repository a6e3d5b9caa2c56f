/- Joined texts. -/
import Derived.Test.YtjimhjfjfpeojaaGreatDoorQsAvS
import Derived.Test.YtjimhjfjfpeojaaGreatDoorQsAvSg
set_option linter.unusedVariables false
namespace Go.Proofs.YtjimhjfjfpeojaaGreatDoor.Av
open Go.RowKit Go.Proofs.YtjimhjfjfpeojaaGreatDoor.Gn Go.Proofs.YtjimhjfjfpeojaaGreatDoor.Fd Go.Proofs.YtjimhjfjfpeojaaGreatDoor.Ed Go.Deep
theorem R3.times{n:List Nat}(hn:∀x∈n,x < 256){t:T3}{g:G}(h:R3 t g):R3 (two3 n [] t zero3) (ti (le n) g):=by
 have:=R3.two (n:=n) (m:=[]) hn (fun x hx=>by cases hx) h R3.zero
 rwa [show le []=0 from rfl,ti_zero,ga_z] at this
theorem two3_ok{n m:List Nat}{p q:T3}:(two3 n m p q).ok:=go3_ok _ zero3_ok
theorem FnAt.run{P:Program}{ks:List IntKind}{w:World}{f:FuncId}{xs:List DV}{v:Value}(h:FnAt P ks w f xs (.lit v)){vs:List Value}(hl:vs.length=xs.length)(hr:DV.reps (fun _=>False) w xs 0 (fun i v=>vs[i]?=some v)):Calls P f vs.toArray w fun e w'=>e=.returned v∧Below w.heap.size w w' :=
 (h.2 (fun _=>False) vs (fun b hb=>hb.elim) (fun b cs t fz hb=>hb.elim) hl hr).mono fun e w' ⟨u,h1,h2,h3⟩=>⟨by cases h2;exact h1,h3⟩
theorem bl_byt{w:World}{A:Option Addr}{n c:Nat}{l:List Nat}(h:BL w A n c l):(byt true l).rep (fun _=>False) w (.slice A n c):=by
 obtain⟨h1,h2,h3,h4,h5⟩:=h
 refine⟨A,n,c,rfl,by simpa using h1.1.symm,fun _=>⟨h5,by unfold maxLen;omega,h4⟩,reps_iff.2 fun j x hj=>?_⟩
 rw[List.getElem?_map] at hj
 cases hq:(bl l)[j]? with
 |none=>rw[hq] at hj;cases hj
 |some v =>
  rw[hq] at hj;cases hj
  obtain⟨ad,e1,e2⟩:=h1.2 j v hq
  exact⟨v,⟨ad,e1,fun h=>h,by rw[Nat.zero_add];exact e2⟩,rfl⟩
end Go.Proofs.YtjimhjfjfpeojaaGreatDoor.Av
namespace Go.Proofs.YtjimhjfjfpeojaaGreatDoor.Av
open Go.RowKit Go.Proofs.YtjimhjfjfpeojaaGreatDoor.Gn Go.Proofs.YtjimhjfjfpeojaaGreatDoor.Fd Go.Proofs.YtjimhjfjfpeojaaGreatDoor.Ed Go.Deep
theorem sr_lt(l m:List Nat):∀x∈sr l m,x < 256:=by_lt _ _
theorem sr_len(l m:List Nat):(sr l m).length=32:=by_length _ _
theorem sk_lt(l m:List Nat)(b:G):∀x∈sk l m b,x < 256:=by_lt _ _
theorem sk_len(l m:List Nat)(b:G):(sk l m b).length=32:=by_length _ _
theorem keyb_lt(l:List Nat)(b:G):∀x∈keyb l b,x < 256:=by_lt _ _
theorem sfst_lt(l m:List Nat)(b:G):∀x∈sfst l m b,x < 256:=by_lt _ _
theorem ssnd_lt(l m:List Nat)(b:G):∀x∈ssnd l m b,x < 256:=by_lt _ _
theorem app_lt{a b:List Nat}(ha:∀x∈a,x < 256)(hb:∀x∈b,x < 256):∀x∈a ++ b,x < 256:=fun x hx=>(List.mem_append.1 hx).elim (ha x) (hb x)
theorem enc_times{n:List Nat}{b:G}(hn:∀x∈n,x < 256)(hb:Hp kbase b):encL (two3 n [] base3 zero3)=by_ (gb (ti (le n) b)) 32:=R3.encL (R3.times hn (base3_R3 hb))
theorem nil_byt:DV.le (.lit (.slice none 0 0)) (byt true []):=le_bnil
set_option maxRecDepth 100000 in
theorem c_key{l:List Nat}{b:G}(h32:l.length=32)(hl:∀x∈l,x < 256)(hb:Hp kbase b)(w:World):FnAt Tryz.prog [.u64] w 34 [byt true l] (byt true (keyb l b)):=by
 refine FnAt.of Tryz.f34 _ _ Tryz.func34 Tryz.ntmps34 rfl (by kernel_rfl) (fun _ _=>by kernel_rfl) fun O=>?_
 show PW _ _ _ ⟨[(0,.c (.dv _))],[]⟩
 refine(PW.seq ?_:PW _ _ _ _)
 refine(PW.region ?_:PW _ _ _ _)
 refine PL.mu rfl rfl rfl rfl rfl ?_
 refine PL.nil ?_
 refine(PW.seq ?_:PW _ _ _ _)
 refine(PW.region ?_:PW _ _ _ _)
 refine PL.mv rfl rfl rfl rfl rfl ?_
 refine PL.call (xs:=[_]) rfl rfl rfl rfl rfl rfl rfl (fun w hw=>c_secret hl (by omega) w) ?_
 refine PL.mv rfl rfl rfl rfl rfl ?_
 refine PL.step rfl rfl rfl (PS.ext rfl rfl rfl) ?_
 refine PL.step rfl rfl rfl (PS.ext rfl rfl rfl) ?_
 refine PL.mu rfl rfl rfl rfl rfl ?_
 refine PL.mu rfl rfl rfl rfl rfl ?_
 refine PL.nil ?_
 refine(PW.seq ?_:PW _ _ _ _)
 refine(PW.region ?_:PW _ _ _ _)
 refine PL.mv rfl rfl rfl rfl rfl ?_
 refine PL.call (xs:=[]) rfl rfl rfl rfl rfl rfl rfl (fun w hw=>c_base w) ?_
 refine PL.call (xs:=[_,_]) rfl rfl rfl rfl rfl rfl rfl (fun w hw=>c_times (by rw[sec_length];decide) base3_ok w) ?_
 refine PL.call (xs:=[_]) rfl rfl rfl rfl rfl rfl rfl (fun w hw=>FnAt.to (c_encode two3_ok w) (le_eq (show byt true (encL (two3 (sec l) [] base3 zero3))=byt true (keyb l b) by rw[enc_times (sec_lt l) hb];rfl))) ?_
 refine PL.mu rfl rfl rfl rfl rfl ?_
 refine PL.nil ?_
 refine(PW.ret ?_:PW _ _ _ _)
 exact Rt.as (Rt.one Tryz.results34 rfl) (le_refl _)
set_option maxRecDepth 100000 in
theorem c_signBy{l m:List Nat}{b:G}(h32:l.length=32)(hl:∀x∈l,x < 256)(hm:∀x∈m,x < 256)(hn:m.length≤65536)(hb:Hp kbase b)(w:World):FnAt Tryz.prog [.u64] w 76 [byt true l,byt true (keyb l b),byt true m] (byt true (sfst l m b ++ ssnd l m b)):=by
 have q1:=salt_length l
 have q2:=sec_length l
 have q3:=sr_len l m
 have q4:=sk_len l m b
 have q5:=sfst_length l m b
 have q6:=ssnd_length l m b
 have q7:=keyb_length l b
 refine FnAt.of Tryz.f76 _ _ Tryz.func76 Tryz.ntmps76 rfl (by kernel_rfl) (fun _ _=>by kernel_rfl) fun O=>?_
 show PW _ _ _ ⟨[(0,.c (.dv _)),(1,.c (.dv _)),(2,.c (.dv _))],[]⟩
 refine(PW.seq ?_:PW _ _ _ _)
 refine(PW.region ?_:PW _ _ _ _)
 refine PL.mu rfl rfl rfl rfl rfl ?_
 refine PL.nil ?_
 refine(PW.seq ?_:PW _ _ _ _)
 refine(PW.region ?_:PW _ _ _ _)
 refine PL.mv rfl rfl rfl rfl rfl ?_
 refine PL.call (xs:=[_]) rfl rfl rfl rfl rfl rfl rfl (fun w hw=>c_secret hl (by omega) w) ?_
 refine PL.mv rfl rfl rfl rfl rfl ?_
 refine PL.step rfl rfl rfl (PS.ext rfl rfl rfl) ?_
 refine PL.step rfl rfl rfl (PS.ext rfl rfl rfl) ?_
 refine PL.mu rfl rfl rfl rfl rfl ?_
 refine PL.mu rfl rfl rfl rfl rfl ?_
 refine PL.nil ?_
 refine(PW.seq ?_:PW _ _ _ _)
 refine(PW.region ?_:PW _ _ _ _)
 refine PL.mv rfl rfl rfl rfl rfl ?_
 refine PL.mv rfl rfl rfl rfl rfl ?_
 refine PL.call (xs:=[_,_,_]) rfl rfl rfl rfl rfl rfl rfl (fun w hw=>(FnAt.to (FnAt.les (c_join (a:=(salt l)) (b:=m) (c:=[]) (by omega) (by omega) (by first|omega|decide) w) ⟨le_refl _,le_refl _,nil_byt,trivial⟩) (le_eq (show byt true ((salt l) ++ m ++ [])=byt true (salt l ++ m) by rw[List.append_nil])))) ?_
 refine PL.call (xs:=[_]) rfl rfl rfl rfl rfl rfl rfl (fun w hw=>(show FnAt Tryz.prog [] w 80 [byt true (salt l ++ m)] (byt true (sr l m)) from c_scalar (app_lt (salt_lt l) hm) (by rw[List.length_append];omega) w)) ?_
 refine PL.mu rfl rfl rfl rfl rfl ?_
 refine PL.nil ?_
 refine(PW.seq ?_:PW _ _ _ _)
 refine(PW.region ?_:PW _ _ _ _)
 refine PL.mv rfl rfl rfl rfl rfl ?_
 refine PL.call (xs:=[]) rfl rfl rfl rfl rfl rfl rfl (fun w hw=>c_base w) ?_
 refine PL.call (xs:=[_,_]) rfl rfl rfl rfl rfl rfl rfl (fun w hw=>c_times (n:=sr l m) (by rw[sr_len];decide) base3_ok w) ?_
 refine PL.call (xs:=[_]) rfl rfl rfl rfl rfl rfl rfl (fun w hw=>FnAt.to (c_encode two3_ok w) (le_eq (show byt true (encL (two3 (sr l m) [] base3 zero3))=byt true (sfst l m b) by rw[enc_times (sr_lt l m) hb];rfl))) ?_
 refine PL.mu rfl rfl rfl rfl rfl ?_
 refine PL.nil ?_
 refine(PW.seq ?_:PW _ _ _ _)
 refine(PW.region ?_:PW _ _ _ _)
 refine PL.mv rfl rfl rfl rfl rfl ?_
 refine PL.mv rfl rfl rfl rfl rfl ?_
 refine PL.mv rfl rfl rfl rfl rfl ?_
 refine PL.call (xs:=[_,_,_]) rfl rfl rfl rfl rfl rfl rfl (fun w hw=>(FnAt.to (FnAt.les (c_join (a:=(sfst l m b)) (b:=(keyb l b)) (c:=m) (by omega) (by omega) (by first|omega|decide) w) ⟨le_refl _,le_refl _,le_refl _,trivial⟩) (le_eq (show byt true ((sfst l m b) ++ (keyb l b) ++ m)=byt true (sfst l m b ++ (keyb l b ++ m)) by rw[List.append_assoc])))) ?_
 refine PL.call (xs:=[_]) rfl rfl rfl rfl rfl rfl rfl (fun w hw=>(show FnAt Tryz.prog [] w 80 [byt true (sfst l m b ++ (keyb l b ++ m))] (byt true (sk l m b)) from c_scalar (app_lt (sfst_lt l m b) (app_lt (keyb_lt l b) hm)) (by rw[List.length_append,List.length_append];omega) w)) ?_
 refine PL.mu rfl rfl rfl rfl rfl ?_
 refine PL.nil ?_
 refine(PW.seq ?_:PW _ _ _ _)
 refine(PW.region ?_:PW _ _ _ _)
 refine PL.mv rfl rfl rfl rfl rfl ?_
 refine PL.mv rfl rfl rfl rfl rfl ?_
 refine PL.mv rfl rfl rfl rfl rfl ?_
 refine PL.call (xs:=[_,_,_]) rfl rfl rfl rfl rfl rfl rfl (fun w hw=>(show FnAt Tryz.prog [] w 113 [byt true (sk l m b),byt true (sec l),byt true (sr l m)] (.tup [byt true (ssnd l m b),.lit (.int .i64 0)]) from c_timesS (sk_lt l m b) (sec_lt l) (sr_lt l m) (by omega) (by omega) (by omega) w)) ?_
 refine PL.mv rfl rfl rfl rfl rfl ?_
 refine PL.step rfl rfl rfl (PS.ext rfl rfl rfl) ?_
 refine PL.step rfl rfl rfl (PS.ext rfl rfl rfl) ?_
 refine PL.mu rfl rfl rfl rfl rfl ?_
 refine PL.mu rfl rfl rfl rfl rfl ?_
 refine PL.nil ?_
 refine(PW.seq ?_:PW _ _ _ _)
 refine(PW.region ?_:PW _ _ _ _)
 refine PL.mv rfl rfl rfl rfl rfl ?_
 refine PL.mv rfl rfl rfl rfl rfl ?_
 refine PL.call (xs:=[_,_,_]) rfl rfl rfl rfl rfl rfl rfl (fun w hw=>(FnAt.to (FnAt.les (c_join (a:=(sfst l m b)) (b:=(ssnd l m b)) (c:=[]) (by omega) (by omega) (by first|omega|decide) w) ⟨le_refl _,le_refl _,nil_byt,trivial⟩) (le_eq (show byt true ((sfst l m b) ++ (ssnd l m b) ++ [])=byt true (sfst l m b ++ ssnd l m b) by rw[List.append_nil])))) ?_
 refine PL.mu rfl rfl rfl rfl rfl ?_
 refine PL.nil ?_
 refine(PW.ret ?_:PW _ _ _ _)
 exact Rt.as (Rt.one Tryz.results76 rfl) (le_refl _)
set_option maxRecDepth 100000 in
theorem c_sign{l m:List Nat}{b:G}(h32:l.length=32)(hl:∀x∈l,x < 256)(hm:∀x∈m,x < 256)(hn:m.length≤65536)(hb:Hp kbase b)(w:World):FnAt Tryz.prog [.u64] w 35 [byt true l,byt true m] (byt true (sfst l m b ++ ssnd l m b)):=by
 refine FnAt.of Tryz.f35 _ _ Tryz.func35 Tryz.ntmps35 rfl (by kernel_rfl) (fun _ _=>by kernel_rfl) fun O=>?_
 show PW _ _ _ ⟨[(0,.c (.dv _)),(1,.c (.dv _))],[]⟩
 refine(PW.seq ?_:PW _ _ _ _)
 refine(PW.region ?_:PW _ _ _ _)
 refine PL.mu rfl rfl rfl rfl rfl ?_
 refine PL.nil ?_
 refine(PW.seq ?_:PW _ _ _ _)
 refine(PW.region ?_:PW _ _ _ _)
 refine PL.mv rfl rfl rfl rfl rfl ?_
 refine PL.mv rfl rfl rfl rfl rfl ?_
 refine PL.call (xs:=[_]) rfl rfl rfl rfl rfl rfl rfl (fun w hw=>c_key h32 hl hb w) ?_
 refine PL.mv rfl rfl rfl rfl rfl ?_
 refine PL.call (xs:=[_,_,_]) rfl rfl rfl rfl rfl rfl rfl (fun w hw=>c_signBy h32 hl hm hn hb w) ?_
 refine PL.mu rfl rfl rfl rfl rfl ?_
 refine PL.nil ?_
 refine(PW.ret ?_:PW _ _ _ _)
 exact Rt.as (Rt.one Tryz.results35 rfl) (le_refl _)
end Go.Proofs.YtjimhjfjfpeojaaGreatDoor.Av
