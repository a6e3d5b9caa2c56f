/- Joined texts. -/
import Derived.BigQuiet
import Derived.Test.YtjimhjfjfpeojaaGreatDoorQvAvS
import Derived.Test.YtjimhjfjfpeojaaGreatDoorQvEdU
import Derived.Test.YtjimhjfjfpeojaaGreatDoorQvRfScal
import Derived.Test.YtjimhjfjfpeojaaGreatDoorQvShRS
set_option maxRecDepth 100000
set_option maxHeartbeats 8000000
set_option linter.unusedVariables false
namespace Go.Proofs.YtjimhjfjfpeojaaGreatDoor.Av
open Go.RowKit Go.Proofs.YtjimhjfjfpeojaaGreatDoor.Gn Go.Proofs.YtjimhjfjfpeojaaGreatDoor.Fd Go.Proofs.YtjimhjfjfpeojaaGreatDoor.Ed Go.Deep
theorem Z5k{O:Nat→Prop}{w:World}{l:List Nat}{u:Value}(h:(byt true l).rep O w u)(hl:∀x∈l,x < 256):∃A n c,u=.slice A n c∧n=l.length∧Pc w (A,n,c,l)∧n≤maxLen:=by
 obtain⟨A,n,c,rfl,s1,h3⟩:=Z43 h
 obtain⟨h4,h5,h6⟩:=h3 rfl
 have hn:l.length=n:=by have:=s1.1;simpa[bl] using this
 subst hn
 exact⟨A,_,c,rfl,rfl,⟨rfl,s1,hl,h4,h6⟩,h5⟩
theorem Zkr{O:Nat→Prop}{w:World}{A:Option Addr}{n c:Nat}{l:List Nat}(h:Pc w (A,n,c,l))(hm:l.length≤maxLen)(hO:∀ad,A=some ad→¬O ad.block):(byt true l).rep O w (.slice A n c):=by
 have hn:n=l.length:=h.len
 subst hn
 refine⟨A,_,c,rfl,by simp[bl],fun _=>⟨h.cap,hm,h.nil⟩,Z0f.2 fun j x hj=>?_⟩
 rw[List.getElem?_map] at hj
 cases hq:(bl l)[j]? with
 |none=>rw[hq] at hj;cases hj
 |some v =>
  rw[hq] at hj;cases hj
  obtain⟨ad,e,hc⟩:=h.row.2 j v hq
  exact⟨v,⟨ad,e,hO ad e,by rw[Nat.zero_add];exact hc⟩,rfl⟩
theorem fresh{O:Nat→Prop}{n g k:Nat}(hO:∀b,O b→b < n)(hg:n≤g):∀ad,some (⟨g,k,none⟩:Addr)=some ad→¬O ad.block:=fun ad e h=>by cases e;have:=hO g h;omega
theorem Zrl{n:Nat}(h:n≤1000):n≤maxLen:=by unfold maxLen;omega
theorem tup2{O:Nat→Prop}{w:World}{x y:DV}{u v:Value}(h:x.rep O w u)(k:y.rep O w v):(DV.tup [x,y]).rep O w (.tuple #[u,v]):=⟨_,rfl,rfl,⟨_,rfl,h⟩,⟨_,rfl,k⟩,trivial⟩
theorem Zrm{l:List Nat}(hl:∀x∈l,x < 256)(hn:l.length≤1048576)(w:World):FnAt Tryz.prog [] w 112 [byt true l,.lit (.int .i64 512)] (.tup [byt true (Sh.dg true l),.lit (.int .i64 0)]) :=
 ⟨fun _ _=>by kernel_rfl,fun O vs hO hk hln hr=>by
  obtain⟨u,v,rfl,h1,h2⟩:=Z5o hln hr
  obtain⟨A,n,c,rfl,hn1,hp,-⟩:=Z5k h1 hl
  cases h2
  subst hn1
  refine(Sh.rsum64_any l A _ c w hl hp.row hp.nil hn).mono fun e w' ⟨v,h3,h4,h5⟩=>?_
  obtain⟨g,cap,rfl,h6,h7⟩:=Zre h4 (by decide) (Ed.dg_len l) (Zge l)
  exact⟨_,h3,tup2 (Zkr h6 (by rw[Ed.dg_len];exact Zrl (by decide)) (fresh hO h7)) rfl,h5⟩⟩
theorem Zrn{l:List Nat}(hl:∀x∈l,x < 256)(hn:l.length≤64)(w:World):FnAt Tryz.prog [] w 114 [byt true l] (.tup [byt true (by_ (le l%Lq) 32),.lit (.int .i64 0)]) :=
 ⟨fun _ _=>by kernel_rfl,fun O vs hO hk hln hr=>by
  obtain⟨u,rfl,h1⟩:=Z6g hln hr
  obtain⟨A,n,c,rfl,hn1,hp,-⟩:=Z5k h1 hl
  subst hn1
  exact(Zgy A _ c l w hn hl hp.row).mono fun e w' ⟨g,h3,h4,h5,h6⟩=>⟨_,h3,tup2 (by rw[by_length];exact Zkr (Zrd (by_length _ _) (Z60 _ _) h5) (by rw[by_length];exact Zrl (by decide)) (fresh hO h4)) rfl,h6⟩⟩
theorem Zh9{l:List Nat}(hl:∀x∈l,x < 256)(hn:l.length≤1000)(w:World):FnAt Tryz.prog [] w 79 [byt true l] (.lit (.int .i64 (Z2j l))) :=
 ⟨fun _ _=>by kernel_rfl,fun O vs hO hk hln hr=>by
  obtain⟨u,rfl,h1⟩:=Z6g hln hr
  obtain⟨A,n,c,rfl,hn1,hp,-⟩:=Z5k h1 hl
  subst hn1
  exact(Zb2 A _ c l w hn hl hp.row).mono fun e w' ⟨h3,h4⟩=>⟨_,h3,rfl,h4⟩⟩
theorem Zjl{l:List Nat}(hl:∀x∈l,x < 256)(hn:l.length≤1048576)(w:World):FnAt Tryz.prog [] w 80 [byt true l] (byt true (scb l)):=by
 refine FnAt.of Tryz.f80 _ _ Tryz.func80 Tryz.ntmps80 rfl (by kernel_rfl) (fun _ _=>by kernel_rfl) fun O=>?_
 show PW _ _ _ ⟨[(0,.c (.dv _))],[]⟩
 refine(PW.seq ?_:PW _ _ _ _)
 refine(PW.region ?_:PW _ _ _ _)
 refine PL.mu rfl rfl rfl rfl rfl ?_
 refine PL.nil ?_
 refine(PW.seq ?_:PW _ _ _ _)
 refine(PW.region ?_:PW _ _ _ _)
 refine PL.mv rfl rfl rfl rfl rfl ?_
 refine PL.call (xs:=[_,_]) rfl rfl rfl rfl rfl rfl rfl (fun w hw=>Zrm hl hn w) ?_
 refine PL.mv rfl rfl rfl rfl rfl ?_
 refine PL.step rfl rfl rfl (PS.ext rfl rfl rfl) ?_
 refine PL.step rfl rfl rfl (PS.ext rfl rfl rfl) ?_
 refine PL.mu rfl rfl rfl rfl rfl ?_
 refine PL.mu rfl rfl rfl rfl rfl ?_
 refine PL.nil ?_
 refine(PW.seq ?_:PW _ _ _ _)
 refine(PW.region ?_:PW _ _ _ _)
 refine PL.mv rfl rfl rfl rfl rfl ?_
 refine PL.call (xs:=[_]) rfl rfl rfl rfl rfl rfl rfl (fun w hw=>Zrn (Zge l) (by rw[Ed.dg_len];exact Nat.le_refl _) w) ?_
 refine PL.mv rfl rfl rfl rfl rfl ?_
 refine PL.step rfl rfl rfl (PS.ext rfl rfl rfl) ?_
 refine PL.step rfl rfl rfl (PS.ext rfl rfl rfl) ?_
 refine PL.mu rfl rfl rfl rfl rfl ?_
 refine PL.mu rfl rfl rfl rfl rfl ?_
 refine PL.nil ?_
 refine(PW.seq ?_:PW _ _ _ _)
 refine(PW.region ?_:PW _ _ _ _)
 refine PL.mv rfl rfl rfl rfl rfl ?_
 refine PL.mu rfl rfl rfl rfl rfl ?_
 refine PL.nil ?_
 refine(PW.ret ?_:PW _ _ _ _)
 exact Rt.as (Rt.one Tryz.results80 rfl) (le_refl _)
theorem Zro{a b c:List Nat}(ha:a.length≤1048576)(hb:b.length≤1048576)(hc:c.length≤1048576)(w:World):FnAt Tryz.prog [] w 81 [byt true a,byt true b,byt true c] (byt true (a ++ b ++ c)):=by
 refine FnAt.of Tryz.f81 _ _ Tryz.func81 Tryz.ntmps81 rfl (by kernel_rfl) (fun _ _=>by kernel_rfl) fun O=>?_
 show PW _ _ _ ⟨[(0,.c (.dv _)),(1,.c (.dv _)),(2,.c (.dv _))],[]⟩
 refine(PW.seq ?_:PW _ _ _ _)
 refine(PW.region ?_:PW _ _ _ _)
 refine PL.mu rfl rfl rfl rfl rfl ?_
 refine PL.nil ?_
 refine(PW.seq ?_:PW _ _ _ _)
 refine(PW.region ?_:PW _ _ _ _)
 refine PL.mu rfl rfl rfl rfl rfl ?_
 refine PL.nil ?_
 refine(PW.seq ?_:PW _ _ _ _)
 refine(PW.region ?_:PW _ _ _ _)
 refine PL.mv rfl rfl rfl rfl rfl ?_
 refine PL.mv rfl rfl rfl rfl rfl ?_
 refine PL.full rfl (Fa.app0 12 false (z:=.int .u8 0) (e:=5) (bytes:=1) (k:=1) rfl rfl rfl Tryz.underlying22 (by kernel_rfl) rfl (by decide) (fun h=>by cases h) (Z7r a) (fun h=>by cases h) (by decide) (by simp[bl];omega) (by kernel_rfl) rfl rfl ?_)
 refine PL.mv rfl rfl rfl rfl rfl ?_
 refine PL.full rfl (Fa.app 13 (z:=.int .u8 0) (e:=5) (bytes:=1) (k:=1) rfl rfl rfl rfl Tryz.underlying22 (by kernel_rfl) rfl (by decide) (fun h=>by cases h) (Z7r b) (fun h=>by cases h) (by decide) (by simp[bl];omega) (by kernel_rfl) rfl rfl ?_)
 refine PL.mv rfl rfl rfl rfl rfl ?_
 refine PL.full rfl (Fa.app 14 (z:=.int .u8 0) (e:=5) (bytes:=1) (k:=1) rfl rfl rfl rfl Tryz.underlying22 (by kernel_rfl) rfl (by decide) (fun h=>by cases h) (Z7r c) (fun h=>by cases h) (by decide) (by simp[bl];omega) (by kernel_rfl) rfl rfl ?_)
 refine PL.mu rfl rfl rfl rfl rfl ?_
 refine PL.nil ?_
 refine PW.give 14 rfl ?_
 refine(PW.ret ?_:PW _ _ _ _)
 exact Rt.as (Rt.one Tryz.results81 rfl) (Z6q (by unfold byt;simp[bl]))
theorem Zjm{l:List Nat}(hl:∀x∈l,x < 256):¬l.length=32∨(l.length=32∧dpt (le (low l)) (l.getD 31 0 / 128)=none∧decO l=none)∨∃p t g,l.length=32∧dpt (le (low l)) (l.getD 31 0 / 128)=some p∧decO l=some t∧Hp p g∧R3 t g∧t.ok∧by_ (gb g) 32=l:=by
 by_cases h:l.length=32
 ·right
  rcases Ziy h hl with⟨h1,h2⟩|⟨p,t,g,h1,h2,h3,h4,h5,h6⟩
  ·left;exact⟨h,h1,by unfold decO;rw[if_pos h,h2]⟩
  ·right;exact⟨p,t,g,h,h1,by unfold decO;rw[if_pos h,h2],h3,h4,h5,h6⟩
 ·left;exact h
theorem R3.neg{t:T3}{g:G}(h:R3 t g)(hx:t.x < pp):R3 ⟨(0+(pp - t.x))%pp,t.y,t.z⟩ (gn g):=by
 have:=Crv.rep3_neg h
 have e:(⟨fe ((0+(pp - t.x))%pp),fe t.y,fe t.z⟩:Pt3 pp)=Crv.neg3 ⟨fe t.x,fe t.y,fe t.z⟩:=by
  unfold Crv.neg3
  rw[fe_mod,Z8c hx,Z1e]
 unfold R3
 rw[show(⟨fe (T3.x ⟨(0+(pp - t.x))%pp,t.y,t.z⟩),fe (T3.y ⟨(0+(pp - t.x))%pp,t.y,t.z⟩),fe (T3.z ⟨(0+(pp - t.x))%pp,t.y,t.z⟩)⟩:Pt3 pp)=Crv.neg3 ⟨fe t.x,fe t.y,fe t.z⟩ from e]
 exact this
theorem Zny{t:T3}(h:t.ok):T3.ok ⟨(0+(pp - t.x))%pp,t.y,t.z⟩:=⟨Z0c _,h.y,h.z⟩
theorem Znz{n m:List Nat}{p q:T3}:(two3 n m p q).ok:=Zqq _ Zcd
theorem FnAt.run{P:Program}{ks:List IntKind}{w:World}{f:FuncId}{xs:List DV}{v:Value}(h:FnAt P ks w f xs (.lit v)){vs:List Value}(hl:vs.length=xs.length)(hr:DV.reps (fun _=>False) w xs 0 (fun i v=>vs[i]?=some v)):Calls P f vs.toArray w fun e w'=>e=.returned v∧Below w.heap.size w w' :=
 (h.2 (fun _=>False) vs (fun b hb=>hb.elim) (fun b cs t fz hb=>hb.elim) hl hr).mono fun e w' ⟨u,h1,h2,h3⟩=>⟨by cases h2;exact h1,h3⟩
theorem Zha{w:World}{A:Option Addr}{n c:Nat}{l:List Nat}(h:BL w A n c l):(byt true l).rep (fun _=>False) w (.slice A n c):=by
 obtain⟨h1,h2,h3,h4,h5⟩:=h
 refine⟨A,n,c,rfl,by simpa using h1.1.symm,fun _=>⟨h5,by unfold maxLen;omega,h4⟩,Z0f.2 fun j x hj=>?_⟩
 rw[List.getElem?_map] at hj
 cases hq:(bl l)[j]? with
 |none=>rw[hq] at hj;cases hj
 |some v =>
  rw[hq] at hj;cases hj
  obtain⟨ad,e1,e2⟩:=h1.2 j v hq
  exact⟨v,⟨ad,e1,fun h=>h,by rw[Nat.zero_add];exact e2⟩,rfl⟩
theorem Zks{a b:List Nat}(ha:∀x∈a,x < 256)(hb:∀x∈b,x < 256):∀x∈a ++ b,x < 256:=fun x hx=>(List.mem_append.1 hx).elim (ha x) (hb x)
end Go.Proofs.YtjimhjfjfpeojaaGreatDoor.Av
