/- Joined texts. -/
import Derived.Test.YtjimhjfjfpeojaaGreatDoorQbAvS
set_option linter.unusedVariables false
namespace Go.Proofs.YtjimhjfjfpeojaaGreatDoor.Av
open Go.RowKit Go.Proofs.YtjimhjfjfpeojaaGreatDoor.Gn Go.Proofs.YtjimhjfjfpeojaaGreatDoor.Fd Go.Proofs.YtjimhjfjfpeojaaGreatDoor.Ed Go.Deep
theorem ed_cases{l:List Nat}(hl:∀x∈l,x < 256):¬l.length=32∨(l.length=32∧dpt (le (low l)) (l.getD 31 0 / 128)=none∧decO l=none)∨∃p t g,l.length=32∧dpt (le (low l)) (l.getD 31 0 / 128)=some p∧decO l=some t∧Hp p g∧R3 t g∧t.ok∧by_ (gb g) 32=l:=by
 by_cases h:l.length=32
 ·right
  rcases dec_both h hl with⟨h1,h2⟩|⟨p,t,g,h1,h2,h3,h4,h5,h6⟩
  ·left;exact⟨h,h1,by unfold decO;rw[if_pos h,h2]⟩
  ·right;exact⟨p,t,g,h,h1,by unfold decO;rw[if_pos h,h2],h3,h4,h5,h6⟩
 ·left;exact h
theorem R3.neg{t:T3}{g:G}(h:R3 t g)(hx:t.x < pp):R3 ⟨(0+(pp - t.x))%pp,t.y,t.z⟩ (gn g):=by
 have:=Crv.rep3_neg h
 have e:(⟨fe ((0+(pp - t.x))%pp),fe t.y,fe t.z⟩:Pt3 pp)=Crv.neg3 ⟨fe t.x,fe t.y,fe t.z⟩:=by
  unfold Crv.neg3
  rw[fe_mod,fe_less hx,fe_zero]
 unfold R3
 rw[show(⟨fe (T3.x ⟨(0+(pp - t.x))%pp,t.y,t.z⟩),fe (T3.y ⟨(0+(pp - t.x))%pp,t.y,t.z⟩),fe (T3.z ⟨(0+(pp - t.x))%pp,t.y,t.z⟩)⟩:Pt3 pp)=Crv.neg3 ⟨fe t.x,fe t.y,fe t.z⟩ from e]
 exact this
theorem c_isT{g h:G}{t:T3}(ht:R3 t h)(hok:t.ok)(b:Bool)(hb:b=true↔g=h)(w:World):FnAt Tryz.prog [.u64] w 14 [pnt g,t.dv] (.lit (.bool b)) :=
 c_is hok.x hok.y hok.z b (fun q hq=>ris_eq hq ht b hb) w
theorem c_negT{t:T3}(hok:t.ok)(w:World):FnAt Tryz.prog [.u64] w 25 [t.dv] (T3.dv ⟨(0+(pp - t.x))%pp,t.y,t.z⟩):=c_neg hok.x w
theorem negT_ok{t:T3}(h:t.ok):T3.ok ⟨(0+(pp - t.x))%pp,t.y,t.z⟩:=⟨lt_mod _,h.y,h.z⟩
theorem eqb(g h:G):∃b:Bool,b=true↔g=h:=by classical exact⟨decide (g=h),by simp⟩
theorem R3.times{n:List Nat}(hn:∀x∈n,x < 256){t:T3}{g:G}(h:R3 t g):R3 (two3 n [] t zero3) (ti (le n) g):=by
 have:=R3.two (n:=n) (m:=[]) hn (fun x hx=>by cases hx) h R3.zero
 rwa [show le []=0 from rfl,ti_zero,ga_z] at this
theorem two3_ok{n m:List Nat}{p q:T3}:(two3 n m p q).ok:=go3_ok _ zero3_ok
theorem bool_true{b:Bool}(h:b=true):DV.le (.lit (.bool b)) (.lit (.bool true)):=bool_le h
theorem FnAt.run{P:Program}{ks:List IntKind}{w:World}{f:FuncId}{xs:List DV}{v:Value}(h:FnAt P ks w f xs (.lit v)){vs:List Value}(hl:vs.length=xs.length)(hr:DV.reps (fun _=>False) w xs 0 (fun i v=>vs[i]?=some v)):Calls P f vs.toArray w fun e w'=>e=.returned v∧Below w.heap.size w w' :=
 (h.2 (fun _=>False) vs (fun b hb=>hb.elim) (fun b cs t fz hb=>hb.elim) hl hr).mono fun e w' ⟨u,h1,h2,h3⟩=>⟨by cases h2;exact h1,h3⟩
theorem bl_byt{w:World}{A:Option Addr}{n c:Nat}{l:List Nat}(h:BL w A n c l):(byt true l).rep (fun _=>False) w (.slice A n c):=by
 obtain⟨h1,h2,h3,h4,h5⟩:=h
 refine⟨A,n,c,rfl,by simpa using h1.1.symm,fun _=>⟨h5,by unfold maxLen;omega,h4⟩,reps_iff.2 fun j x hj=>?_⟩
 rw[List.getElem?_map] at hj
 cases hq:(bl l)[j]? with
 |none=>rw[hq] at hj;cases hj
 |some v =>
  rw[hq] at hj;cases hj
  obtain⟨ad,e1,e2⟩:=h1.2 j v hq
  exact⟨v,⟨ad,e1,fun h=>h,by rw[Nat.zero_add];exact e2⟩,rfl⟩
set_option maxRecDepth 100000 in
theorem p_decL{r:Bool}{l:List Nat}(h32:¬l.length=32)(w:World):FnAt Tryz.prog [] w 12 [byt r l] (.tup [nop,.lit (.int .i64 1)]):=by
 refine FnAt.of Tryz.f12 _ _ Tryz.func12 Tryz.ntmps12 rfl (by kernel_rfl) (fun _ _=>by kernel_rfl) fun O=>?_
 show PW _ _ _ ⟨[(0,.c (.dv _))],[]⟩
 refine(PW.seq ?_:PW _ _ _ _)
 refine(PW.region ?_:PW _ _ _ _)
 refine PL.full rfl (Fa.alloc 1 (z:=(.agg #[.int .u64 0,.int .u64 0,.int .u64 0,.int .u64 0,.int .u64 0,.int .u64 0,.int .u64 0,.int .u64 0,.int .u64 0,.int .u64 0,.int .u64 0,.int .u64 0,.int .u64 0,.int .u64 0,.int .u64 0,.int .u64 0,.int .u64 0,.int .u64 0,.int .u64 0,.int .u64 0])) rfl (by kernel_rfl) (by kernel_rfl) rfl rfl ?_)
 refine PL.mu rfl rfl rfl rfl rfl ?_
 refine PL.nil ?_
 refine(PW.seq ?_:PW _ _ _ _)
 refine(PW.seq ?_:PW _ _ _ _)
 refine(PW.region ?_:PW _ _ _ _)
 refine PL.mv rfl rfl rfl rfl rfl ?_
 refine PL.step rfl rfl rfl (PS.len (n:=l.length) rfl rfl Tryz.underlying22 (by decide) (by simp[bl])) ?_
 refine PL.step rfl rfl rfl (PS.neq rfl rfl rfl) ?_
 refine PL.nil ?_
 show PW _ _ _ _
 refine PW.cond (by rfl) (fun hc13=>?_) (fun hc13=>?_)
 ·skip
  refine(PW.seq ?_:PW _ _ _ _)
  refine(PW.region ?_:PW _ _ _ _)
  refine PL.step rfl rfl rfl (PS.build (xs:=[]) (zs:=[.int .u64 0,.int .u64 0,.int .u64 0,.int .u64 0,.int .u64 0,.int .u64 0,.int .u64 0,.int .u64 0,.int .u64 0,.int .u64 0,.int .u64 0,.int .u64 0,.int .u64 0,.int .u64 0,.int .u64 0,.int .u64 0,.int .u64 0,.int .u64 0,.int .u64 0,.int .u64 0]) [] _ rfl rfl Tryz.underlying28 (by kernel_rfl) (by kernel_rfl) (by kernel_rfl) rfl (by kernel_rfl) rfl) ?_
  refine PL.full rfl (Fa.storeR rfl rfl rfl rfl rfl rfl (by kernel_rfl) rfl ?_)
  refine PL.mu rfl rfl rfl rfl rfl ?_
  refine PL.nil ?_
  refine(PW.ret ?_:PW _ _ _ _)
  exact Rt.as (Rt.cellTwo Tryz.results12 rfl rfl rfl Tryz.underlying28 rfl (by kernel_rfl)) (le_tup2 (agg_lit (l:=z20.toList)) (le_refl _))
 ·exfalso;simp at hc13;omega
end Go.Proofs.YtjimhjfjfpeojaaGreatDoor.Av
