/- Joined texts. -/
import Derived.Test.YtkahelhoaihajaaQfWrTy
set_option linter.unusedVariables false
namespace Go.Proofs.Ytkahelhoaihajaa.Wr
open Go.RowKit Go.Proofs.Ytkahelhoaihajaa.Gn Go.Proofs.Ytkahelhoaihajaa.Fd Go.Deep
set_option maxRecDepth 100000
def tk(k:Int)(br:Bool)(ks:List Tv):Tv × Bool × List Tv × Bool :=
 if br=true then(tv0,true,ks,false) else match ks with
  | []=>(tv0,true,[],false)
  |t :: ts=>if kd t=k then(t,false,ts,true) else(tv0,true,t :: ts,false)
theorem Take_any{w:World}{A:Option Addr}{c:Nat}{br:Bool}{ks:List Tv}(h:Dl w A c ks)(k:Int):∃A' c',Dl w A' c' (tk k br ks).2.2.1∧Ok w (tk k br ks).1∧∀u,Below w.heap.size w u→Calls Try.prog 32 #[.agg #[.slice A ks.length c,.bool br],.int .i64 k] u fun e w'=>e=.returned (.tuple #[(tk k br ks).1.val,.agg #[.slice A' (tk k br ks).2.2.1.length c',.bool (tk k br ks).2.1],.bool (tk k br ks).2.2.2])∧Below u.heap.size u w':=by
 unfold tk
 cases br with
 |true =>
  rw[if_pos rfl]
  exact⟨A,c,h,ok_tv0 _,fun u hu=>Take_br A ks.length c k u⟩
 |false =>
  rw[if_neg (by decide)]
  cases ks with
  |nil=>exact⟨A,c,h,ok_tv0 _,fun u hu=>Take_nil A c k u⟩
  |cons t ts =>
   obtain⟨ad,rfl,ht⟩:=h.tail
   have hok:=h.ok t List.mem_cons_self
   obtain⟨K,N,r,B,cc,us⟩:=t
   have hd:=fun u (hu:Below w.heap.size w u)=>head_cells (h.sl.below hu)
   by_cases hk:K=k
   ·subst hk
    have e1:kd (Tv.mk K N r B cc us)=K:=rfl
    simp only[e1,if_true]
    refine⟨_,c - 1,ht,hok,fun u hu=>?_⟩
    obtain⟨ad',e,k0,k1,k2,k3⟩:=hd u hu
    cases e
    have hl:(Tv.mk K N r B cc us :: ts).length - 1=ts.length:=by simp
    exact(Take_yes ad _ c (by simp) h.le K N r B us.length cc u k0 k1 k2 k3).mono fun e w' ⟨h1,h2⟩=>⟨by rw[h1,hl];rfl,h2⟩
   ·have e1:¬kd (Tv.mk K N r B cc us)=k:=hk
    simp only[if_neg e1]
    refine⟨some ad,c,h,ok_tv0 _,fun u hu=>?_⟩
    obtain⟨ad',e,k0,-⟩:=hd u hu
    cases e
    exact Take_kind ad _ c k u (by simp) K k0 hk
theorem results_tc{fn:Func}{a b:Tmp}{t:TypeId}(h:fn.results = #[.tmp a,.cell b t])(tmps:Array Value)(P:Program)(w:World)(x:Value)(ad:Addr)(v:Value)(ha:tmps.getD a undef=x)(hb:tmps.getD b undef=.pointer (some ad))(hl:(loadVar t ad).run P w=.ok v w) :
  (results fn tmps).run P w=.ok (.tuple #[x,v]) w:=by
 have ha':tmps[a]?.getD undef=x:=by simpa using ha
 have hb':tmps[b]?.getD undef=.pointer (some ad):=by simpa using hb
 simp[results,h,ha',hb',hl,asAddr]
def dq(F:Tv→Bool)(k:Int)(br:Bool)(ks:List Tv):Tv × Bool × List Tv :=
 if(tk k br ks).2.2.2=true then(if F (tk k br ks).1=true then((tk k br ks).1,(tk k br ks).2.1,(tk k br ks).2.2.1) else(tv0,true,(tk k br ks).2.2.1)) else(tv0,(tk k br ks).2.1,(tk k br ks).2.2.1)
theorem tk_ok{k:Int}{br:Bool}{ks:List Tv}:((tk k br ks).2.2.2=true→(tk k br ks).2.1=false)∧((tk k br ks).2.2.2=false→(tk k br ks).2.1=true∧(tk k br ks).1=tv0):=by
 unfold tk
 split
 ·exact⟨fun h=>(by cases h),fun _=>⟨rfl,rfl⟩⟩
 ·split
  ·exact⟨fun h=>(by cases h),fun _=>⟨rfl,rfl⟩⟩
  ·split
   ·exact⟨fun _=>rfl,fun h=>(by cases h)⟩
   ·exact⟨fun h=>(by cases h),fun _=>⟨rfl,rfl⟩⟩
def Alike(wh:Bool)(kp:List Tv)(br:Bool)(kq:List Tv):Prop:=wh = !br∧(br=false→nds kp=nds kq)∧(br=true→kp=[])
theorem alike_step{F:Tv→Bool}{k:Int}{wh br:Bool}{kp kq:List Tv}(hF:∀s∈kp,∀t∈kq,nd s=nd t→F s=F t)(h:Alike wh kp br kq):nd (nxt F k wh kp).1=nd (dq F k br kq).1∧Alike (nxt F k wh kp).2.1 (nxt F k wh kp).2.2 (dq F k br kq).2.1 (dq F k br kq).2.2:=by
 obtain⟨h1,h2,h3⟩:=h
 unfold dq tk
 cases br with
 |true =>
  rw[h3 rfl]
  exact⟨rfl,rfl,fun e=>(by cases e),fun _=>rfl⟩
 |false =>
  have h4:=h2 rfl
  subst h1
  cases kq with
  |nil =>
   have:kp=[]:=by cases kp with|nil=>rfl|cons s ss=>rw[nds,nds] at h4;cases h4
   subst this
   exact⟨rfl,rfl,fun e=>(by cases e),fun _=>rfl⟩
  |cons t ts =>
   cases kp with
   |nil=>rw[nds,nds] at h4;cases h4
   |cons s ss =>
    rw[nds,nds] at h4
    injection h4 with h5 h6
    have hk:kd s=kd t:=by cases s;cases t;rw[nd,nd] at h5;injection h5
    have hf:=hF s List.mem_cons_self t List.mem_cons_self h5
    rw[nxt,hk,hf]
    by_cases e1:kd t=k
    ·by_cases e2:F t=true
     ·simp only[if_pos e1,if_pos e2,Bool.false_eq_true,if_false,if_true]
      exact⟨h5,rfl,fun _=>h6,fun e=>(by cases e)⟩
     ·simp only[if_pos e1,if_neg e2,Bool.false_eq_true,if_false,if_true]
      first|exact⟨rfl,rfl,fun e=>(by cases e),fun _=>rfl⟩|exact⟨trivial,rfl,fun e=>(by cases e),fun _=>rfl⟩
    ·simp only[if_neg e1,Bool.false_eq_true,if_false]
     first|exact⟨rfl,rfl,fun e=>(by cases e),fun _=>rfl⟩|exact⟨trivial,rfl,fun e=>(by cases e),fun _=>rfl⟩
theorem FI_nd{a b:Int}{s t:Tv}(h:nd s=nd t):FI a b s=FI a b t:=by
 cases s;cases t;rw[nd,nd] at h;injection h with h1 h2 h3 h4;simp only[FI,nm,h2]
theorem FS_nd{s t:Tv}(h:nd s=nd t):FS s=FS t:=by
 have e:(rw_ s).2.2.2=(rw_ t).2.2.2:=by
  cases s;cases t;rw[nd,nd] at h;injection h
 unfold FS
 rw[e]
theorem FL_nd{a b:Int}{s t:Tv}(h:nd s=nd t):FL a b s=FL a b t:=by
 cases s;cases t;rw[nd,nd] at h;injection h with h1 h2 h3 h4
 have h5:=congrArg List.length h4
 rw[nds_len,nds_len] at h5
 simp only[FL,kids,h5]
theorem FB_ok{a b:Int}{w w':World}{s t:Tv}(hs:Ok w s)(ht:Ok w' t)(h:nd s=nd t):FB a b s=FB a b t:=by
 cases hs with
 |mk _ hr _ _ _ _ _ =>
  cases ht with
  |mk _ hr2 _ _ _ _ _ =>
   rw[nd,nd] at h
   injection h with h1 h2 h3 h4
   simp only[FB,rw_,hr.len,hr2.len,h3]
end Go.Proofs.Ytkahelhoaihajaa.Wr
