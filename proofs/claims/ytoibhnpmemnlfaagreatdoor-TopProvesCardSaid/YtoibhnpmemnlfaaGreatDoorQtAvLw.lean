/- Joined texts. -/
import Derived.Test.YtoibhnpmemnlfaaGreatDoorQtAvPr
import Derived.Test.YtoibhnpmemnlfaaGreatDoorQtEdV
import Derived.Test.YtoibhnpmemnlfaaGreatDoorQtAvTp
set_option linter.unusedVariables false
namespace Go.Proofs.YtoibhnpmemnlfaaGreatDoor.Av
open Go.RowKit Go.Proofs.YtoibhnpmemnlfaaGreatDoor.Gn Go.Proofs.YtoibhnpmemnlfaaGreatDoor.Fd Go.Proofs.YtoibhnpmemnlfaaGreatDoor.Ed Go.Deep
theorem FnAt.run{P:Program}{ks:List IntKind}{w:World}{f:FuncId}{xs:List DV}{v:Value}(h:FnAt P ks w f xs (.lit v)){vs:List Value}(hl:vs.length=xs.length)(hr:DV.reps (fun _=>False) w xs 0 (fun i v=>vs[i]?=some v)):Calls P f vs.toArray w fun e w'=>e=.returned v∧Below w.heap.size w w' :=
 (h.2 (fun _=>False) vs (fun b hb=>hb.elim) (fun b cs t fz hb=>hb.elim) hl hr).mono fun e w' ⟨u,h1,h2,h3⟩=>⟨by cases h2;exact h1,h3⟩
theorem bl_byt{w:World}{A:Option Addr}{n c:Nat}{l:List Nat}(h:BL w A n c l):(byt true l).rep (fun _=>False) w (.slice A n c):=by
 obtain⟨h1,h2,h3,h4,h5⟩:=h
 refine⟨A,n,c,rfl,by simpa using h1.1.symm,fun _=>⟨h5,by unfold maxLen;omega,h4⟩,reps_iff.2 fun j x hj=>?_⟩
 rw[List.getElem?_map] at hj
 cases hq:(bl l)[j]? with
 |none=>rw[hq] at hj;cases hj
 |some v =>
  rw[hq] at hj;cases hj
  obtain⟨ad,e1,e2⟩:=h1.2 j v hq
  exact⟨v,⟨ad,e1,fun h=>h,by rw[Nat.zero_add];exact e2⟩,rfl⟩
end Go.Proofs.YtoibhnpmemnlfaaGreatDoor.Av
namespace Go.Proofs.YtoibhnpmemnlfaaGreatDoor.Av
open Go.RowKit Go.Proofs.YtoibhnpmemnlfaaGreatDoor.Gn Go.Proofs.YtoibhnpmemnlfaaGreatDoor.Fd Go.Proofs.YtoibhnpmemnlfaaGreatDoor.Ed Go.Deep
theorem g_sum512{l:List Nat}(hl:∀x∈l,x < 256)(hn:l.length≤1048576)(h0:0 < l.length)(w:World)(ts:Sh.Tab w):FnAt Tryz.prog [] w 8 [byt true l] (.tup [byt true (Sh.dg true l),.lit (.int .i64 0)]) :=
 ⟨fun _ _=>by kernel_rfl,fun O vs hO hk hln hr=>by
  obtain⟨u,rfl,h1⟩:=one_arg hln hr
  obtain⟨A,n,c,rfl,hn1,hp,-⟩:=pc_of h1 hl
  subst hn1
  exact(Sh.Sum512_any l A c w hl hp.row (Sh.Sl_block hp.row h0) hp.cap hn ts).mono fun e w' ⟨q,h3,h4,h5,h6⟩=>⟨_,h3,tup2 (by
   refine pc_rep (n:=64) (l:=Sh.dg true l) ⟨(Ed.dg_len l).symm,Sl.of_bl h5 0 _ _ (by rw[bl_length]) (fun k v hk=>by rw[Nat.zero_add];simpa using hk),dg_lt l,by show(Sh.dg true l).length≤64;rw[Ed.dg_len];exact Nat.le_refl _,fun h=>by cases h⟩ (by rw[Ed.dg_len];exact max64 (by decide)) (fresh hO h4)) rfl,h6⟩⟩
theorem g_own512{l:List Nat}(hl:∀x∈l,x < 256)(hn:l.length≤1048576)(h0:0 < l.length)(w:World)(ts:Sh.Tab w):OwnTAt Tryz.prog [] w 8 [byt true l] 5 1 false ((bl (Sh.dg true l)).map .lit) (.int .i64 0) :=
 ⟨fun _ _=>by kernel_rfl,fun O vs hO hk hln hr=>by
  obtain⟨u,rfl,h1⟩:=one_arg hln hr
  obtain⟨A,n,c,rfl,hn1,hp,-⟩:=pc_of h1 hl
  subst hn1
  refine(Sh.Sum512_any l A c w hl hp.row (Sh.Sl_block hp.row h0) hp.cap hn ts).mono fun e w' ⟨q,h3,h4,h5,h6⟩=>?_
  obtain⟨v,n,us,e1,e2,e3,e4,e5,e6,e7⟩:=ownY_rep (l:=Sh.dg true l) (O:=O) (e:=.returned (.slice (some ⟨q,0,none⟩) (Sh.dg true l).length (Sh.dg true l).length)) (by rw[Ed.dg_len];exact max64 (by decide)) ⟨q,rfl,h4,h5,h6⟩
  injection e1 with e1
  rw[Ed.dg_len] at e1
  subst e1
  exact⟨_,n,us,h3,e2,e3,e4,e5,e6,e7⟩⟩
theorem g_foldP{l:List Nat}(hl:∀x∈l,x < 256)(hn:l.length≤64)(w:World)(tl:TabL w):FnAt Tryz.prog [] w 9 [byt true l] (.tup [byt true (by_ (le l%Lq) 32),.lit (.int .i64 0)]) :=
 ⟨fun _ _=>by kernel_rfl,fun O vs hO hk hln hr=>by
  obtain⟨u,rfl,h1⟩:=one_arg hln hr
  obtain⟨A,n,c,rfl,hn1,hp,-⟩:=pc_of h1 hl
  subst hn1
  exact(Fold_any A _ c l w tl hn hl hp.row).mono fun e w' ⟨g,h3,h4,h5,h6⟩=>⟨_,h3,tup2 (by rw[by_length];exact pc_rep (pc_bl (by_length _ _) (by_lt _ _) h5) (by rw[by_length];exact max64 (by decide)) (fresh hO h4)) rfl,h6⟩⟩
theorem g_verOwn{l m:List Nat}{b:G}(hm:∀x∈m,x < 256)(hn:m.length≤65536)(hb:Hp kbase b)(w:World)(tab:TabE w)(ts:Sh.Tab w)(tl:TabL w):FnAt Tryz.prog [] w 17 [byt true (keyb l b),byt true m,byt true (sfst l m b ++ ssnd l m b)] (.lit (.int .i64 0)) :=
 ⟨fun _ _=>by kernel_rfl,fun O vs hO hkk hln hr=>by
  obtain⟨u,v,t,rfl,h1,h2,h3⟩:=three_args hln hr
  obtain⟨A,n,c,rfl,hn1,hp,-⟩:=pc_of h1 (by_lt _ _)
  obtain⟨M,k,d,rfl,hn2,hq,-⟩:=pc_of h2 hm
  obtain⟨S,j,cs,rfl,hn3,hr3,-⟩:=pc_of h3 (fun x hx=>(List.mem_append.1 hx).elim (by_lt _ _ x) (by_lt _ _ x))
  rw[keyb_length] at hn1
  rw[List.length_append,sfst_length,ssnd_length] at hn3
  subst hn1 hn3
  exact(verify_own tab ts tl hp hq hr3 (by omega) hb).mono fun e w' ⟨h4,h5⟩=>⟨_,h4,rfl,h5⟩⟩
theorem Sum256_nil(w:World)(ts:Sh.Tab w):Calls Tryz.prog 48 #[.slice none 0 0] w fun e w'=>∃q,e=.returned (.tuple #[.slice (some ⟨q,0,none⟩) 32 32,.int .i64 0])∧w.heap.size≤q∧Bl w' q 5 (bl (Sh.dg false [])).toArray∧Below w.heap.size w w' :=
 Sh.Sum256_any [] none 0 w (fun x hx=>by cases hx) (Sl.nil_ _ _) (fun ad h=>by cases h) (Nat.le_refl _) (by decide) ts
theorem dg_nil:(Sh.dg false []).length=32∧(Sh.dg false []).getD 0 0=227∧(∀x∈Sh.dg false [],x < 256):=by decide +kernel
theorem g_sum256(w:World)(ts:Sh.Tab w):FnAt Tryz.prog [] w 48 [.lit (.slice none 0 0)] (.tup [byt true (Sh.dg false []),.lit (.int .i64 0)]) :=
 ⟨fun _ _=>by kernel_rfl,fun O vs hO hk hln hr=>by
  obtain⟨u,rfl,h1⟩:=one_arg hln hr
  cases h1
  exact(Sum256_nil w ts).mono fun e w' ⟨q,h3,h4,h5,h6⟩=>⟨_,h3,tup2 (pc_rep (pc_bl dg_nil.1 dg_nil.2.2 h5) (by rw[dg_nil.1];exact max64 (by decide)) (fresh hO h4)) rfl,h6⟩⟩
theorem key_zero{b:G}(hb:Hp kbase b):(keyb (List.replicate 32 0) b).getD 0 0=59:=by
 have:=gb_key (hp_qb hb)
 unfold keyb
 rw[sec_zero]
 generalize by_ (gb (ti kz b)) 32=Y at *
 cases Y with
 |nil=>simp at this
 |cons x Y=>simp at this;simp[this.1]
theorem sign_pts{l m:List Nat}{b:G}(hb:Hp kbase b):ti (le (ssnd l m b)) b=ga (ti (le (sr l m)) b) (ti (le (sk l m b)) (ti (le (sec l)) b)):=by
 have hl:ti lq b=gz:=lq_base (hp_qb hb)
 rw[ssnd_le,Lq_is,ti_mod hl,ti_add,ti_mul,ga_comm]
end Go.Proofs.YtoibhnpmemnlfaaGreatDoor.Av
