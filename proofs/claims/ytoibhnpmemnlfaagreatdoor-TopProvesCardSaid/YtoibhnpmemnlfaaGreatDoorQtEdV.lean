/- Joined texts. -/
import Derived.Test.YtoibhnpmemnlfaaGreatDoorQtEdU
import Derived.Outline
import Derived.Deep.DeepCutAuto
import Derived.Test.YtoibhnpmemnlfaaGreatDoorQtSaB
import Derived.Test.YtoibhnpmemnlfaaGreatDoorQtSaD
import Derived.Deep.RegionLaw
import Derived.Deep.AppendLies
import Derived.Deep.CutBlock
import Derived.BigQuiet
import Derived.Test.YtoibhnpmemnlfaaGreatDoorQtAvPr
import Derived.Test.YtoibhnpmemnlfaaGreatDoorQtRfScal
import Derived.Test.YtoibhnpmemnlfaaGreatDoorQtGnA
import Derived.Test.YtoibhnpmemnlfaaGreatDoorQtSaC
set_option linter.unusedVariables false
namespace Go.Proofs.YtoibhnpmemnlfaaGreatDoor.Ed
open Go.RowKit Go.Proofs.YtoibhnpmemnlfaaGreatDoor.Gn Go.Proofs.YtoibhnpmemnlfaaGreatDoor.Fd Go.Deep
theorem Lq_is:Lq=lq:=by rw[Lq_eq];rfl
theorem ssnd_le(l m:List Nat)(b:G):le (ssnd l m b)=(le (sk l m b)*le (sec l)+le (sr l m))%Lq:=by
 unfold ssnd
 rw[le_by,Nat.mod_eq_of_lt]
 exact Nat.lt_trans (Nat.mod_lt _ Lq_pos) (by rw[Lq_eq];decide)
theorem sc_zero{l:List Nat}(h:l.length=32):(scErr l=0)↔le l < Lq:=by
 unfold scErr
 rw[if_pos h]
 by_cases k:le l < Lq
 ·simp[k]
 ·simp[k]
theorem sfst_length(l m:List Nat)(b:G):(sfst l m b).length=32:=by_length _ _
theorem ssnd_length(l m:List Nat)(b:G):(ssnd l m b).length=32:=by_length _ _
theorem keyb_length(l:List Nat)(b:G):(keyb l b).length=32:=by_length _ _
theorem vend_of{l m z:List Nat}{b:G}(hz:z.length=32)(hl:le z < Lq):vend (keyb l b) m (sfst l m b ++ z) (ti (le (sec l)) b) b=if by_ (gb (ga (ti (le (sk l m b)) (gn (ti (le (sec l)) b))) (ti (le z) b))) 32=sfst l m b then 0 else 42:=by
 have e1:(sfst l m b ++ z).take 32=sfst l m b:=by rw[List.take_append_of_le_length (by rw[sfst_length];exact Nat.le_refl _),List.take_of_length_le (by rw[sfst_length];exact Nat.le_refl _)]
 have e2:(sfst l m b ++ z).drop 32=z:=by rw[List.drop_append_of_le_length (by rw[sfst_length];exact Nat.le_refl _),List.drop_of_length_le (by rw[sfst_length];exact Nat.le_refl _),List.nil_append]
 unfold vend
 rw[e1,e2,if_pos ((sc_zero hz).2 hl)]
 rfl
theorem vend_own{l m:List Nat}{b:G}(hb:Hp kbase b):vend (keyb l b) m (sfst l m b ++ ssnd l m b) (ti (le (sec l)) b) b=0:=by
 rw[vend_of (ssnd_length _ _ _) (by rw[ssnd_le];exact Nat.mod_lt _ Lq_pos),if_pos]
 have hl:ti lq b=gz:=lq_base (hp_qb hb)
 rw[ssnd_le,Lq_is,sign_own hl]
 rfl
theorem own_pc{w:World}{base:Nat}{v:Value}{n:Nat}{s:List Nat}(h:w.ownsRow base 5 1 v n (bl s))(h0:0 < n)(hn:s.length=n)(hs:∀x∈s,x < 256):∃g cap,v=.slice (some ⟨g,0,none⟩) n cap∧Pc w (some ⟨g,0,none⟩,n,cap,s)∧base≤g:=by
 obtain⟨g,cap,cur,rfl,hb,h1,h2,h3,h4⟩:=own_cur h h0
 refine⟨g,cap,rfl,⟨hn.symm,?_,hs,by show s.length≤cap;omega,fun h=>by cases h⟩,h4⟩
 refine Sl.of_bl hb 0 _ _ (by rw[bl_length]) (fun k v hv=>?_)
 change(bl s)[k]?=some v at hv
 rw[←h3,List.getElem?_take] at hv
 split at hv
 ·rw[Nat.zero_add];simpa using hv
 ·cases hv
theorem sign_p{A:Option Addr}{c:Nat}{l:List Nat}{M:Option Addr}{n cm:Nat}{m:List Nat}{b:G}{w:World}(tab:TabE w)(ts:Sh.Tab w)(tl:TabL w)(ha:Pc w (A,32,c,l))(hm:Pc w (M,n,cm,m))(hn:n≤65536)(hb:Hp kbase b) :
  Calls Tryz.prog 7 #[.slice A 32 c,.slice M n cm] w fun e w'=>∃g cap,e=.returned (.tuple #[.slice (some ⟨g,0,none⟩) 64 cap,.int .i64 0])∧Pc w' (some ⟨g,0,none⟩,64,cap,sfst l m b ++ ssnd l m b)∧w.heap.size≤g∧Below w.heap.size w w':=by
 refine(Sign_any tab ts tl ha hm hn hb).mono ?_
 rintro e w' ⟨v,rfl,ho,hw⟩
 have hl:(sfst l m b ++ ssnd l m b).length=64:=by rw[List.length_append,sfst_length,ssnd_length]
 rw[hl] at ho
 obtain⟨g,cap,rfl,hp,hg⟩:=own_pc ho (by decide) hl (by intro x hx;rcases List.mem_append.1 hx with h|h;exact by_lt _ _ x h;exact by_lt _ _ x h)
 exact⟨g,cap,rfl,hp,hg,hw⟩
theorem verify_own{A:Option Addr}{c:Nat}{l:List Nat}{M:Option Addr}{n cm:Nat}{m:List Nat}{S:Option Addr}{cs:Nat}{b:G}{w:World}(tab:TabE w)(ts:Sh.Tab w)(tl:TabL w)(ha:Pc w (A,32,c,keyb l b))(hm:Pc w (M,n,cm,m))(hs:Pc w (S,64,cs,sfst l m b ++ ssnd l m b))(hn:n≤65536)(hb:Hp kbase b) :
  Calls Tryz.prog 17 #[.slice A 32 c,.slice M n cm,.slice S 64 cs] w fun e w'=>e=.returned (.int .i64 0)∧Below w.heap.size w w':=by
 obtain⟨p,hp,hg⟩:=dec_of (ti (le (sec l)) b)
 have:=Verify_go tab ts tl ha hm hs hn hb hp hg
 rw[vend_own hb] at this
 exact this
end Go.Proofs.YtoibhnpmemnlfaaGreatDoor.Ed
namespace Go.Proofs.YtoibhnpmemnlfaaGreatDoor.Sh
open Go.RowKit Go.Proofs.YtoibhnpmemnlfaaGreatDoor.Gn Go.Deep
attribute [local go_sem ↓] Go.wp_at_zero Go.wp_at_succ
def nl(l:List Nat):List Value:=l.map fun(x:Nat)=>Value.int .u64 (x:Int)
end Go.Proofs.YtoibhnpmemnlfaaGreatDoor.Sh
namespace Go.Proofs.YtoibhnpmemnlfaaGreatDoor.Av
open Go.RowKit Go.Proofs.YtoibhnpmemnlfaaGreatDoor.Gn Go.Proofs.YtoibhnpmemnlfaaGreatDoor.Fd Go.Proofs.YtoibhnpmemnlfaaGreatDoor.Ed Go.Deep
theorem pc_of{O:Nat→Prop}{w:World}{l:List Nat}{u:Value}(h:(byt true l).rep O w u)(hl:∀x∈l,x < 256):∃A n c,u=.slice A n c∧n=l.length∧Pc w (A,n,c,l)∧n≤maxLen:=by
 obtain⟨A,n,c,rfl,s1,h3⟩:=row_sl h
 obtain⟨h4,h5,h6⟩:=h3 rfl
 have hn:l.length=n:=by have:=s1.1;simpa[bl] using this
 subst hn
 exact⟨A,_,c,rfl,rfl,⟨rfl,s1,hl,h4,h6⟩,h5⟩
theorem pc_rep{O:Nat→Prop}{w:World}{A:Option Addr}{n c:Nat}{l:List Nat}(h:Pc w (A,n,c,l))(hm:l.length≤maxLen)(hO:∀ad,A=some ad→¬O ad.block):(byt true l).rep O w (.slice A n c):=by
 have hn:n=l.length:=h.len
 subst hn
 refine⟨A,_,c,rfl,by simp[bl],fun _=>⟨h.cap,hm,h.nil⟩,reps_iff.2 fun j x hj=>?_⟩
 rw[List.getElem?_map] at hj
 cases hq:(bl l)[j]? with
 |none=>rw[hq] at hj;cases hj
 |some v =>
  rw[hq] at hj;cases hj
  obtain⟨ad,e,hc⟩:=h.row.2 j v hq
  exact⟨v,⟨ad,e,hO ad e,by rw[Nat.zero_add];exact hc⟩,rfl⟩
theorem fresh{O:Nat→Prop}{n g k:Nat}(hO:∀b,O b→b < n)(hg:n≤g):∀ad,some (⟨g,k,none⟩:Addr)=some ad→¬O ad.block:=fun ad e h=>by cases e;have:=hO g h;omega
theorem max64{n:Nat}(h:n≤1000):n≤maxLen:=by unfold maxLen;omega
theorem tup2{O:Nat→Prop}{w:World}{x y:DV}{u v:Value}(h:x.rep O w u)(k:y.rep O w v):(DV.tup [x,y]).rep O w (.tuple #[u,v]):=⟨_,rfl,rfl,⟨_,rfl,h⟩,⟨_,rfl,k⟩,trivial⟩
theorem g_key{l:List Nat}{b:G}(h32:l.length=32)(hl:∀x∈l,x < 256)(hb:Hp kbase b)(w:World)(tab:TabE w)(ts:Sh.Tab w):FnAt Tryz.prog [] w 6 [byt true l] (.tup [byt true (keyb l b),.lit (.int .i64 0)]) :=
 ⟨fun _ _=>by kernel_rfl,fun O vs hO hk hln hr=>by
  obtain⟨u,rfl,h1⟩:=one_arg hln hr
  obtain⟨A,n,c,rfl,hn,hp,-⟩:=pc_of h1 hl
  rw[h32] at hn;subst hn
  have hr2:Sl w A 32 (bl l):=by have:Sl w A l.length (bl l):=hp.row;rwa [h32] at this
  exact(Key_any A c l b w tab ts hl h32 hr2 (Sh.Sl_block hr2 (by decide)) (by have:l.length≤c:=hp.cap;omega) hb).mono fun e w' ⟨g,h3,h4,h5,h6⟩=>⟨_,h3,tup2 (pc_rep (pc_bl (by_length _ _) (by_lt _ _) h5) (by rw[keyb_length];exact max64 (by decide)) (fresh hO h4)) rfl,h6⟩⟩
theorem g_sign{l m:List Nat}{b:G}(h32:l.length=32)(hl:∀x∈l,x < 256)(hm:∀x∈m,x < 256)(hn:m.length≤65536)(hb:Hp kbase b)(w:World)(tab:TabE w)(ts:Sh.Tab w)(tl:TabL w):FnAt Tryz.prog [] w 7 [byt true l,byt true m] (.tup [byt true (sfst l m b ++ ssnd l m b),.lit (.int .i64 0)]) :=
 ⟨fun _ _=>by kernel_rfl,fun O vs hO hk hln hr=>by
  obtain⟨u,v,rfl,h1,h2⟩:=two_args hln hr
  obtain⟨A,n,c,rfl,hn1,hp,-⟩:=pc_of h1 hl
  obtain⟨M,k,d,rfl,hk1,hq,-⟩:=pc_of h2 hm
  rw[h32] at hn1;subst hn1
  exact(sign_p tab ts tl hp hq (by omega) hb).mono fun e w' ⟨g,cap,h3,h4,h5,h6⟩=>⟨_,h3,tup2 (pc_rep h4 (by rw[List.length_append,sfst_length,ssnd_length];exact max64 (by decide)) (fresh hO h5)) rfl,h6⟩⟩
theorem o_quo8(w:World)(b:Nat)(h:b < 256):(binOp .quo 5 (.int .u8 (b:Int)) (.int .u8 8)).run Tryz.prog w=.ok (.int .u8 ((b / 8:Nat):Int)) w:=by
 go_simp
 try simp[Int.tdiv_eq_ediv_of_nonneg]
 rw[IntKind.wrap_u8];omega
theorem o_mul8(w:World)(b:Nat)(h:b < 256):(binOp .mul 5 (.int .u8 ((b / 8:Nat):Int)) (.int .u8 8)).run Tryz.prog w=.ok (.int .u8 ((b / 8*8:Nat):Int)) w:=by
 go_simp
 rw[IntKind.wrap_u8];omega
theorem o_rem64(w:World)(b:Nat)(h:b < 256):(binOp .rem 5 (.int .u8 (b:Int)) (.int .u8 64)).run Tryz.prog w=.ok (.int .u8 ((b%64:Nat):Int)) w:=by
 go_simp
 try simp[Int.tmod_eq_emod_of_nonneg]
theorem o_add64(w:World)(b:Nat)(h:b < 256):(binOp .add 5 (.int .u8 ((b%64:Nat):Int)) (.int .u8 64)).run Tryz.prog w=.ok (.int .u8 ((b%64+64:Nat):Int)) w:=by
 go_simp
 rw[IntKind.wrap_u8];omega
end Go.Proofs.YtoibhnpmemnlfaaGreatDoor.Av
