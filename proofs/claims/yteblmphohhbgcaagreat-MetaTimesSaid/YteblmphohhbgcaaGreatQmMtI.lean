/- Joined texts. -/
import Derived.Test.YteblmphohhbgcaaGreatQmMtC
import Derived.WalkKit
import Derived.WalkSpells
import Derived.WalkLawsBesides
import Derived.Lib.Hide
import Derived.ProofKit
import Derived.OpenShut
import Derived.Deep.Slices
import Derived.Deep.RegionWith
import Derived.Deep.Draws
import Derived.Laws.AppendOwnNone
import Derived.Laws.BytesArg
import Derived.Test.YteblmphohhbgcaaGreatQmWrNext
import Derived.Test.YteblmphohhbgcaaGreatProg
import Derived.Lib.ConvBytes
import Derived.Lib.SmallJoins
import Derived.Test.YteblmphohhbgcaaGreatQmWrDeepB
import Derived.Maps.AppendAt
set_option linter.unusedVariables false
namespace Go.Proofs.YteblmphohhbgcaaGreat.Mt
open Go.RowKit Go.Proofs.YteblmphohhbgcaaGreat.Gn Go.Proofs.YteblmphohhbgcaaGreat.Fd Go.Proofs.YteblmphohhbgcaaGreat.Wr Go.Deep
set_option maxHeartbeats 4000000 in
theorem snapshot_p{w:World}{g q:Nat}{wr wh:Bool}{ks:List Tv}{bb:Nat}{t:TypeId}{cs:Array Value}(h:Ps w g q wr wh ks bb t cs)(hs:5≤cs.size){P Q L:Tv × Bool × List Tv}(hP:nxt (FI 1 4611686018427387904) 1 wh ks=P)(hQ:nxt (FI 0 4611686018427387904) 1 P.2.1 P.2.2=Q)(hL:nxt (FL 0 9223372036854775807) 3 Q.2.1 Q.2.2=L):Calls Tryz.prog 48 #[.pointer (some ⟨g,0,none⟩),.pointer (some ⟨bb,0,none⟩)] w fun e w'=>e=.returned (.tuple #[])∧∃us X Y Z A c,(nds us=nds (kids L.1)∧∃u,∀t∈us,Ok u t)∧nxt (FI 1 4611686018427387904) 1 true us=X∧nxt (FI 0 4611686018427387904) 1 X.2.1 X.2.2=Y∧nxt (FB 32 32) 2 Y.2.1 Y.2.2=Z∧Ps w' g q (wr || !(Z.2.1 && decide (Z.2.2.length=0))) L.2.1 L.2.2 bb t (tcs cs P Q X Y Z A c)∧Pc w' (A,(rw_ Z.1).2.1,c,(rw_ Z.1).2.2.2)∧Tc (fun k=>k=q∨k=bb∨k=g) w w':=by
 have BW:∀n,Below w.heap.size w (w.drewN n):=fun n=>below_drewN (Below.refl _ w) n
 have CH:=Lib.hid (fun n=>head_p (h.below (BW n)) (Array.getElem?_eq_getElem (show 0 < cs.size by omega)) (Array.getElem?_eq_getElem (show 1 < cs.size by omega)) hP hQ)
 have HS:=Lib.hid hs
 have HW:=Lib.hid BW
 clear h hs hP hQ BW
 go_enter Tryz.func48,Tryz.ntmps48
 go_wp2_with fail
 go_region_with (go_at_call 69;(refine(CH.out _).mono ?_);rintro e w1 ⟨rfl,hp,ht⟩;have T1:=Lib.hid ((Tc.below (S:=fun k=>k=q∨k=bb) (HW.out _)).trans ht);have CI:=Lib.hid (inner_p hp (show 5≤((cs.setIfInBounds 0 (.int .i64 (nm P.1:Int))).setIfInBounds 1 (.int .i64 (nm Q.1:Int))).size from sz2 (n:=4) HS.out (by decide)) hL);clear hp ht)
 all_goals go_wp2_with (go_at_call 81;(refine CI.out.mono ?_);rintro e w2 ⟨rfl,us,X,Y,Z,A,c,h1,h2,h3,h4,h5,h6,h7⟩;have I2:=Lib.hid (And.intro h1 (And.intro h2 (And.intro h3 (And.intro h4 (And.intro h5 (And.intro h6 h7))))));clear h1 h2 h3 h4 h5 h6 h7)
 all_goals(
  first|go_end0|refine bodyPost_ret (results_none rfl _ _ _) rfl ?_
  obtain⟨h1,h2,h3,h4,h5,h6,h7⟩:=I2.out
  exact⟨rfl,us,X,Y,Z,A,c,h1,h2,h3,h4,h5,h6,(T1.out.mono (fun k _ e=>by
   rcases e with e|e
   ·exact .inl e
   ·exact .inr (.inl e))).trans h7⟩)
abbrev gcs(cs:Array Value)(P Q X Y Z:Tv × Bool × List Tv)(A:Option Addr)(c:Nat):Array Value:=rc ((cs.setIfInBounds 0 (.int .i64 (nm P.1:Int))).setIfInBounds 1 (.int .i64 (nm Q.1:Int))) X Y Z A c
set_option maxHeartbeats 4000000 in
theorem targets_p{w:World}{g q:Nat}{wr wh:Bool}{ks:List Tv}{bb:Nat}{t:TypeId}{cs:Array Value}(h:Ps w g q wr wh ks bb t cs)(hs:5≤cs.size){P Q X Y Z:Tv × Bool × List Tv}(hP:nxt (FI 1 4611686018427387904) 1 wh ks=P)(hQ:nxt (FI 0 4611686018427387904) 1 P.2.1 P.2.2=Q)(hX:nxt (FI 1 131072) 1 Q.2.1 Q.2.2=X)(hY:nxt (FI 64 1024) 1 X.2.1 X.2.2=Y)(hZ:nxt (FB 32 32) 2 Y.2.1 Y.2.2=Z):Calls Tryz.prog 57 #[.pointer (some ⟨g,0,none⟩),.pointer (some ⟨bb,0,none⟩)] w fun e w'=>e=.returned (.tuple #[])∧∃A c,Ps w' g q wr Z.2.1 Z.2.2 bb t (gcs cs P Q X Y Z A c)∧Pc w' (A,(rw_ Z.1).2.1,c,(rw_ Z.1).2.2.2)∧Tq q bb w w':=by
 have BW:∀n,Below w.heap.size w (w.drewN n):=fun n=>below_drewN (Below.refl _ w) n
 have CH:=Lib.hid (fun n=>head_p (h.below (BW n)) (Array.getElem?_eq_getElem (show 0 < cs.size by omega)) (Array.getElem?_eq_getElem (show 1 < cs.size by omega)) hP hQ)
 have HS:=Lib.hid hs
 have HW:=Lib.hid BW
 clear h hs hP hQ BW
 go_enter Tryz.func57,Tryz.ntmps57
 go_wp2_with fail
 go_region_with (go_at_call 69;(refine(CH.out _).mono ?_);rintro e w1 ⟨rfl,hp,ht⟩;have T1:=Lib.hid ((Tc.below (S:=fun k=>k=q∨k=bb) (HW.out _)).trans ht);have CX:=Lib.hid (number_p hp (Array.getElem?_eq_getElem (show 2 < ((cs.setIfInBounds 0 (.int .i64 (nm P.1:Int))).setIfInBounds 1 (.int .i64 (nm Q.1:Int))).size from sz2 HS.out (by decide))) 1 131072);rw[hX] at CX;clear hp ht)
 all_goals go_wp2_with (go_at_call 84;(refine CX.out.mono ?_);rintro e w2 ⟨rfl,hp,ht⟩;have T2:=Lib.hid ht;have CY:=Lib.hid (number_p hp (Array.getElem?_eq_getElem (show 3 < (((cs.setIfInBounds 0 (.int .i64 (nm P.1:Int))).setIfInBounds 1 (.int .i64 (nm Q.1:Int))).setIfInBounds 2 (.int .i64 (nm X.1:Int))).size from sz1 (sz2 (n:=4) HS.out (by decide)) (by decide))) 64 1024);rw[hY] at CY;clear hp ht CX)
 all_goals go_wp2_with (go_at_call 84;(refine CY.out.mono ?_);rintro e w3 ⟨rfl,hp,ht⟩;have T3:=Lib.hid ht;have CZ:=Lib.hid (bytes_p hp (Array.getElem?_eq_getElem (show 4 < ((((cs.setIfInBounds 0 (.int .i64 (nm P.1:Int))).setIfInBounds 1 (.int .i64 (nm Q.1:Int))).setIfInBounds 2 (.int .i64 (nm X.1:Int))).setIfInBounds 3 (.int .i64 (nm Y.1:Int))).size from sz2 (sz2 (n:=4) HS.out (by decide)) (by decide))) 32 32);rw[hZ] at CZ;clear hp ht CY)
 all_goals go_wp2_with (go_at_call 85;(refine CZ.out.mono ?_);rintro e w4 ⟨rfl,A,c,hp,hc,ht⟩;have P4:=Lib.hid hp;have C4:=Lib.hid hc;have T4:=Lib.hid ht;clear hp hc ht)
 all_goals(
  first|go_end0|refine bodyPost_ret (results_none rfl _ _ _) rfl ?_
  exact⟨rfl,A,c,P4.out,C4.out,((T1.out.trans T2.out).trans T3.out).trans T4.out⟩)
end Go.Proofs.YteblmphohhbgcaaGreat.Mt
namespace Go.Proofs.YteblmphohhbgcaaGreat.Mt
open Go.RowKit Go.Proofs.YteblmphohhbgcaaGreat.Gn Go.Proofs.YteblmphohhbgcaaGreat.Fd Go.Proofs.YteblmphohhbgcaaGreat.Wr Go.Deep
def knd:Nd→Int
 |.mk k _ _ _=>k
def nmd:Nd→Nat
 |.mk _ n _ _=>n
def bsd:Nd→List Nat
 |.mk _ _ l _=>l
def ksd:Nd→List Nd
 |.mk _ _ _ us=>us
theorem kd_nd(t:Tv):kd t=knd (nd t):=by obtain⟨k,n,r,A,c,us⟩:=t;rw[Wr.nd];rfl
theorem nm_nd(t:Tv):nm t=nmd (nd t):=by obtain⟨k,n,r,A,c,us⟩:=t;rw[Wr.nd];rfl
theorem bs_nd(t:Tv):(rw_ t).2.2.2=bsd (nd t):=by obtain⟨k,n,r,A,c,us⟩:=t;rw[Wr.nd];rfl
theorem ks_nd(t:Tv):nds (kids t)=ksd (nd t):=by obtain⟨k,n,r,A,c,us⟩:=t;rw[Wr.nd];rfl
theorem bl_nd{w:World}{t:Tv}(h:Ok w t):(rw_ t).2.1=(bsd (nd t)).length:=by
 cases h with
 |mk hn hr hs hm hc h0 hk=>rw[Wr.nd];exact hr.len
def nx(F:Nd→Bool)(k:Int)(wh:Bool):List Nd→Nd × Bool × List Nd
 | []=>(.mk 0 0 [] [],false,[])
 |t :: ts=>if knd t=k then(if F t=true then(t,wh,ts) else(.mk 0 0 [] [],false,[])) else(.mk 0 0 [] [],false,[])
def dI(a b:Int)(t:Nd):Bool:=isI (nmd t) && inB (nmd t:Int) a b
def dB(a b:Int)(t:Nd):Bool:=inB ((bsd t).length:Int) a b
def dL(a b:Int)(t:Nd):Bool:=inB ((ksd t).length:Int) a b
theorem fi_nd(a b:Int)(t:Tv):FI a b t=dI a b (nd t):=by unfold FI dI;rw[nm_nd]
theorem fb_nd{w:World}(a b:Int){t:Tv}(h:Ok w t):FB a b t=dB a b (nd t):=by unfold FB dB;rw[bl_nd h]
theorem fl_nd(a b:Int)(t:Tv):FL a b t=dL a b (nd t):=by unfold FL dL;rw[←ks_nd,nds_map,List.length_map]
theorem nd_tv0:nd tv0=.mk 0 0 [] []:=by unfold tv0;rw[Wr.nd,nds]
theorem nxt_nx{F:Tv→Bool}{G:Nd→Bool}{k:Int}{wh:Bool}{ks:List Tv}(h:∀t∈ks,F t=G (nd t)):nd (nxt F k wh ks).1=(nx G k wh (nds ks)).1∧(nxt F k wh ks).2.1=(nx G k wh (nds ks)).2.1∧nds (nxt F k wh ks).2.2=(nx G k wh (nds ks)).2.2:=by
 cases ks with
 |nil=>rw[nxt,nds,nx];exact⟨nd_tv0,rfl,by show nds []=[];rw[nds]⟩
 |cons t ts =>
  rw[nxt,nds,nx,←kd_nd,←h t List.mem_cons_self]
  split
  ·split
   ·exact⟨rfl,rfl,rfl⟩
   ·exact⟨nd_tv0,rfl,by show nds []=[];rw[nds]⟩
  ·exact⟨nd_tv0,rfl,by show nds []=[];rw[nds]⟩
end Go.Proofs.YteblmphohhbgcaaGreat.Mt
namespace Go.Proofs.YteblmphohhbgcaaGreat.Mt
open Go.RowKit Go.Proofs.YteblmphohhbgcaaGreat.Gn Go.Proofs.YteblmphohhbgcaaGreat.Fd Go.Proofs.YteblmphohhbgcaaGreat.Wr Go.Deep
theorem rz_fl{w:World}{g:Nat}(h:Rz w g):Fl w g false [] :=
 ⟨⟨none,0,h,⟨rfl,fun k v hv=>by cases hv⟩,fun _=>rfl,Nat.le_refl _,fun ad e=>by cases e⟩,fun t ht=>(List.not_mem_nil ht).elim,by rw[liess];trivial⟩
theorem open_v{w0:World}{t:Tv}(hv:Ok w0 t)(hz:sz t≤1000000)(w:World)(hu:Below w0.heap.size w0 w):Calls Tryz.prog 80 #[t.val] w fun e w'=>∃q us,e=.returned (.pointer (some ⟨q,0,none⟩))∧Fl w' q (decide (kd t=3)) us∧nds us=(if kd t=3 then ksd (Wr.nd t) else[])∧w.heap.size≤q∧q < w'.heap.size∧Below w.heap.size w w':=by
 obtain⟨k,n,r,A,c,ks⟩:=t
 by_cases hk:k=3
 ·subst hk
  refine(Open_list hv hz w hu).mono ?_
  rintro e w' ⟨q,us,rfl,h1,h2,h3,h4,h5⟩
  refine⟨q,us,rfl,h2,?_,h3,h4,h5⟩
  rw[if_pos (show kd (.mk 3 n r A c ks)=3 from rfl),Wr.nd];exact h1
 ·refine(Open_no k hk n r A ks.length c w).mono ?_
  rintro e w' ⟨q,rfl,h1,h2,h3⟩
  have e1:¬kd (.mk k n r A c ks)=3:=hk
  refine⟨q,[],rfl,?_,?_,h2,h1.lt,h3⟩
  ·rw[decide_eq_false e1];exact rz_fl h1
  ·rw[if_neg e1,nds]
end Go.Proofs.YteblmphohhbgcaaGreat.Mt
namespace Go.Proofs.YteblmphohhbgcaaGreat.Sc
open Go.RowKit
set_option maxRecDepth 100000
def txt(l:List Nat):ByteArray:=⟨(l.map fun x=>UInt8.ofNat x).toArray⟩
end Go.Proofs.YteblmphohhbgcaaGreat.Sc
namespace Go.Proofs.YteblmphohhbgcaaGreat.Wr
open Go.RowKit Go.Proofs.YteblmphohhbgcaaGreat.Gn Go.Proofs.YteblmphohhbgcaaGreat.Fd Go.Deep
set_option maxRecDepth 100000
set_option maxHeartbeats 4000000 in
theorem RNum_any(n:Nat)(w:World)(hn:n < 18446744073709551616):Calls Tryz.prog 74 #[.int .u64 (n:Int)] w (MkQ (.mk 1 n (none,0,0,[]) none 0 []) w):=by
 have H9:=Lib.hid hn
 clear hn
 have B0:=Lib.hid (below_one w (.cells #[.int .i64 1,.int .u64 (n:Int),.slice none 0 0,.slice none 0 0] 75))
 have NW:=Lib.hid (Bl.new_ w 75 #[.int .i64 1,.int .u64 (n:Int),.slice none 0 0,.slice none 0 0])
 go_enter Tryz.func74,Tryz.ntmps74
 go_wp2_with fail
 exact⟨rfl,_,results_c rfl _ _ _ ⟨w.heap.size,0,none⟩ _ (by kernel_rfl) (run_loadVar_row _ w.heap.size 75 75 #[.int .i64 1,.int .u64 (n:Int),.slice none 0 0,.slice none 0 0] (0,0) _ (NW.out) Tryz.underlying75 rfl size34),rfl,ok_leaf H9.out (nil_pc _),B0.out⟩
set_option maxHeartbeats 4000000 in
theorem RBytes_any{r:Rw}(w:World)(hr:Pc w r):Calls Tryz.prog 36 #[.slice r.1 r.2.1 r.2.2.1] w (MkQ (.mk 2 0 r none 0 []) w):=by
 have HR:=Lib.hid hr
 clear hr
 have B0:=Lib.hid (below_one w (.cells #[.int .i64 2,.int .u64 0,.slice r.1 r.2.1 r.2.2.1,.slice none 0 0] 75))
 have NW:=Lib.hid (Bl.new_ w 75 #[.int .i64 2,.int .u64 0,.slice r.1 r.2.1 r.2.2.1,.slice none 0 0])
 go_enter Tryz.func36,Tryz.ntmps36
 go_wp2_with fail
 exact⟨rfl,_,results_c rfl _ _ _ ⟨w.heap.size,0,none⟩ _ (by kernel_rfl) (run_loadVar_row _ w.heap.size 75 75 #[.int .i64 2,.int .u64 0,.slice r.1 r.2.1 r.2.2.1,.slice none 0 0] (0,0) _ (NW.out) Tryz.underlying75 rfl size34),rfl,ok_leaf (by decide) (HR.out.below B0.out),B0.out⟩
set_option maxHeartbeats 4000000 in
theorem RList_any{A:Option Addr}{c:Nat}{ks:List Tv}(w:World)(hs:Sl w A (4*ks.length) (flat ks))(hc:ks.length≤c)(h0:A=none→c=0)(hk:∀t∈ks,Ok w t)(hm:ks.length≤1000000):Calls Tryz.prog 37 #[.slice A ks.length c] w (MkQ (.mk 3 0 (none,0,0,[]) A c ks) w):=by
 obtain⟨m,hm'⟩:∃m,ks.length=m:=⟨_,rfl⟩
 have HM:=Lib.hid hm'
 have HS:=Lib.hid hs
 have HC:=Lib.hid hc
 have H0:=Lib.hid h0
 have HK:=Lib.hid hk
 have HM9:=Lib.hid hm
 rw[hm']
 clear hs hc h0 hk hm hm'
 have B0:=Lib.hid (below_one w (.cells #[.int .i64 3,.int .u64 0,.slice none 0 0,.slice A m c] 75))
 have NW:=Lib.hid (Bl.new_ w 75 #[.int .i64 3,.int .u64 0,.slice none 0 0,.slice A m c])
 go_enter Tryz.func37,Tryz.ntmps37
 go_wp2_with fail
 exact⟨rfl,_,results_c rfl _ _ _ ⟨w.heap.size,0,none⟩ _ (by kernel_rfl) (run_loadVar_row _ w.heap.size 75 75 #[.int .i64 3,.int .u64 0,.slice none 0 0,.slice A m c] (0,0) _ (NW.out) Tryz.underlying75 rfl size34),by rw[Tv.val,Tv.row,HM.out];rfl,.mk (by decide) (nil_pc _) (HS.out.below B0.out) HM9.out HC.out H0.out (fun t ht=>(HK.out t ht).keep B0.out),B0.out⟩
theorem results_c2{fn:Func}{a b:Tmp}{t:TypeId}(h:fn.results = #[.cell a t,.tmp b])(tmps:Array Value)(P:Program)(w:World)(ad:Addr)(v u:Value)(ha:tmps.getD a undef=.pointer (some ad))(hb:tmps.getD b undef=u)(hl:(loadVar t ad).run P w=.ok v w) :
  (results fn tmps).run P w=.ok (.tuple #[v,u]) w:=by
 have ha':tmps[a]?.getD undef=.pointer (some ad):=by simpa using ha
 have hb':tmps[b]?.getD undef=u:=by simpa using hb
 simp[results,h,ha',hb',hl,asAddr]
end Go.Proofs.YteblmphohhbgcaaGreat.Wr
namespace Go.Proofs.YteblmphohhbgcaaGreat.Mt
open Go.RowKit Go.Proofs.YteblmphohhbgcaaGreat.Gn Go.Proofs.YteblmphohhbgcaaGreat.Fd Go.Proofs.YteblmphohhbgcaaGreat.Wr Go.Deep
structure Pw (w:World) (lo g:Nat) (wr:Bool) (K:Nat) (ks:List Tv) (T:Value):Prop where
 bl:Bl w g 116 #[.pointer none,T,.bool wr]
 own:w.ownsRow lo 75 4 T ks.length (flat ks)
 ok:∀t∈ks,Ok w t
 aw:liess (fun k=>k≠g∧T.ownBlock≠some k) ks
 low:lo≤g
 sz:szs ks≤K
 up:liess (fun k=>lo≤k) ks
theorem Pw.below{w w':World}{lo g:Nat}{wr:Bool}{K:Nat}{ks:List Tv}{T:Value}(h:Pw w lo g wr K ks T)(hb:Below w.heap.size w w'):Pw w' lo g wr K ks T :=
 ⟨h.bl.below' hb,own_belowg h.own hb,fun t ht=>(h.ok t ht).keep hb,h.aw,h.low,h.sz,h.up⟩
theorem Pw.tb{w:World}{lo g:Nat}{wr:Bool}{K:Nat}{ks:List Tv}{T:Value}(h:Pw w lo g wr K ks T):T.ownBlock≠some g:=own_ne h.own h.bl (by decide)
theorem szs_app(a b:List Tv):szs (a ++ b)=szs a+szs b:=by
 induction a with
 |nil=>simp[szs]
 |cons t a ih=>rw[List.cons_append,szs,szs,ih];omega
theorem Pw.flag{w:World}{lo g:Nat}{wr:Bool}{K:Nat}{ks:List Tv}{T:Value}(h:Pw w lo g wr K ks T){w':World}{wr':Bool}(hb:Bl w' g 116 #[.pointer none,T,.bool wr'])(hg:w.grownBy w' (some g)):Pw w' lo g wr' K ks T∧Fr w w' g T T∧Below lo w w':=by
 have hlt:=h.bl.lt
 refine⟨⟨hb,h.own.kept hg (.inr h.tb),fun t ht=>(h.ok t ht).kept (liess_mem.1 h.aw t ht) (fun k hk hlt2=>hg.block k hlt2 (fun e=>hk.1 (Option.some.inj e))),h.aw,h.low,h.sz,h.up⟩,⟨hg.size,fun k hk hq hT=>hg.block k hk (fun e=>hq (Option.some.inj e)),fun k e=>.inl e⟩,?_⟩
 exact⟨hg.os,hg.tape,hg.output,hg.size,fun k hk=>hg.block k (by have:=h.low;omega) (fun e=>by have h1:k=g:=Option.some.inj e;have:=h.low;omega)⟩
end Go.Proofs.YteblmphohhbgcaaGreat.Mt
namespace Go.Proofs.YteblmphohhbgcaaGreat.Mt
open Go.RowKit Go.Proofs.YteblmphohhbgcaaGreat.Gn Go.Proofs.YteblmphohhbgcaaGreat.Fd Go.Proofs.YteblmphohhbgcaaGreat.Wr Go.Deep
theorem bl_ne{w:World}{a b:Nat}{s t:TypeId}{cs ds:Array Value}(h:Bl w a s cs)(k:Bl w b t ds)(hst:s≠t):a≠b:=fun e=>by
 subst e
 unfold Bl at h k
 rw[h] at k
 injection k with k
 injection k with k1 k2
 exact hst k2
def nz:List Value:=[.int .i64 0,.int .u64 0,.slice none 0 0,.slice none 0 0]
def rowv:Value→List Value
 |.agg cs=>cs.toList
 |_=>[]
theorem rowv_val(t:Tv):rowv t.val=t.row:=by cases t;rfl
theorem row_len(t:Tv):t.row.length=4:=by cases t;rfl
theorem one_at{w:World}{base n m:Nat}{e:TypeId}{v:Value}{xs:List Value}(h:w.ownsRow base e 4 v (n+1) xs):∃q cap cur,v=.slice (some ⟨q,0,none⟩) (n+1) cap∧base≤q∧Bl w q e cur∧n+1≤cap∧cap≤maxLen∧cur.size=cap*4∧cur.toList.take ((n+1)*4)=xs:=by
 obtain⟨h1,⟨-, h2⟩|⟨q,cap,cur,h2,h3,h4,h5,h6,h7,h8⟩⟩:=h
 ·omega
 ·exact⟨q,cap,cur,h2,h3,h4,h5,h6,h7,h8⟩
structure PJ (P:Tv→Prop) (w:World) (lo g:Nat) (wr:Bool) (K:Nat) (ks:List Tv) (T:Value) (c b a x s f:Bool) (vC vB vA vX:Value) (W:World):Prop where
 st:Pw w lo g wr K ks T
 fr:Fr w W g T (if a=true then vA else T)
 low:Below lo w W
 bl:Bl W g 116 #[.pointer none,if f=true then vA else T,.bool wr]
 ok:∀t∈ks,Ok W t
 call:c=true→∃t,P t∧vC=t.val∧Ok W t∧lies (fun k=>w.heap.size≤k∧(a=true→vA.ownBlock≠some k)) t
 zero:b=true→a=false→∃z,vB=.slice (some ⟨z,0,none⟩) 1 1∧w.heap.size≤z∧Bl W z 75 nz.toArray
 row:a=false→W.ownsRow lo 75 4 T ks.length (flat ks)
 app:a=true→W.ownsRow lo 75 4 vA (ks.length+1) (flat ks ++ if s=true then rowv vC else nz)∧(∀k,vA.ownBlock=some k→T.ownBlock=some k∨w.heap.size≤k)
 idx:x=true→∃q cap,vA=.slice (some ⟨q,0,none⟩) (ks.length+1) cap∧vX=.pointer (some ⟨q,ks.length*4,none⟩)
 ab:a=true→b=true
 xa:x=true→a=true
 sx:s=true→x=true
 sc:s=true→c=true
 fa:f=true→a=true
section
variable {P:Tv→Prop} {w:World} {lo g:Nat} {wr:Bool} {K:Nat} {ks:List Tv} {T:Value} {c b a x s f:Bool} {vC vB vA vX:Value} {W W':World}
theorem no{p q:Bool}(h:p=true→q=true)(hq:q=false):p=false:=by
 cases p with
 |false=>rfl
 |true=>rw[h rfl] at hq;cases hq
theorem PJ.start(h:Pw w lo g wr K ks T)(hb:Below w.heap.size w W):PJ P w lo g wr K ks T false false false false false false vC vB vA vX W:=by
 have h2:=h.below hb
 exact⟨h,Fr.of g T hb,hb.mono (by have:=h.low;have:=h.bl.lt;omega),h2.bl,h2.ok,(fun e=>by cases e),(fun e=>by cases e),fun _=>h2.own,(fun e=>by cases e),(fun e=>by cases e),(fun e=>by cases e),(fun e=>by cases e),(fun e=>by cases e),(fun e=>by cases e),(fun e=>by cases e)⟩
theorem PJ.keep(h:PJ P w lo g wr K ks T c b a x s f vC vB vA vX W)(hb:Below W.heap.size W W'):PJ P w lo g wr K ks T c b a x s f vC vB vA vX W':=by
 have hl:=h.st.low
 have hlt:=h.st.bl.lt
 refine⟨h.st,h.fr.below (hb.mono h.fr.size) hb.size,h.low.trans (hb.mono (by have:=h.fr.size;omega)),h.bl.below' hb,fun t ht=>(h.ok t ht).keep hb,fun e=>?_,fun e1 e2=>?_,fun e=>own_belowg (h.row e) hb,fun e=>⟨own_belowg (h.app e).1 hb,(h.app e).2⟩,h.idx,h.ab,h.xa,h.sx,h.sc,h.fa⟩
 ·obtain⟨t,h1,h2,h3,h4⟩:=h.call e
  exact⟨t,h1,h2,h3.keep hb,h4⟩
 ·obtain⟨z,h1,h2,h3⟩:=h.zero e1 e2
  exact⟨z,h1,h2,h3.below' hb⟩
theorem PJ.called(h:PJ P w lo g wr K ks T false b a x s f vC vB vA vX W)(hb:Below W.heap.size W W'){t:Tv}(hP:P t)(hok:Ok W' t)(hl:lies (fun k=>W.heap.size≤k) t):PJ P w lo g wr K ks T true b a x s f t.val vB vA vX W':=by
 have e:=no h.sc rfl
 subst e
 have k:=h.keep hb
 have hs:=h.fr.size
 refine⟨k.st,k.fr,k.low,k.bl,k.ok,fun _=>⟨t,hP,rfl,hok,lies.mono (fun j hj=>⟨by omega,fun ha e=>?_⟩) hl⟩,k.zero,k.row,k.app,k.idx,k.ab,k.xa,k.sx,fun _=>rfl,k.fa⟩
 have:=own_ltg (h.app ha).1 j e
 omega
theorem PJ.built(h:PJ P w lo g wr K ks T c false a x s f vC vB vA vX W):PJ P w lo g wr K ks T c true a x s f vC (.slice (some ⟨W.heap.size,0,none⟩) 1 1) vA vX (W.alloc nod0):=by
 have k:=h.keep (below_one W nod0)
 exact⟨k.st,k.fr,k.low,k.bl,k.ok,k.call,fun _ _=>⟨W.heap.size,rfl,h.fr.size,Bl.new_ W _ _⟩,k.row,k.app,k.idx,fun _=>rfl,k.xa,k.sx,k.sc,k.fa⟩
theorem nz_one:∀u∈nz,u.oneCell'=true:=by
 intro u hu
 simp only[nz,List.mem_cons,List.not_mem_nil,or_false] at hu
 rcases hu with rfl|rfl|rfl|rfl <;> rfl
theorem old_ok(h:Pw w lo g wr K ks T){u v:World}(hu:∀t∈ks,Ok u t)(hk:∀k,(k≠g∧T.ownBlock≠some k)∧k < w.heap.size→k < u.heap.size→v.heap[k]?=u.heap[k]?):∀t∈ks,Ok v t :=
 fun t ht=>(hu t ht).kept (liess_mem.1 (liess.lt h.ok h.aw) t ht) hk
theorem PJ.appended(h:PJ P w lo g wr K ks T c true false x s f vC vB vA vX W)(hn:ks.length≤1000000):∃z v' w',vB=.slice (some ⟨z,0,none⟩) 1 1∧(Builtin.append_ #[72,72] 72 #[T,.slice (some ⟨z,0,none⟩) 1 1]).run Tryz.prog W=.ok v' w'∧PJ P w lo g wr K ks T c true true x s f vC vB v' vX w':=by
 obtain⟨i0,hi,hz0,hz1,hz2⟩:=info_parts infoN
 obtain⟨z,e1,hz,bz⟩:=h.zero rfl rfl
 have ex:=no h.xa rfl
 have es:=no h.sx ex
 have ef:=no h.fa rfl
 subst ex es ef
 have hl:=h.st.low
 have hlt:=h.st.bl.lt
 have hs:=h.fr.size
 obtain⟨v',w',hr,h1,h2,-, h4⟩:=run_append_own_at (P:=Tryz.prog) W lo 72 72 75 i0 (.agg nz.toArray) 4 64 Tryz.underlying72 hi hz0 hz1 hz2 rfl (by decide) T ks.length (flat ks) (h.row rfl) ⟨z,0,none⟩ 1 1 nz rfl (fun j u hj=>by rw[add_at];exact bz.cell_ (by rwa [←Array.getElem?_toList] at *)) nz_one (by unfold maxLen;omega) (by omega) (by omega)
 have tl:=own_ltg h.st.own
 have tb:=h.st.tb
 have h2s:=h2.size
 have hat:∀k,v'.ownBlock=some k→T.ownBlock=some k∨W.heap.size≤k:=fun k e=>by
  rcases h4 with e1|e1
  ·exact .inl (e1▸e)
  ·rw[e1] at e;cases e;exact .inr (Nat.le_refl _)
 refine⟨z,v',w',e1,hr,h.st,⟨by omega,fun k hk hq hT=>(h2.block k (by omega) (fun e=>hT e.symm)).trans (h.fr.keep k hk hq hT),fun k e=>?_⟩,?_,h.bl.grown h2 (fun e=>tb e),?_,fun ec=>?_,(fun _ e=>by cases e),(fun e=>by cases e),fun _=>⟨h1,fun k e=>?_⟩,(fun e=>by cases e),fun _=>rfl,fun _=>rfl,h.sx,h.sc,fun _=>rfl⟩
 ·rcases hat k e with e1|e1
  ·exact .inl e1
  ·exact .inr (by omega)
 ·exact⟨h2.os.trans h.low.os,h2.tape.trans h.low.tape,h2.output.trans h.low.output,by have:=h.low.size;omega,fun k hk=>(h2.block k (by omega) (fun e=>by have:=tl k e.symm;omega)).trans (h.low.block k hk)⟩
 ·exact old_ok h.st h.ok (fun k hk hlt2=>h2.block k hlt2 (fun e=>hk.1.2 e.symm))
 ·obtain⟨t,k1,k2,k3,k4⟩:=h.call ec
  have k5:=lies.lt k3 k4
  refine⟨t,k1,k2,k3.kept k5 (fun k hk hlt2=>h2.block k hlt2 (fun e=>by have:=tl k e.symm;omega)),lies.mono (fun k hk=>⟨hk.1.1,fun _ e=>?_⟩) k5⟩
  rcases hat k e with e1|e1
  ·have:=tl k e1;omega
  ·omega
 ·rcases hat k e with e1|e1
  ·exact .inl e1
  ·exact .inr (by omega)
theorem PJ.indexed(h:PJ P w lo g wr K ks T c b true x s f vC vB vA vX W):∃q cap,vA=.slice (some ⟨q,0,none⟩) (ks.length+1) cap∧PJ P w lo g wr K ks T c b true true s f vC vB vA (.pointer (some ⟨q,ks.length*4,none⟩)) W:=by
 obtain⟨q,cap,cur,e,-⟩:=one_at (m:=0) (h.app rfl).1
 exact⟨q,cap,e,h.st,h.fr,h.low,h.bl,h.ok,h.call,h.zero,h.row,h.app,fun _=>⟨q,cap,e,rfl⟩,h.ab,fun _=>rfl,fun _=>rfl,h.sc,h.fa⟩
theorem take_put{cur:Array Value}{n:Nat}{l0 l:List Value}(hl:l.length=4)(h0:l0.length=n*4){m:List Value}(hm:m.length=4)(hc:cur.toList.take ((n+1)*4)=l0 ++ m)(hs:(n+1)*4≤cur.size):(spl cur (n*4) l).toList.take ((n+1)*4)=l0 ++ l:=by
 have h1:cur.toList.take (n*4)=l0:=by
  have h:=congrArg (List.take (n*4)) hc
  rw[List.take_take,show min (n*4) ((n+1)*4)=n*4 by omega,List.take_left' h0] at h
  exact h
 rw[spl_eq _ _ _ (by omega)]
 show(cur.toList.take (n*4) ++ (l ++ cur.toList.drop (n*4+l.length))).take ((n+1)*4)=l0 ++ l
 rw[h1,←List.append_assoc,List.take_left' (by rw[List.length_append];omega)]
theorem PJ.stored(h:PJ P w lo g wr K ks T c b a true false f vC vB vA vX W)(hc:c=true):∃(t:Tv) (q:Nat) (w':World),vC=t.val∧vX=.pointer (some ⟨q,ks.length*4,none⟩)∧(storeCells ⟨q,ks.length*4,none⟩ t.row).run Tryz.prog W=.ok () w'∧PJ P w lo g wr K ks T c b a true true f vC vB vA vX w':=by
 obtain⟨t,k1,rfl,k3,k4⟩:=h.call hc
 have ea:=h.xa rfl
 subst ea
 obtain⟨q,cap,e1,e2⟩:=h.idx rfl
 obtain⟨ha,hat⟩:=h.app rfl
 obtain⟨q',cap',cur,e3,b1,b2,b3,b4,b5,b6⟩:=one_at (m:=0) ha
 rw[e1] at e3
 obtain⟨rfl,rfl⟩:q=q'∧cap=cap':=by cases e3;exact⟨rfl,rfl⟩
 obtain⟨w',r1,r2,r3⟩:=run_store_bl Tryz.prog b2 (ks.length*4) t.row (by rw[row_len];omega) (row_one t)
 have hl:=h.st.low
 have hlt:=h.st.bl.lt
 have hs:=h.fr.size
 have h2s:=r3.size
 have tl:=own_ltg h.st.own
 have hqo:vA.ownBlock=some q:=by rw[e1];rfl
 have hq:=hat q hqo
 have hqg:q≠g:=bl_ne b2 h.bl (by decide)
 have LF:(flat ks).length=ks.length*4:=by have h1:=h.st.own.1;exact h1
 refine⟨t,q,w',rfl,e2,r1,h.st,?_,?_,h.bl.grown r3 (fun e=>hqg (Option.some.inj e)),?_,fun _=>⟨t,k1,rfl,k3.kept k4 (fun k hk hlt2=>r3.block k hlt2 (fun e=>hk.2 rfl (hqo.trans e.symm))),k4⟩,(fun _ e=>by cases e),(fun e=>by cases e),fun _=>⟨?_,hat⟩,fun _=>⟨q,cap,e1,e2⟩,h.ab,h.xa,fun _=>rfl,fun _=>hc,h.fa⟩
 ·refine⟨by omega,fun k hk hg2 hT=>(r3.block k (by omega) (fun e=>?_)).trans (h.fr.keep k hk hg2 hT),h.fr.own⟩
  have e:=Option.some.inj e
  rcases hq with hq|hq
  ·exact hT (e▸hq)
  ·omega
 ·refine⟨r3.os.trans h.low.os,r3.tape.trans h.low.tape,r3.output.trans h.low.output,by have:=h.low.size;omega,fun k hk=>(r3.block k (by omega) (fun e=>?_)).trans (h.low.block k hk)⟩
  have e:=Option.some.inj e
  rcases hq with hq|hq
  ·have:=tl q hq;omega
  ·omega
 ·refine old_ok h.st h.ok (fun k hk hlt2=>r3.block k hlt2 (fun e=>?_))
  have e:=Option.some.inj e
  rcases hq with hq|hq
  ·exact hk.1.2 (e▸hq)
  ·omega
 ·rw[rowv_val,if_pos rfl]
  refine⟨by rw[List.length_append,LF,row_len];omega,.inr ⟨q,cap,_,e1,b1,r2,b3,b4,by rw[spl_size];exact b5,?_⟩⟩
  exact take_put (m:=nz) (row_len t) LF rfl (by rw[b6,if_neg (by decide)]) (by omega)
theorem PJ.cell1(h:PJ P w lo g wr K ks T c b a x s false vC vB vA vX W):W.cell? ⟨g,1,none⟩=some T∧W.frozen? ⟨g,1,none⟩=false:=⟨h.bl.cell_ rfl,h.bl.frozen 1⟩
theorem PJ.field(h:PJ P w lo g wr K ks T c b true x s false vC vB vA vX W):PJ P w lo g wr K ks T c b true x s true vC vB vA vX (W.setCell ⟨g,1,none⟩ vA):=by
 have hset:W.grownBy (W.setCell ⟨g,1,none⟩ vA) (some g):=only_set (World.grownBy.refl W _) (Or.inl rfl) vA
 have hss:(W.setCell ⟨g,1,none⟩ vA).heap.size=W.heap.size:=setc_size W _ _
 have hl:=h.st.low
 have hlt:=h.st.bl.lt
 have hs:=h.fr.size
 obtain⟨ha,hat⟩:=h.app rfl
 have hne:vA.ownBlock≠some g:=own_ne ha h.bl (by decide)
 refine⟨h.st,⟨by rw[hss];omega,fun k hk hq hT=>(hset.block k (by omega) (fun e=>hq (Option.some.inj e))).trans (h.fr.keep k hk hq hT),h.fr.own⟩,?_,h.bl.set_ 1 vA,?_,fun e=>?_,(fun _ e=>by cases e),(fun e=>by cases e),fun _=>⟨ha.kept hset (.inr hne),hat⟩,h.idx,h.ab,h.xa,h.sx,h.sc,fun _=>rfl⟩
 ·exact⟨hset.os.trans h.low.os,hset.tape.trans h.low.tape,hset.output.trans h.low.output,by rw[hss];exact h.low.size,fun k hk=>(hset.block k (by omega) (fun e=>by have:=Option.some.inj e;omega)).trans (h.low.block k hk)⟩
 ·exact old_ok h.st h.ok (fun k hk hlt2=>hset.block k hlt2 (fun e=>hk.1.1 (Option.some.inj e)))
 ·obtain⟨t,k1,k2,k3,k4⟩:=h.call e
  exact⟨t,k1,k2,k3.kept k4 (fun k hk hlt2=>hset.block k hlt2 (fun e=>by have:=Option.some.inj e;omega)),k4⟩
theorem PJ.whole(h:PJ P w lo g wr K ks T true true true true true true vC vB vA vX W){J:Nat}(hJ:∀t,P t→Wr.sz t≤J):∃t,P t∧Pw W lo g wr (K+J) (ks ++ [t]) vA∧Fr w W g T vA∧Below lo w W:=by
 obtain⟨t,k1,k2,k3,k4⟩:=h.call rfl
 obtain⟨ha,hat⟩:=h.app rfl
 have hlt:=h.st.bl.lt
 have hlow:=h.st.low
 refine⟨t,k1,⟨h.bl,?_,fun y hy=>?_,?_,h.st.low,?_,?_⟩,h.fr,h.low⟩
 ·rw[if_pos rfl,k2,rowv_val] at ha
  rw[List.length_append,flat_snoc]
  exact ha
 ·rcases List.mem_append.1 hy with hy|hy
  ·exact h.ok y hy
  ·rw[List.mem_singleton.1 hy];exact k3
 ·rw[liess_mem]
  intro y hy
  rcases List.mem_append.1 hy with hy|hy
  ·refine lies.mono (fun k hk=>⟨hk.1.1,fun e=>?_⟩) (liess_mem.1 (liess.lt h.st.ok h.st.aw) y hy)
   rcases hat k e with e1|e1
   ·exact hk.1.2 e1
   ·omega
  ·rw[List.mem_singleton.1 hy]
   exact lies.mono (fun k hk=>⟨by omega,hk.2 rfl⟩) k4
 ·rw[szs_app,szs,szs];have:=h.st.sz;have:=hJ t k1;omega
 ·rw[liess_mem]
  intro y hy
  rcases List.mem_append.1 hy with hy|hy
  ·exact liess_mem.1 h.st.up y hy
  ·rw[List.mem_singleton.1 hy];exact lies.mono (fun k hk=>by omega) k4
end
end Go.Proofs.YteblmphohhbgcaaGreat.Mt
