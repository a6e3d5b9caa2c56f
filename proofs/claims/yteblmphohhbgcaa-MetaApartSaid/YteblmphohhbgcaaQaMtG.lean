/- Joined texts. -/
import Derived.Test.YteblmphohhbgcaaQaMtD
import Derived.WalkKit
import Derived.WalkSpells
import Derived.WalkLawsBesides
import Derived.Lib.Hide
import Derived.ProofKit
import Derived.OpenShut
import Derived.Deep.Slices
import Derived.Deep.RegionWith
import Derived.Deep.Draws
import Derived.Laws.AppendOwnNone
import Derived.Laws.BytesArg
import Derived.Test.YteblmphohhbgcaaQaScBytes
import Derived.Test.YteblmphohhbgcaaProg
import Derived.Lib.ConvBytes
import Derived.Lib.SmallJoins
import Derived.Test.YteblmphohhbgcaaQaWrBackP
set_option linter.unusedVariables false
namespace Go.Proofs.Yteblmphohhbgcaa.Mt
open Go.RowKit Go.Proofs.Yteblmphohhbgcaa.Gn Go.Proofs.Yteblmphohhbgcaa.Fd Go.Proofs.Yteblmphohhbgcaa.Wr Go.Deep
theorem Ps.below{w u:World}{g q:Nat}{wr wh:Bool}{ks:List Tv}{bb:Nat}{t:TypeId}{cs:Array Value}(h:Ps w g q wr wh ks bb t cs)(hb:Below w.heap.size w u):Ps u g q wr wh ks bb t cs :=
 ⟨⟨h.pr.bl.below' hb,h.pr.fl.below hb,h.pr.ne⟩,⟨h.bx.bl.below' hb,h.bx.pn⟩,h.sz,h.nq,h.ng⟩
abbrev tcs(cs:Array Value)(P Q X Y Z:Tv × Bool × List Tv)(A:Option Addr)(c:Nat):Array Value:=rc ((cs.setIfInBounds 0 (.int .i64 (nm P.1:Int))).setIfInBounds 1 (.int .i64 (nm Q.1:Int))) X Y Z A c
set_option maxHeartbeats 4000000 in
theorem timestamp_p{w:World}{g q:Nat}{wr wh:Bool}{ks:List Tv}{bb:Nat}{t:TypeId}{cs:Array Value}(h:Ps w g q wr wh ks bb t cs)(hs:5≤cs.size){P Q L:Tv × Bool × List Tv}(hP:nxt (FI 1 4611686018427387904) 1 wh ks=P)(hQ:nxt (FI 0 4611686018427387904) 1 P.2.1 P.2.2=Q)(hL:nxt (FL 0 9223372036854775807) 3 Q.2.1 Q.2.2=L):Calls Try.prog 40 #[.pointer (some ⟨g,0,none⟩),.pointer (some ⟨bb,0,none⟩)] w fun e w'=>e=.returned (.tuple #[])∧∃us X Y Z A c,(nds us=nds (kids L.1)∧∃u,∀t∈us,Ok u t)∧nxt (FI 1 4611686018427387904) 1 true us=X∧nxt (FI 0 4611686018427387904) 1 X.2.1 X.2.2=Y∧nxt (FB 32 32) 2 Y.2.1 Y.2.2=Z∧Ps w' g q (wr || !(Z.2.1 && decide (Z.2.2.length=0))) L.2.1 L.2.2 bb t (tcs cs P Q X Y Z A c)∧Pc w' (A,(rw_ Z.1).2.1,c,(rw_ Z.1).2.2.2)∧Tc (fun k=>k=q∨k=bb∨k=g) w w':=by
 have BW:∀n,Below w.heap.size w (w.drewN n):=fun n=>below_drewN (Below.refl _ w) n
 have CH:=Lib.hid (fun n=>head_p (h.below (BW n)) (Array.getElem?_eq_getElem (show 0 < cs.size by omega)) (Array.getElem?_eq_getElem (show 1 < cs.size by omega)) hP hQ)
 have HS:=Lib.hid hs
 have HW:=Lib.hid BW
 clear h hs hP hQ BW
 go_enter Try.func40,Try.ntmps40
 go_wp2_with fail
 go_region_with (go_at_call 44;(refine(CH.out _).mono ?_);rintro e w1 ⟨rfl,hp,ht⟩;have T1:=Lib.hid ((Tc.below (S:=fun k=>k=q∨k=bb) (HW.out _)).trans ht);have CI:=Lib.hid (inner_p hp (show 5≤((cs.setIfInBounds 0 (.int .i64 (nm P.1:Int))).setIfInBounds 1 (.int .i64 (nm Q.1:Int))).size from sz2 (n:=4) HS.out (by decide)) hL);clear hp ht)
 all_goals go_wp2_with (go_at_call 63;(refine CI.out.mono ?_);rintro e w2 ⟨rfl,us,X,Y,Z,A,c,h1,h2,h3,h4,h5,h6,h7⟩;have I2:=Lib.hid (And.intro h1 (And.intro h2 (And.intro h3 (And.intro h4 (And.intro h5 (And.intro h6 h7))))));clear h1 h2 h3 h4 h5 h6 h7)
 all_goals(
  first|go_end0|refine bodyPost_ret (results_none rfl _ _ _) rfl ?_
  obtain⟨h1,h2,h3,h4,h5,h6,h7⟩:=I2.out
  exact⟨rfl,us,X,Y,Z,A,c,h1,h2,h3,h4,h5,h6,(T1.out.mono (fun k _ e=>by
   rcases e with e|e
   ·exact .inl e
   ·exact .inr (.inl e))).trans h7⟩)
end Go.Proofs.Yteblmphohhbgcaa.Mt
namespace Go.Proofs.Yteblmphohhbgcaa.Mt
open Go.RowKit Go.Proofs.Yteblmphohhbgcaa.Gn Go.Proofs.Yteblmphohhbgcaa.Fd Go.Proofs.Yteblmphohhbgcaa.Wr Go.Deep
set_option maxRecDepth 100000
theorem limits_any(w:World):Calls Try.prog 43 #[] w fun e w'=>e=.returned (lim 8192 8 1024 8192)∧Below w.heap.size w w':=by
 have HL:=Lib.hid (Bl.new_ w 86 #[.int .i64 8192,.int .i64 8,.int .i64 1024,.int .i64 8192])
 have HB:=Lib.hid ((Below.refl w.heap.size w).alloc (Nat.le_refl _) (.cells #[.int .i64 8192,.int .i64 8,.int .i64 1024,.int .i64 8192] 86))
 go_enter Try.func43,Try.ntmps43
 go_wp2_with fail
 exact⟨rfl,_,results_c rfl _ _ _ ⟨w.heap.size,0,none⟩ _ (by kernel_rfl) (run_loadVar_row _ w.heap.size 86 86 _ (0,0) _ HL.out Try.underlying86 rfl size40),rfl,HB.out⟩
end Go.Proofs.Yteblmphohhbgcaa.Mt
namespace Go.Proofs.Yteblmphohhbgcaa.Mt
open Go.RowKit Go.Proofs.Yteblmphohhbgcaa.Gn Go.Proofs.Yteblmphohhbgcaa.Fd Go.Proofs.Yteblmphohhbgcaa.Wr Go.Deep
def knd:Nd→Int
 |.mk k _ _ _=>k
def nmd:Nd→Nat
 |.mk _ n _ _=>n
def bsd:Nd→List Nat
 |.mk _ _ l _=>l
def ksd:Nd→List Nd
 |.mk _ _ _ us=>us
theorem kd_nd(t:Tv):kd t=knd (nd t):=by obtain⟨k,n,r,A,c,us⟩:=t;rw[Wr.nd];rfl
theorem nm_nd(t:Tv):nm t=nmd (nd t):=by obtain⟨k,n,r,A,c,us⟩:=t;rw[Wr.nd];rfl
theorem bs_nd(t:Tv):(rw_ t).2.2.2=bsd (nd t):=by obtain⟨k,n,r,A,c,us⟩:=t;rw[Wr.nd];rfl
theorem ks_nd(t:Tv):nds (kids t)=ksd (nd t):=by obtain⟨k,n,r,A,c,us⟩:=t;rw[Wr.nd];rfl
theorem bl_nd{w:World}{t:Tv}(h:Ok w t):(rw_ t).2.1=(bsd (nd t)).length:=by
 cases h with
 |mk hn hr hs hm hc h0 hk=>rw[Wr.nd];exact hr.len
def nx(F:Nd→Bool)(k:Int)(wh:Bool):List Nd→Nd × Bool × List Nd
 | []=>(.mk 0 0 [] [],false,[])
 |t :: ts=>if knd t=k then(if F t=true then(t,wh,ts) else(.mk 0 0 [] [],false,[])) else(.mk 0 0 [] [],false,[])
def dI(a b:Int)(t:Nd):Bool:=isI (nmd t) && inB (nmd t:Int) a b
def dB(a b:Int)(t:Nd):Bool:=inB ((bsd t).length:Int) a b
def dL(a b:Int)(t:Nd):Bool:=inB ((ksd t).length:Int) a b
theorem fi_nd(a b:Int)(t:Tv):FI a b t=dI a b (nd t):=by unfold FI dI;rw[nm_nd]
theorem fb_nd{w:World}(a b:Int){t:Tv}(h:Ok w t):FB a b t=dB a b (nd t):=by unfold FB dB;rw[bl_nd h]
theorem fl_nd(a b:Int)(t:Tv):FL a b t=dL a b (nd t):=by unfold FL dL;rw[←ks_nd,nds_map,List.length_map]
theorem nd_tv0:nd tv0=.mk 0 0 [] []:=by unfold tv0;rw[Wr.nd,nds]
theorem nxt_nx{F:Tv→Bool}{G:Nd→Bool}{k:Int}{wh:Bool}{ks:List Tv}(h:∀t∈ks,F t=G (nd t)):nd (nxt F k wh ks).1=(nx G k wh (nds ks)).1∧(nxt F k wh ks).2.1=(nx G k wh (nds ks)).2.1∧nds (nxt F k wh ks).2.2=(nx G k wh (nds ks)).2.2:=by
 cases ks with
 |nil=>rw[nxt,nds,nx];exact⟨nd_tv0,rfl,by show nds []=[];rw[nds]⟩
 |cons t ts =>
  rw[nxt,nds,nx,←kd_nd,←h t List.mem_cons_self]
  split
  ·split
   ·exact⟨rfl,rfl,rfl⟩
   ·exact⟨nd_tv0,rfl,by show nds []=[];rw[nds]⟩
  ·exact⟨nd_tv0,rfl,by show nds []=[];rw[nds]⟩
end Go.Proofs.Yteblmphohhbgcaa.Mt
namespace Go.Proofs.Yteblmphohhbgcaa.Mt
open Go.RowKit Go.Proofs.Yteblmphohhbgcaa.Gn Go.Proofs.Yteblmphohhbgcaa.Fd Go.Proofs.Yteblmphohhbgcaa.Wr Go.Deep
theorem rz_fl{w:World}{g:Nat}(h:Rz w g):Fl w g false [] :=
 ⟨⟨none,0,h,⟨rfl,fun k v hv=>by cases hv⟩,fun _=>rfl,Nat.le_refl _,fun ad e=>by cases e⟩,fun t ht=>(List.not_mem_nil ht).elim,by rw[liess];trivial⟩
theorem open_v{w0:World}{t:Tv}(hv:Ok w0 t)(hz:sz t≤1000000)(w:World)(hu:Below w0.heap.size w0 w):Calls Try.prog 50 #[t.val] w fun e w'=>∃q us,e=.returned (.pointer (some ⟨q,0,none⟩))∧Fl w' q (decide (kd t=3)) us∧nds us=(if kd t=3 then ksd (Wr.nd t) else[])∧w.heap.size≤q∧q < w'.heap.size∧Below w.heap.size w w':=by
 obtain⟨k,n,r,A,c,ks⟩:=t
 by_cases hk:k=3
 ·subst hk
  refine(Open_list hv hz w hu).mono ?_
  rintro e w' ⟨q,us,rfl,h1,h2,h3,h4,h5⟩
  refine⟨q,us,rfl,h2,?_,h3,h4,h5⟩
  rw[if_pos (show kd (.mk 3 n r A c ks)=3 from rfl),Wr.nd];exact h1
 ·refine(Open_no k hk n r A ks.length c w).mono ?_
  rintro e w' ⟨q,rfl,h1,h2,h3⟩
  have e1:¬kd (.mk k n r A c ks)=3:=hk
  refine⟨q,[],rfl,?_,?_,h2,h1.lt,h3⟩
  ·rw[decide_eq_false e1];exact rz_fl h1
  ·rw[if_neg e1,nds]
end Go.Proofs.Yteblmphohhbgcaa.Mt
namespace Go.Proofs.Yteblmphohhbgcaa.Sc
open Go.RowKit
set_option maxRecDepth 100000
def txt(l:List Nat):ByteArray:=⟨(l.map fun x=>UInt8.ofNat x).toArray⟩
end Go.Proofs.Yteblmphohhbgcaa.Sc
namespace Go.Proofs.Yteblmphohhbgcaa.Wr
open Go.RowKit Go.Proofs.Yteblmphohhbgcaa.Gn Go.Proofs.Yteblmphohhbgcaa.Fd Go.Deep
set_option maxRecDepth 100000
def sb(s:ByteArray):List Nat:=s.data.toList.map fun b=>b.toNat
theorem sb_len(s:ByteArray):(sb s).length=s.size:=by unfold sb;rw[List.length_map];rfl
theorem sb_pc (w : World) (s : ByteArray) : Pc (Lib.bytesWorld w 5 s) (some ⟨w.heap.size, 0, none⟩, s.size, grownCap w s.size 0 5, sb s) := by
  refine ⟨(sb_len s).symm, ⟨by unfold bl; rw [List.length_map], fun k v hv => ⟨_, rfl, ?_⟩⟩, ?_, ?_, fun e => by cases e⟩
  · have hk : k < s.size := by
      have := (List.getElem?_eq_some_iff.1 hv).1
      rw [show (bl (sb s)).length = s.size from (by unfold bl; rw [List.length_map, sb_len])] at this
      exact this
    rw [add_at, Lib.bytesWorld_cell w _ s k hk]
    have hk2 : k < s.data.toList.length := hk
    have hv2 : (bl (sb s))[k]? = some v := hv
    unfold bl sb at hv2
    rw [List.getElem?_map, List.getElem?_map, List.getElem?_eq_getElem hk2] at hv2
    rw [List.getD_eq_getElem?_getD, List.getElem?_eq_getElem hk2]
    injection hv2 with hv2
    rw [← hv2]
    rfl
  · intro x hx
    obtain ⟨b, -, rfl⟩ := List.mem_map.1 hx
    exact b.toNat_lt
  · show (sb s).length ≤ grownCap w s.size 0 5
    rw [sb_len]; exact grownCap_ge w s.size 0 5
theorem sb_below(w:World)(s:ByteArray):Below w.heap.size w (Lib.bytesWorld w 5 s):=Joins.below_bytesWorld w.heap.size w 5 s (Nat.le_refl _)
theorem run_sb(w:World)(s:ByteArray):(convert 9 25 (.string s)).run Try.prog w=.ok (.slice (some ⟨w.heap.size,0,none⟩) s.size (grownCap w s.size 0 5)) (Lib.bytesWorld w 5 s) :=
 Lib.run_convert_string_bytes w 9 25 5 s Try.underlying9 Try.underlying25 Try.underlying5
def Mk2Q(l:List Nat)(u:World)(e:Ending)(w':World):Prop:=∃r:Rw,r.2.2.2=l∧e=.returned (Tv.val (.mk 2 0 r none 0 []))∧Ok w' (.mk 2 0 r none 0 [])∧Below u.heap.size u w'
set_option maxHeartbeats 4000000 in
theorem Text_any(s:ByteArray)(w:World):Calls Try.prog 35 #[.string s] w (Mk2Q (sb s) w):=by
 have RC:=Lib.hid (fun u=>run_sb u s)
 have B0:=Lib.hid (below_one w nod0)
 have N0:=Lib.hid (Bl.new_ w 80 #[.int .i64 0,.int .u64 0,.slice none 0 0,.slice none 0 0])
 obtain⟨U,hU⟩:∃U,w.alloc nod0=U:=⟨_,rfl⟩
 have SU:=Lib.hid (show U.heap.size=w.heap.size+1 from by rw[←hU];simp)
 rw[hU] at B0 N0
 obtain⟨C,hC⟩:∃C,grownCap U s.size 0 5=C:=⟨_,rfl⟩
 obtain⟨V,hV⟩:∃V,Lib.bytesWorld U 5 s=V:=⟨_,rfl⟩
 have PV:=Lib.hid (show Pc V (some ⟨U.heap.size,0,none⟩,s.size,C,sb s) from by rw[←hV,←hC];exact sb_pc U s)
 have BV:=Lib.hid (show Below U.heap.size U V from by rw[←hV];exact sb_below U s)
 have RR:(convert 9 25 (.string s)).run Try.prog U=.ok (.slice (some ⟨U.heap.size,0,none⟩) s.size C) V:=by rw[←hV,←hC];exact RC.out U
 have NV:=Lib.hid (N0.out.below' BV.out)
 have c0:V.cell? ⟨w.heap.size,0,none⟩=some (.int .i64 0):=NV.out.cell_ rfl
 have c1:V.cell? ⟨w.heap.size,1,none⟩=some (.int .u64 0):=NV.out.cell_ rfl
 have c2:V.cell? ⟨w.heap.size,2,none⟩=some (.slice none 0 0):=NV.out.cell_ rfl
 have c3:V.cell? ⟨w.heap.size,3,none⟩=some (.slice none 0 0):=NV.out.cell_ rfl
 have z0:=NV.out.frozen 0
 have z1:=NV.out.frozen 1
 have z2:=NV.out.frozen 2
 have z3:=NV.out.frozen 3
 clear hV hC RC
 go_enter Try.func35,Try.ntmps35
 go_wp2_with fail
 have BW:=B0.out.trans (BV.out.mono B0.out.size)
 have sU:=SU.out
 have hPc:Pc (st4 V w.heap.size (.int .i64 2) (.int .u64 0) (.slice (some ⟨U.heap.size,0,none⟩) s.size C) (.slice none 0 0)) (some ⟨U.heap.size,0,none⟩,s.size,C,sb s):=⟨PV.out.len,Sl.kept PV.out.row (fun ad e hn _=>st4_keep V _ _ _ _ (by cases e;show U.heap.size≠w.heap.size;omega)),PV.out.lt,PV.out.cap,PV.out.nil⟩
 exact⟨rfl,_,results_c rfl _ _ _ ⟨w.heap.size,0,none⟩ _ (by kernel_rfl) (run_loadVar_row _ w.heap.size 80 80 #[.int .i64 2,.int .u64 0,.slice (some ⟨U.heap.size,0,none⟩) s.size C,.slice none 0 0] (0,0) _ (st4_bl NV.out _ _ _ _) Try.underlying80 rfl size34),(some ⟨U.heap.size,0,none⟩,s.size,C,sb s),rfl,rfl,ok_leaf (by decide) hPc,below_st4' BW (Nat.le_refl _) _ _ _ _⟩
theorem results_c2{fn:Func}{a b:Tmp}{t:TypeId}(h:fn.results = #[.cell a t,.tmp b])(tmps:Array Value)(P:Program)(w:World)(ad:Addr)(v u:Value)(ha:tmps.getD a undef=.pointer (some ad))(hb:tmps.getD b undef=u)(hl:(loadVar t ad).run P w=.ok v w) :
  (results fn tmps).run P w=.ok (.tuple #[v,u]) w:=by
 have ha':tmps[a]?.getD undef=.pointer (some ad):=by simpa using ha
 have hb':tmps[b]?.getD undef=u:=by simpa using hb
 simp[results,h,ha',hb',hl,asAddr]
end Go.Proofs.Yteblmphohhbgcaa.Wr
namespace Go.Proofs.Yteblmphohhbgcaa.Mt
open Go.RowKit Go.Proofs.Yteblmphohhbgcaa.Gn Go.Proofs.Yteblmphohhbgcaa.Fd Go.Proofs.Yteblmphohhbgcaa.Wr Go.Deep
structure Pw (w:World) (lo g:Nat) (wr:Bool) (K:Nat) (ks:List Tv) (T:Value):Prop where
 bl:Bl w g 94 #[.pointer none,T,.bool wr]
 own:w.ownsRow lo 80 4 T ks.length (flat ks)
 ok:∀t∈ks,Ok w t
 aw:liess (fun k=>k≠g∧T.ownBlock≠some k) ks
 low:lo≤g
 sz:szs ks≤K
 up:liess (fun k=>lo≤k) ks
theorem Pw.below{w w':World}{lo g:Nat}{wr:Bool}{K:Nat}{ks:List Tv}{T:Value}(h:Pw w lo g wr K ks T)(hb:Below w.heap.size w w'):Pw w' lo g wr K ks T :=
 ⟨h.bl.below' hb,own_belowg h.own hb,fun t ht=>(h.ok t ht).keep hb,h.aw,h.low,h.sz,h.up⟩
theorem Pw.tb{w:World}{lo g:Nat}{wr:Bool}{K:Nat}{ks:List Tv}{T:Value}(h:Pw w lo g wr K ks T):T.ownBlock≠some g:=own_ne h.own h.bl (by decide)
theorem szs_app(a b:List Tv):szs (a ++ b)=szs a+szs b:=by
 induction a with
 |nil=>simp[szs]
 |cons t a ih=>rw[List.cons_append,szs,szs,ih];omega
theorem Pw.flag{w:World}{lo g:Nat}{wr:Bool}{K:Nat}{ks:List Tv}{T:Value}(h:Pw w lo g wr K ks T){w':World}{wr':Bool}(hb:Bl w' g 94 #[.pointer none,T,.bool wr'])(hg:w.grownBy w' (some g)):Pw w' lo g wr' K ks T∧Fr w w' g T T∧Below lo w w':=by
 have hlt:=h.bl.lt
 refine⟨⟨hb,h.own.kept hg (.inr h.tb),fun t ht=>(h.ok t ht).kept (liess_mem.1 h.aw t ht) (fun k hk hlt2=>hg.block k hlt2 (fun e=>hk.1 (Option.some.inj e))),h.aw,h.low,h.sz,h.up⟩,⟨hg.size,fun k hk hq hT=>hg.block k hk (fun e=>hq (Option.some.inj e)),fun k e=>.inl e⟩,?_⟩
 exact⟨hg.os,hg.tape,hg.output,hg.size,fun k hk=>hg.block k (by have:=h.low;omega) (fun e=>by have h1:k=g:=Option.some.inj e;have:=h.low;omega)⟩
end Go.Proofs.Yteblmphohhbgcaa.Mt
