/- Joined texts. -/
import Derived.Deep.LoopGhost
import Derived.Lib.ConvBytes
import Derived.Lib.SmallJoins
import Derived.Test.YtkahelhoaihajaaQkWrPu
import Derived.Test.YtkahelhoaihajaaQkWrKnown
import Derived.Test.YtkahelhoaihajaaQkWrRSame
import Derived.Test.YtkahelhoaihajaaQkWrTread
import Derived.Test.YtkahelhoaihajaaQkWrNd
import Derived.Test.YtkahelhoaihajaaQkWrSize
import Derived.Test.YtkahelhoaihajaaQkScMake
set_option linter.unusedVariables false
namespace Go.Proofs.Ytkahelhoaihajaa.Wr
open Go.RowKit Go.Proofs.Ytkahelhoaihajaa.Gn Go.Proofs.Ytkahelhoaihajaa.Fd Go.Deep
set_option maxRecDepth 100000
def sb(s:ByteArray):List Nat:=s.data.toList.map fun b=>b.toNat
theorem sb_len(s:ByteArray):(sb s).length=s.size:=by unfold sb;rw[List.length_map];rfl
theorem sb_pc (w : World) (s : ByteArray) : Pc (Lib.bytesWorld w 5 s) (some ⟨w.heap.size, 0, none⟩, s.size, grownCap w s.size 0 5, sb s) := by
  refine ⟨(sb_len s).symm, ⟨by unfold bl; rw [List.length_map], fun k v hv => ⟨_, rfl, ?_⟩⟩, ?_, ?_, fun e => by cases e⟩
  · have hk : k < s.size := by
      have := (List.getElem?_eq_some_iff.1 hv).1
      rw [show (bl (sb s)).length = s.size from (by unfold bl; rw [List.length_map, sb_len])] at this
      exact this
    rw [add_at, Lib.bytesWorld_cell w _ s k hk]
    have hk2 : k < s.data.toList.length := hk
    have hv2 : (bl (sb s))[k]? = some v := hv
    unfold bl sb at hv2
    rw [List.getElem?_map, List.getElem?_map, List.getElem?_eq_getElem hk2] at hv2
    rw [List.getD_eq_getElem?_getD, List.getElem?_eq_getElem hk2]
    injection hv2 with hv2
    rw [← hv2]
    rfl
  · intro x hx
    obtain ⟨b, -, rfl⟩ := List.mem_map.1 hx
    exact b.toNat_lt
  · show (sb s).length ≤ grownCap w s.size 0 5
    rw [sb_len]; exact grownCap_ge w s.size 0 5
theorem sb_below(w:World)(s:ByteArray):Below w.heap.size w (Lib.bytesWorld w 5 s):=Joins.below_bytesWorld w.heap.size w 5 s (Nat.le_refl _)
theorem run_sb(w:World)(s:ByteArray):(convert 9 23 (.string s)).run Try.prog w=.ok (.slice (some ⟨w.heap.size,0,none⟩) s.size (grownCap w s.size 0 5)) (Lib.bytesWorld w 5 s) :=
 Lib.run_convert_string_bytes w 9 23 5 s Try.underlying9 Try.underlying23 Try.underlying5
def Mk2Q(l:List Nat)(u:World)(e:Ending)(w':World):Prop:=∃r:Rw,r.2.2.2=l∧e=.returned (Tv.val (.mk 2 0 r none 0 []))∧Ok w' (.mk 2 0 r none 0 [])∧Below u.heap.size u w'
set_option maxHeartbeats 4000000 in
theorem Text_any(s:ByteArray)(w:World):Calls Try.prog 27 #[.string s] w (Mk2Q (sb s) w):=by
 have RC:=Lib.hid (fun u=>run_sb u s)
 have B0:=Lib.hid (below_one w nod0)
 have N0:=Lib.hid (Bl.new_ w 26 #[.int .i64 0,.int .u64 0,.slice none 0 0,.slice none 0 0])
 obtain⟨U,hU⟩:∃U,w.alloc nod0=U:=⟨_,rfl⟩
 have SU:=Lib.hid (show U.heap.size=w.heap.size+1 from by rw[←hU];simp)
 rw[hU] at B0 N0
 obtain⟨C,hC⟩:∃C,grownCap U s.size 0 5=C:=⟨_,rfl⟩
 obtain⟨V,hV⟩:∃V,Lib.bytesWorld U 5 s=V:=⟨_,rfl⟩
 have PV:=Lib.hid (show Pc V (some ⟨U.heap.size,0,none⟩,s.size,C,sb s) from by rw[←hV,←hC];exact sb_pc U s)
 have BV:=Lib.hid (show Below U.heap.size U V from by rw[←hV];exact sb_below U s)
 have RR:(convert 9 23 (.string s)).run Try.prog U=.ok (.slice (some ⟨U.heap.size,0,none⟩) s.size C) V:=by rw[←hV,←hC];exact RC.out U
 have NV:=Lib.hid (N0.out.below' BV.out)
 have c0:V.cell? ⟨w.heap.size,0,none⟩=some (.int .i64 0):=NV.out.cell_ rfl
 have c1:V.cell? ⟨w.heap.size,1,none⟩=some (.int .u64 0):=NV.out.cell_ rfl
 have c2:V.cell? ⟨w.heap.size,2,none⟩=some (.slice none 0 0):=NV.out.cell_ rfl
 have c3:V.cell? ⟨w.heap.size,3,none⟩=some (.slice none 0 0):=NV.out.cell_ rfl
 have z0:=NV.out.frozen 0
 have z1:=NV.out.frozen 1
 have z2:=NV.out.frozen 2
 have z3:=NV.out.frozen 3
 clear hV hC RC
 go_enter Try.func27,Try.ntmps27
 go_wp2_with fail
 have BW:=B0.out.trans (BV.out.mono B0.out.size)
 have sU:=SU.out
 have hPc:Pc (st4 V w.heap.size (.int .i64 2) (.int .u64 0) (.slice (some ⟨U.heap.size,0,none⟩) s.size C) (.slice none 0 0)) (some ⟨U.heap.size,0,none⟩,s.size,C,sb s):=⟨PV.out.len,Sl.kept PV.out.row (fun ad e hn _=>st4_keep V _ _ _ _ (by cases e;show U.heap.size≠w.heap.size;omega)),PV.out.lt,PV.out.cap,PV.out.nil⟩
 exact⟨rfl,_,results_c rfl _ _ _ ⟨w.heap.size,0,none⟩ _ (by kernel_rfl) (run_loadVar_row _ w.heap.size 26 26 #[.int .i64 2,.int .u64 0,.slice (some ⟨U.heap.size,0,none⟩) s.size C,.slice none 0 0] (0,0) _ (st4_bl NV.out _ _ _ _) Try.underlying26 rfl size34),(some ⟨U.heap.size,0,none⟩,s.size,C,sb s),rfl,rfl,ok_leaf (by decide) hPc,below_st4' BW (Nat.le_refl _) _ _ _ _⟩
set_option maxHeartbeats 4000000 in
theorem RNum_any(n:Nat)(w:World)(hn:n < 18446744073709551616):Calls Try.prog 24 #[.int .u64 (n:Int)] w (MkQ (.mk 1 n (none,0,0,[]) none 0 []) w):=by
 have H9:=Lib.hid hn
 clear hn
 have B0:=Lib.hid (below_one w (.cells #[.int .i64 1,.int .u64 (n:Int),.slice none 0 0,.slice none 0 0] 26))
 have NW:=Lib.hid (Bl.new_ w 26 #[.int .i64 1,.int .u64 (n:Int),.slice none 0 0,.slice none 0 0])
 go_enter Try.func24,Try.ntmps24
 go_wp2_with fail
 exact⟨rfl,_,results_c rfl _ _ _ ⟨w.heap.size,0,none⟩ _ (by kernel_rfl) (run_loadVar_row _ w.heap.size 26 26 #[.int .i64 1,.int .u64 (n:Int),.slice none 0 0,.slice none 0 0] (0,0) _ (NW.out) Try.underlying26 rfl size34),rfl,ok_leaf H9.out (nil_pc _),B0.out⟩
set_option maxHeartbeats 4000000 in
theorem RBytes_any{r:Rw}(w:World)(hr:Pc w r):Calls Try.prog 26 #[.slice r.1 r.2.1 r.2.2.1] w (MkQ (.mk 2 0 r none 0 []) w):=by
 have HR:=Lib.hid hr
 clear hr
 have B0:=Lib.hid (below_one w (.cells #[.int .i64 2,.int .u64 0,.slice r.1 r.2.1 r.2.2.1,.slice none 0 0] 26))
 have NW:=Lib.hid (Bl.new_ w 26 #[.int .i64 2,.int .u64 0,.slice r.1 r.2.1 r.2.2.1,.slice none 0 0])
 go_enter Try.func26,Try.ntmps26
 go_wp2_with fail
 exact⟨rfl,_,results_c rfl _ _ _ ⟨w.heap.size,0,none⟩ _ (by kernel_rfl) (run_loadVar_row _ w.heap.size 26 26 #[.int .i64 2,.int .u64 0,.slice r.1 r.2.1 r.2.2.1,.slice none 0 0] (0,0) _ (NW.out) Try.underlying26 rfl size34),rfl,ok_leaf (by decide) (HR.out.below B0.out),B0.out⟩
set_option maxHeartbeats 4000000 in
theorem RList_any{A:Option Addr}{c:Nat}{ks:List Tv}(w:World)(hs:Sl w A (4*ks.length) (flat ks))(hc:ks.length≤c)(h0:A=none→c=0)(hk:∀t∈ks,Ok w t)(hm:ks.length≤1000000):Calls Try.prog 28 #[.slice A ks.length c] w (MkQ (.mk 3 0 (none,0,0,[]) A c ks) w):=by
 obtain⟨m,hm'⟩:∃m,ks.length=m:=⟨_,rfl⟩
 have HM:=Lib.hid hm'
 have HS:=Lib.hid hs
 have HC:=Lib.hid hc
 have H0:=Lib.hid h0
 have HK:=Lib.hid hk
 have HM9:=Lib.hid hm
 rw[hm']
 clear hs hc h0 hk hm hm'
 have B0:=Lib.hid (below_one w (.cells #[.int .i64 3,.int .u64 0,.slice none 0 0,.slice A m c] 26))
 have NW:=Lib.hid (Bl.new_ w 26 #[.int .i64 3,.int .u64 0,.slice none 0 0,.slice A m c])
 go_enter Try.func28,Try.ntmps28
 go_wp2_with fail
 exact⟨rfl,_,results_c rfl _ _ _ ⟨w.heap.size,0,none⟩ _ (by kernel_rfl) (run_loadVar_row _ w.heap.size 26 26 #[.int .i64 3,.int .u64 0,.slice none 0 0,.slice A m c] (0,0) _ (NW.out) Try.underlying26 rfl size34),by rw[Tv.val,Tv.row,HM.out];rfl,.mk (by decide) (nil_pc _) (HS.out.below B0.out) HM9.out HC.out H0.out (fun t ht=>(HK.out t ht).keep B0.out),B0.out⟩
theorem results_c2{fn:Func}{a b:Tmp}{t:TypeId}(h:fn.results = #[.cell a t,.tmp b])(tmps:Array Value)(P:Program)(w:World)(ad:Addr)(v u:Value)(ha:tmps.getD a undef=.pointer (some ad))(hb:tmps.getD b undef=u)(hl:(loadVar t ad).run P w=.ok v w) :
  (results fn tmps).run P w=.ok (.tuple #[v,u]) w:=by
 have ha':tmps[a]?.getD undef=.pointer (some ad):=by simpa using ha
 have hb':tmps[b]?.getD undef=u:=by simpa using hb
 simp[results,h,ha',hb',hl,asAddr]
def scN(x:Nat):Nd:=if Sc.valid x then .mk 2 0 (Sc.beb x 8) [] else .mk 0 0 [] []
def scE(x:Nat):Int:=if Sc.valid x then 0 else 10
def ScQ(x:Nat)(w:World)(e:Ending)(w':World):Prop:=∃t:Tv,e=.returned (.tuple #[t.val,.int .i64 (scE x)])∧nd t=scN x∧Ok w' t∧Below w.heap.size w w'
theorem beb_lt(x:Nat):∀k,∀y∈Sc.beb x k,y < 256
 |0,y,h=>by cases h
 |k+1,y,h=>by
  rcases List.mem_cons.1 (show y∈(x / 256 ^ k%256) :: Sc.beb x k from h) with rfl|h
  ·exact Nat.mod_lt _ (by decide)
  ·exact beb_lt x k y h
set_option maxHeartbeats 4000000 in
theorem Score_bad(x:Nat)(hx:x < 18446744073709551616)(hv:Sc.valid x=false)(w:World):Calls Try.prog 19 #[.float .f64 x] w (ScQ x w):=by
 have e1:scE x=10:=by unfold scE;rw[hv];rfl
 have e2:scN x=.mk 0 0 [] []:=by unfold scN;rw[hv];rfl
 unfold ScQ
 rw[e1,e2]
 have CB:=Lib.hid (fun u=>Sc.bytes_bad x u hx hv)
 have B0:=Lib.hid (below_one w nod0)
 have NW:=Lib.hid (Bl.new_ w 26 #[.int .i64 0,.int .u64 0,.slice none 0 0,.slice none 0 0])
 have c0:(w.alloc nod0).cell? ⟨w.heap.size,0,none⟩=some (.int .i64 0):=NW.out.cell_ rfl
 have c1:(w.alloc nod0).cell? ⟨w.heap.size,1,none⟩=some (.int .u64 0):=NW.out.cell_ rfl
 have c2:(w.alloc nod0).cell? ⟨w.heap.size,2,none⟩=some (.slice none 0 0):=NW.out.cell_ rfl
 have c3:(w.alloc nod0).cell? ⟨w.heap.size,3,none⟩=some (.slice none 0 0):=NW.out.cell_ rfl
 clear e1 e2 hx hv
 go_enter Try.func19,Try.ntmps19
 go_wp2_with (go_at_call 59;(refine(CB.out _).mono ?_);rintro e w1 ⟨rfl,rfl⟩)
 exact⟨rfl,_,results_c2 rfl _ _ _ ⟨w.heap.size,0,none⟩ _ _ (by kernel_rfl) rfl (run_loadVar_row _ w.heap.size 26 26 #[.int .i64 0,.int .u64 0,.slice none 0 0,.slice none 0 0] (0,0) _ NW.out Try.underlying26 rfl size34),.mk 0 0 (none,0,0,[]) none 0 [],rfl,rfl,ok_leaf (by decide) (nil_pc _),B0.out⟩
set_option maxHeartbeats 4000000 in
theorem RScore_bad(x:Nat)(hx:x < 18446744073709551616)(hv:Sc.valid x=false)(w:World):Calls Try.prog 20 #[.float .f64 x] w (ScQ x w):=by
 have e1:scE x=10:=by unfold scE;rw[hv];rfl
 have e2:scN x=.mk 0 0 [] []:=by unfold scN;rw[hv];rfl
 unfold ScQ
 rw[e1,e2]
 have CB:=Lib.hid (fun u=>Sc.rbytes_bad x u hx hv)
 have B0:=Lib.hid (below_one w nod0)
 have NW:=Lib.hid (Bl.new_ w 26 #[.int .i64 0,.int .u64 0,.slice none 0 0,.slice none 0 0])
 have c0:(w.alloc nod0).cell? ⟨w.heap.size,0,none⟩=some (.int .i64 0):=NW.out.cell_ rfl
 have c1:(w.alloc nod0).cell? ⟨w.heap.size,1,none⟩=some (.int .u64 0):=NW.out.cell_ rfl
 have c2:(w.alloc nod0).cell? ⟨w.heap.size,2,none⟩=some (.slice none 0 0):=NW.out.cell_ rfl
 have c3:(w.alloc nod0).cell? ⟨w.heap.size,3,none⟩=some (.slice none 0 0):=NW.out.cell_ rfl
 clear e1 e2 hx hv
 go_enter Try.func20,Try.ntmps20
 go_wp2_with (go_at_call 60;(refine(CB.out _).mono ?_);rintro e w1 ⟨rfl,rfl⟩)
 exact⟨rfl,_,results_c2 rfl _ _ _ ⟨w.heap.size,0,none⟩ _ _ (by kernel_rfl) rfl (run_loadVar_row _ w.heap.size 26 26 #[.int .i64 0,.int .u64 0,.slice none 0 0,.slice none 0 0] (0,0) _ NW.out Try.underlying26 rfl size34),.mk 0 0 (none,0,0,[]) none 0 [],rfl,rfl,ok_leaf (by decide) (nil_pc _),B0.out⟩
set_option maxHeartbeats 4000000 in
theorem Score_ok(x:Nat)(hx:x < 18446744073709551616)(hv:Sc.valid x=true)(w:World):Calls Try.prog 19 #[.float .f64 x] w (ScQ x w):=by
 have e1:scE x=0:=by unfold scE;rw[hv];rfl
 have e2:scN x=.mk 2 0 (Sc.beb x 8) []:=by unfold scN;rw[hv];rfl
 unfold ScQ
 rw[e1,e2]
 have CB:=Lib.hid (fun u=>show Calls _ _ #[.float .f64 x] u (fun e w'=>∃A c,e=.returned (.tuple #[.slice A 8 c,.int .i64 0])∧Pc w' (A,8,c,Sc.beb x 8)∧(∀a,A=some a→u.heap.size≤a.block)∧Below u.heap.size u w') from(Sc.bytes_ok x u hx hv).mono fun e w' ⟨h1,h2⟩=>⟨_,_,h1,by rw[h2];exact⟨(Sc.beb_length x 8).symm,by have h:=Sl.new_ u 5 (bl (Sc.beb x 8));rw[show(bl (Sc.beb x 8)).length=8 from by unfold bl;rw[List.length_map,Sc.beb_length]] at h;rw[show(((some ⟨u.heap.size,0,none⟩,8,8,Sc.beb x 8):Rw).2.2.2).length=8 from Sc.beb_length x 8];exact h,beb_lt x 8,Nat.le_of_eq (Sc.beb_length x 8),fun e=>by cases e⟩,fun a e=>by cases e;exact Nat.le_refl _,by rw[h2];exact below_one u _⟩)
 have B0:=Lib.hid (below_one w nod0)
 have NW:=Lib.hid (Bl.new_ w 26 #[.int .i64 0,.int .u64 0,.slice none 0 0,.slice none 0 0])
 clear e1 e2 hx hv
 go_enter Try.func19,Try.ntmps19
 go_wp2_with (first
  |(go_at_call 59;(refine(CB.out _).mono ?_);rintro e w1 ⟨A1,c1',rfl,hp1,ha1,hb1⟩;have P1:=Lib.hid hp1;have HA1:=Lib.hid ha1;have B1:=Lib.hid (show Below w.heap.size w w1 from B0.out.trans (hb1.mono B0.out.size));have N1:=Lib.hid (NW.out.below' hb1);clear hp1 ha1 hb1)
  |(go_at_call 25;(refine(Bytes_any P1.out (by show 8≤1000000;decide)).mono ?_);rintro e w2 ⟨A2,c2',⟨rfl,hok,hb2⟩,ha2⟩;simp only[Tv.val,Tv.row];have O2:=Lib.hid hok;have A2':=Lib.hid (show ∀a,A2=some a→w.heap.size < a.block from fun a e=>Nat.lt_of_le_of_lt B1.out.size (ha2 a e));have B2:=Lib.hid (show Below w.heap.size w w2 from B1.out.trans (hb2.mono B1.out.size));have N2:=Lib.hid (N1.out.below' hb2);have d0:w2.cell? ⟨w.heap.size,0,none⟩=some (.int .i64 0):=N2.out.cell_ rfl;have y0:=N2.out.frozen 0;have d1:w2.cell? ⟨w.heap.size,1,none⟩=some (.int .u64 0):=N2.out.cell_ rfl;have y1:=N2.out.frozen 1;have d2:w2.cell? ⟨w.heap.size,2,none⟩=some (.slice none 0 0):=N2.out.cell_ rfl;have y2:=N2.out.frozen 2;have d3:w2.cell? ⟨w.heap.size,3,none⟩=some (.slice none 0 0):=N2.out.cell_ rfl;have y3:=N2.out.frozen 3;clear hok hb2 ha2))
 have hPc:Ok (st4 w2 w.heap.size (.int .i64 2) (.int .u64 0) (.slice A2 8 c2') (.slice none 0 0)) (.mk 2 0 (A2,8,c2',Sc.beb x 8) none 0 []):=by
  have h:=O2.out
  cases h with
  |mk hn hr hs hm hc h0 hk=>exact ok_leaf (by decide) ⟨hr.len,Sl.kept hr.row (fun ad e hn _=>st4_keep w2 _ _ _ _ (by have:=A2'.out ad e;omega)),hr.lt,hr.cap,hr.nil⟩
 exact⟨rfl,_,results_c2 rfl _ _ _ ⟨w.heap.size,0,none⟩ _ _ (by kernel_rfl) rfl (run_loadVar_row _ w.heap.size 26 26 #[.int .i64 2,.int .u64 0,.slice A2 8 c2',.slice none 0 0] (0,0) _ (st4_bl N2.out _ _ _ _) Try.underlying26 rfl size34),.mk 2 0 (A2,8,c2',Sc.beb x 8) none 0 [],rfl,rfl,hPc,below_st4' B2.out (Nat.le_refl _) _ _ _ _⟩
set_option maxHeartbeats 4000000 in
theorem RScore_ok(x:Nat)(hx:x < 18446744073709551616)(hv:Sc.valid x=true)(w:World):Calls Try.prog 20 #[.float .f64 x] w (ScQ x w):=by
 have e1:scE x=0:=by unfold scE;rw[hv];rfl
 have e2:scN x=.mk 2 0 (Sc.beb x 8) []:=by unfold scN;rw[hv];rfl
 unfold ScQ
 rw[e1,e2]
 have CB:=Lib.hid (fun u=>show Calls _ _ #[.float .f64 x] u (fun e w'=>∃A c,e=.returned (.tuple #[.slice A 8 c,.int .i64 0])∧Pc w' (A,8,c,Sc.beb x 8)∧(∀a,A=some a→u.heap.size≤a.block)∧Below u.heap.size u w') from(Sc.rbytes_ok x u hx hv).mono fun e w' ⟨v,h1,h2,h3⟩=>by
  obtain⟨A,cp,rfl,s1,s2,s3,-, s5⟩:=Sl.own h2
  exact⟨A,cp,h1,⟨(Sc.beb_length x 8).symm,by rw[show(((A,8,cp,Sc.beb x 8):Rw).2.2.2).length=8 from Sc.beb_length x 8];exact s1,beb_lt x 8,by rw[show(((A,8,cp,Sc.beb x 8):Rw).2.2.2).length=8 from Sc.beb_length x 8];exact s3,s2⟩,fun a e=>(s5 a e).1,h3⟩)
 have B0:=Lib.hid (below_one w nod0)
 have NW:=Lib.hid (Bl.new_ w 26 #[.int .i64 0,.int .u64 0,.slice none 0 0,.slice none 0 0])
 clear e1 e2 hx hv
 go_enter Try.func20,Try.ntmps20
 go_wp2_with (first
  |(go_at_call 60;(refine(CB.out _).mono ?_);rintro e w1 ⟨A1,c1',rfl,hp1,ha1,hb1⟩;have P1:=Lib.hid hp1;have HA1:=Lib.hid ha1;have B1:=Lib.hid (show Below w.heap.size w w1 from B0.out.trans (hb1.mono B0.out.size));have N1:=Lib.hid (NW.out.below' hb1);clear hp1 ha1 hb1)
  |(go_at_call 26;(refine(RBytes_any _ P1.out).mono ?_);rintro e w2 ⟨rfl,hok,hb2⟩;simp only[Tv.val,Tv.row];have O2:=Lib.hid hok;have A2':=Lib.hid (show ∀a,A1=some a→w.heap.size < a.block from fun a e=>Nat.lt_of_lt_of_le (by simp) (HA1.out a e));have B2:=Lib.hid (show Below w.heap.size w w2 from B1.out.trans (hb2.mono B1.out.size));have N2:=Lib.hid (N1.out.below' hb2);have d0:w2.cell? ⟨w.heap.size,0,none⟩=some (.int .i64 0):=N2.out.cell_ rfl;have y0:=N2.out.frozen 0;have d1:w2.cell? ⟨w.heap.size,1,none⟩=some (.int .u64 0):=N2.out.cell_ rfl;have y1:=N2.out.frozen 1;have d2:w2.cell? ⟨w.heap.size,2,none⟩=some (.slice none 0 0):=N2.out.cell_ rfl;have y2:=N2.out.frozen 2;have d3:w2.cell? ⟨w.heap.size,3,none⟩=some (.slice none 0 0):=N2.out.cell_ rfl;have y3:=N2.out.frozen 3;clear hok hb2))
 have hPc:Ok (st4 w2 w.heap.size (.int .i64 2) (.int .u64 0) (.slice A1 8 c1') (.slice none 0 0)) (.mk 2 0 (A1,8,c1',Sc.beb x 8) none 0 []):=by
  have h:=O2.out
  cases h with
  |mk hn hr hs hm hc h0 hk=>exact ok_leaf (by decide) ⟨hr.len,Sl.kept hr.row (fun ad e hn _=>st4_keep w2 _ _ _ _ (by have:=A2'.out ad e;omega)),hr.lt,hr.cap,hr.nil⟩
 exact⟨rfl,_,results_c2 rfl _ _ _ ⟨w.heap.size,0,none⟩ _ _ (by kernel_rfl) rfl (run_loadVar_row _ w.heap.size 26 26 #[.int .i64 2,.int .u64 0,.slice A1 8 c1',.slice none 0 0] (0,0) _ (st4_bl N2.out _ _ _ _) Try.underlying26 rfl size34),.mk 2 0 (A1,8,c1',Sc.beb x 8) none 0 [],rfl,rfl,hPc,below_st4' B2.out (Nat.le_refl _) _ _ _ _⟩
theorem Score_any(x:Nat)(hx:x < 18446744073709551616)(w:World):Calls Try.prog 19 #[.float .f64 x] w (ScQ x w):=by
 cases h:Sc.valid x with
 |true=>exact Score_ok x hx h w
 |false=>exact Score_bad x hx h w
theorem RScore_any(x:Nat)(hx:x < 18446744073709551616)(w:World):Calls Try.prog 20 #[.float .f64 x] w (ScQ x w):=by
 cases h:Sc.valid x with
 |true=>exact RScore_ok x hx h w
 |false=>exact RScore_bad x hx h w
end Go.Proofs.Ytkahelhoaihajaa.Wr
