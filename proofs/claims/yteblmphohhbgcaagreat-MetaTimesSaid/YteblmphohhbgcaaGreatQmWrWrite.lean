/- Joined texts. -/
import Derived.Test.YteblmphohhbgcaaGreatQmWrValueD
set_option linter.unusedVariables false
namespace Go.Proofs.YteblmphohhbgcaaGreat.Wr
open Go.RowKit Go.Proofs.YteblmphohhbgcaaGreat.Gn Go.Proofs.YteblmphohhbgcaaGreat.Fd Go.Deep
theorem sz_mem:∀ {ks:List Tv} {t:Tv},t∈ks→sz t≤szs ks
 | [],t,h=>(List.not_mem_nil h).elim
 |x :: xs,t,h=>by
  rw[szs]
  rcases List.mem_cons.1 h with rfl|h
  ·omega
  ·have:=sz_mem h;omega
theorem wvalue_any{w0:World}{v:Tv}(hv:Ok w0 v):right v=true→∀ {w:World} {g:Nat} {a b c d k:Int} {l:List Nat} {T:Value},w0.heap.size≤g→Below w0.heap.size w0 w→Wt w g a b c d k l T→0≤d→d≤9223372036854775807→0≤k→k+sz v≤1000000→l.length+10*sz v≤800000→∀deep:Int,0≤deep→deep+sz v≤4000000 →
  Calls Tryz.prog 119 #[.pointer (some ⟨g,0,none⟩),v.val,.int .i64 deep] w (WvQ (wgo b c d v deep k) w g a b c d l T (wb v)):=by
 induction hv with
 | @mk K n r A cc ks hn hr hs hm hc h0 hk ih =>
 intro hri w g a b c d k l T hg hb h d0 d1 k0 k1 hl deep dp0 dp1
 rw[sz] at k1 hl dp1
 rw[wgo,wb]
 show Calls _ _ #[_,.agg #[.int .i64 K,.int .u64 (n:Int),.slice r.1 r.2.1 r.2.2.1,.slice A ks.length cc],_] w _
 have glt:g < w.heap.size:=Bl.lt (t:=162) h.row
 by_cases hd:b < deep
 ·rw[if_pos hd]
  refine(wvalue_deep h K n r A ks.length cc deep hd).mono ?_
  rintro e w' ⟨⟨x,rfl⟩,hb'⟩
  exact⟨T,Fr.of g T hb',hb'.mono (Nat.le_of_lt glt),.inr ⟨by show(23:Int)≠0;decide,x,rfl⟩⟩
 rw[if_neg hd]
 by_cases hkc:k=c
 ·rw[if_pos hkc]
  subst hkc
  refine(wvalue_many h K n r A ks.length cc deep hd).mono ?_
  rintro e w' ⟨⟨x,rfl⟩,hb'⟩
  exact⟨T,Fr.of g T hb',hb'.mono (Nat.le_of_lt glt),.inr ⟨by show(24:Int)≠0;decide,x,rfl⟩⟩
 rw[if_neg hkc]
 have hbw:∀u,Below g w u→Below w0.heap.size w0 u:=fun u hu=>hb.trans (hu.mono hg)
 rw[right] at hri
 by_cases h1:K=1
 ·subst h1
  simp only[show((1:Int)=2)=False by decide,show((1:Int)=3)=False by decide,if_false,if_true]
  exact wvalue_head h 1 n r A ks.length cc deep hd hkc k0 (by omega) rfl (by omega) hn
 rw[if_neg h1] at hri
 by_cases h2:K=2
 ·subst h2
  simp only[show((2:Int)=1)=False by decide,if_false,if_true]
  by_cases hd2:d < (r.2.1:Int)
  ·rw[if_pos hd2]
   have:=wvalue_long h 2 n r A ks.length cc deep hd hkc k0 (by omega) rfl (by omega) (fun u hu=>hr.below (hbw u hu)) d0 d1 hd2
   refine this.mono ?_
   rintro e w' ⟨T',h1,h2,h3⟩
   refine⟨T',h1,h2,.inr ?_⟩
   rcases h3 with⟨h3,-⟩|h3
   ·exact absurd h3 (by show ¬(2:Int)=0;decide)
   ·exact h3
  ·rw[if_neg hd2]
   exact wvalue_bytes h 2 n r A ks.length cc deep hd hkc k0 (by omega) rfl (by omega) (fun u hu=>hr.below (hbw u hu)) d0 d1 hd2
 rw[if_neg h2] at hri
 by_cases h3:K=3
 ·subst h3
  rw[if_pos rfl,Bool.and_eq_true,Bool.and_eq_true] at hri
  simp only[show((3:Int)=2)=False by decide,show((3:Int)=1)=False by decide,if_false,if_true]
  have hle:=szs_len ks
  refine wvalue_list h 3 n r A ks.length cc ks deep hd hkc k0 (by omega) rfl (by omega) rfl (by omega) (fun u hu=>hs.below (hbw u hu)) dp0 (by omega) (by omega) (fun t ht=>wb_sz (hk t ht) (by have:=sz_mem ht;omega)) ?_
  intro t ht u kj lj Tj hu hW k0' k1' hl'
  have hz:=sz_mem ht
  exact ih t ht (rights_mem hri.2 t ht) hg (hbw u hu) hW d0 d1 k0' k1' hl' (deep+1) (by omega) (by omega)
 ·rw[if_neg h3] at hri;cases hri
def wer(a b c d:Int)(v:Tv):Int:=if right v=true then(if(wgo b c d v 1 0).1=0 then(if a < ((wb v).length:Int) then 2 else 0) else(wgo b c d v 1 0).1) else 21
def WoQ(er:Int)(w:World)(g:Nat)(a b c d:Int)(T:Value)(bs:List Nat)(e:Ending)(w':World):Prop :=
 ∃T',Fr w w' g T T'∧Below g w w'∧((er=0∧e=.returned (.tuple #[])∧∃k,Wt w' g a b c d k bs T')∨(er≠0∧∃at_,e=pan at_ er))
set_option maxHeartbeats 4000000 in
set_option maxRecDepth 100000 in
theorem wwhole_any{w0:World}{v:Tv}(hv:Ok w0 v){w:World}{g:Nat}{a b c d:Int}{T:Value}(hg:w0.heap.size≤g)(hb:Below w0.heap.size w0 w)(h:Wt w g a b c d 0 [] T)(d0:0≤d)(d1:d≤9223372036854775807)(hz:sz v≤70000) :
  Calls Tryz.prog 96 #[.pointer (some ⟨g,0,none⟩),v.val] w (WoQ (wer a b c d v) w g a b c d T (wb v)):=by
 have glt:g < w.heap.size:=Bl.lt (t:=162) h.row
 have HV:=Lib.hid hv
 have HR:=Lib.hid (fun u (hu:Below w0.heap.size w0 u)=>Right_any hv u hu)
 have HC:=Lib.hid (fun(hr:right v=true) (u:World) (hu:Below w0.heap.size w0 u) (hW:Wt u g a b c d 0 [] T)=>wvalue_any hv hr hg hu hW d0 d1 (Int.le_refl _) (by omega) (by simp;omega) 1 (by decide) (by omega))
 have ZL:=Lib.hid (wb_sz hv (by omega))
 have HZ:=Lib.hid hz
 have H:=Lib.hid h
 have HB:=Lib.hid hb
 obtain⟨wv,hwv⟩:∃x,wgo b c d v 1 0=x:=⟨_,rfl⟩
 obtain⟨bs,hbs⟩:∃x,wb v=x:=⟨_,rfl⟩
 have EW:wer a b c d v=if right v=true then(if wv.1=0 then(if a < (bs.length:Int) then 2 else 0) else wv.1) else 21:=by rw[wer,hwv,hbs]
 rw[hwv,hbs] at HC
 rw[hbs] at ZL ⊢
 generalize hrv:right v=rb at *
 generalize wer a b c d v=er at *
 clear hv h hb d0 d1 hz hwv hbs
 cases v with
 |mk K n r A cc ks =>
 obtain⟨m,hm⟩:∃m,ks.length=m:=⟨_,rfl⟩
 have A0:=Lib.hid (below_one w (.cells #[.int .i64 K,.int .u64 (n:Int),.slice r.1 r.2.1 r.2.2.1,.slice A m cc] 75))
 have N0:=Lib.hid (Bl.new_ w 75 #[.int .i64 K,.int .u64 (n:Int),.slice r.1 r.2.1 r.2.2.1,.slice A m cc])
 have A1:=Lib.hid (HB.out.trans (A0.out.mono HB.out.size))
 simp only[Tv.val,Tv.row,hm] at HR HC ⊢
 clear hm
 cases rb with
 |false =>
  have CR:=Lib.hid (HR.out _ A1.out)
  rw[EW,if_neg (by decide)]
  go_enter Tryz.func96,Tryz.ntmps96
  go_wp2_with (go_at_call 118;(refine CR.out.mono ?_);rintro e w1 ⟨rfl,hb1⟩;have B1:=Lib.hid (A0.out.trans (hb1.mono A0.out.size));clear hb1)
  exact⟨rfl,T,Fr.of g T B1.out,B1.out.mono (Nat.le_of_lt glt),.inr ⟨by decide,_,rfl⟩⟩
 |true =>
  have CR:=Lib.hid (HR.out _ A1.out)
  by_cases hw:wv.1=0
  ·have ER:=Lib.hid (show er=_ from EW.trans ((if_pos rfl).trans (if_pos hw)))
   have VV:=Lib.hid (fun(u:World) (hu:Below w.heap.size w u)=>(HC.out rfl u (HB.out.trans (hu.mono HB.out.size)) (H.out.below hu)).mono fun e w' ⟨T',h1,h2,h3⟩=>(show e=Ending.returned (.tuple #[])∧∃T',Fr u w' g T T'∧Below g u w'∧Wt w' g a b c d wv.2 bs T' from by
    rcases h3 with⟨-, h3,h4⟩|⟨h3,-⟩
    ·exact⟨h3,T',h1,h2,by simpa using h4⟩
    ·exact(h3 hw).elim))
   clear hw HC HR EW
   go_enter Tryz.func96,Tryz.ntmps96
   go_wp2_with (first
    |(go_at_call 118;(refine CR.out.mono ?_);rintro e w1 ⟨rfl,hb1⟩;have B1:=Lib.hid (A0.out.trans (hb1.mono A0.out.size));have N1:=Lib.hid (N0.out.below' hb1);have z0:w1.cell? ⟨w.heap.size,0,none⟩=some (.int .i64 K):=N1.out.cell_ rfl;have z1:w1.cell? ⟨w.heap.size,1,none⟩=some (.int .u64 (n:Int)):=N1.out.cell_ rfl;have z2:w1.cell? ⟨w.heap.size,2,none⟩=some (.slice r.1 r.2.1 r.2.2.1):=N1.out.cell_ rfl;have z3:w1.cell? ⟨w.heap.size,3,none⟩=some (.slice A m cc):=N1.out.cell_ rfl;have VC:=Lib.hid (VV.out w1 B1.out);clear hb1)
    |(go_at_call 119;(refine VC.out.mono ?_);rintro e w2 ⟨rfl,T2,h1,h2,h3⟩;obtain⟨E2,cap2,rfl,-, -, -, -, -⟩:=Sl.own h3.own;have F2:=Lib.hid ((Fr.of g T B1.out).trans h1);have B2:=Lib.hid ((B1.out.mono (Nat.le_of_lt glt)).trans h2);have W2:=Lib.hid h3;have y5:w2.cell? ⟨g,5,none⟩=some (.slice E2 bs.length cap2):=h3.row.cell_ rfl;have y0:w2.cell? ⟨g,0,none⟩=some (.int .i64 a):=h3.row.cell_ rfl;clear h1 h2 h3))
   by_cases hl:a < (bs.length:Int)
   ·have E2:=Lib.hid (ER.out.trans (if_pos hl))
    clear ER
    go_quiet (fail)
    go_wp2_with fail
    exact⟨rfl,_,F2.out.trans (Fr.of g _ (below_drewN (Below.refl _ w2) _)),below_drewN B2.out _,.inr ⟨by rw[E2.out];decide,_,by rw[E2.out]⟩⟩
   ·have E2:=Lib.hid (ER.out.trans (if_neg hl))
    clear ER
    go_quiet (fail)
    go_wp2_with fail
    first|go_end0|refine bodyPost_ret (results_none rfl _ _ _) rfl ?_
    exact⟨_,F2.out.trans (Fr.of g _ (below_drewN (Below.refl _ w2) _)),below_drewN B2.out _,.inl ⟨E2.out,rfl,_,W2.out.below (below_drewN (Below.refl _ w2) _)⟩⟩
  ·have ER:=Lib.hid (show er=_ from EW.trans ((if_pos rfl).trans (if_neg hw)))
   have VV:=Lib.hid (fun(u:World) (hu:Below w.heap.size w u)=>(HC.out rfl u (HB.out.trans (hu.mono HB.out.size)) (H.out.below hu)).mono fun e w' ⟨T',h1,h2,h3⟩=>(show(∃at_,e=pan at_ wv.1)∧∃T',Fr u w' g T T'∧Below g u w' from by
    rcases h3 with⟨h3,-⟩|⟨-, h3⟩
    ·exact(hw h3).elim
    ·exact⟨h3,T',h1,h2⟩))
   have HW:=Lib.hid hw
   clear hw HC HR EW
   go_enter Tryz.func96,Tryz.ntmps96
   go_wp2_with (first
    |(go_at_call 118;(refine CR.out.mono ?_);rintro e w1 ⟨rfl,hb1⟩;have B1:=Lib.hid (A0.out.trans (hb1.mono A0.out.size));have N1:=Lib.hid (N0.out.below' hb1);have z0:w1.cell? ⟨w.heap.size,0,none⟩=some (.int .i64 K):=N1.out.cell_ rfl;have z1:w1.cell? ⟨w.heap.size,1,none⟩=some (.int .u64 (n:Int)):=N1.out.cell_ rfl;have z2:w1.cell? ⟨w.heap.size,2,none⟩=some (.slice r.1 r.2.1 r.2.2.1):=N1.out.cell_ rfl;have z3:w1.cell? ⟨w.heap.size,3,none⟩=some (.slice A m cc):=N1.out.cell_ rfl;have VC:=Lib.hid (VV.out w1 B1.out);clear hb1)
    |(go_at_call 119;(refine VC.out.mono ?_);rintro e w2 ⟨⟨x,rfl⟩,T2,h1,h2⟩;have F2:=Lib.hid ((Fr.of g T B1.out).trans h1);have B2:=Lib.hid ((B1.out.mono (Nat.le_of_lt glt)).trans h2);clear h1 h2))
   exact⟨rfl,T2,F2.out,B2.out,.inr ⟨by rw[ER.out];exact HW.out,x,by rw[ER.out]⟩⟩
end Go.Proofs.YteblmphohhbgcaaGreat.Wr
namespace Go.Proofs.YteblmphohhbgcaaGreat.Wr
open Go.RowKit Go.Proofs.YteblmphohhbgcaaGreat.Gn Go.Proofs.YteblmphohhbgcaaGreat.Fd Go.Deep
set_option maxHeartbeats 4000000 in
set_option maxRecDepth 100000 in
theorem Write1_any {w0 : World} {v : Tv} (hv : Ok w0 v) {u : World} {g p q : Nat} {a b c d : Int} {T : Value} (hg : w0.heap.size ≤ g) (hb : Below w0.heap.size w0 u) (h : Wt u g a b c d 0 [] T) (d0 : 0 ≤ d) (d1 : d ≤ 9223372036854775807) (hz : sz v ≤ 70000) (hp : u.cell? ⟨p, 0, none⟩ = some (.pointer (some ⟨g, 0, none⟩))) (hq : Bl u q 75 v.row.toArray) :
    Calls Tryz.prog 95 #[.pointer (some ⟨p, 0, none⟩), .pointer (some ⟨q, 0, none⟩)] u (WoQ (wer a b c d v) u g a b c d T (wb v)) := by
  have CW := Lib.hid (wwhole_any hv hg hb h d0 d1 hz)
  generalize wer a b c d v = er at *
  generalize wb v = bs at *
  clear hv hb h d0 d1 hz
  cases v with
  | mk K n r A cc ks =>
  obtain ⟨m, hm⟩ : ∃ m, ks.length = m := ⟨_, rfl⟩
  simp only [Tv.val, Tv.row, hm] at CW hq
  have z0 : u.cell? ⟨q, 0, none⟩ = some (.int .i64 K) := hq.cell_ rfl
  have z1 : u.cell? ⟨q, 1, none⟩ = some (.int .u64 (n : Int)) := hq.cell_ rfl
  have z2 : u.cell? ⟨q, 2, none⟩ = some (.slice r.1 r.2.1 r.2.2.1) := hq.cell_ rfl
  have z3 : u.cell? ⟨q, 3, none⟩ = some (.slice A m cc) := hq.cell_ rfl
  clear hq hm
  by_cases her : er = 0
  · have CO := Lib.hid (CW.out.mono fun e w' ⟨T', h1, h2, h3⟩ => (show e = Ending.returned (.tuple #[]) ∧ WoQ er u g a b c d T bs (.returned (.tuple #[])) w' from by
      rcases h3 with ⟨h3, rfl, h4⟩ | ⟨h3, -⟩
      · exact ⟨rfl, T', h1, h2, .inl ⟨h3, rfl, h4⟩⟩
      · exact (h3 her).elim))
    clear her CW
    go_enter Tryz.func95, Tryz.ntmps95
    go_wp2_with (go_at_call 96; (refine CO.out.mono ?_); rintro e w1 ⟨rfl, h1⟩; have H1 := Lib.hid h1; clear h1)
    first | go_end0 | refine bodyPost_ret (results_none rfl _ _ _) rfl ?_
    exact H1.out
  · have CO := Lib.hid (CW.out.mono fun e w' ⟨T', h1, h2, h3⟩ => (show ∃ x, e = pan x er ∧ WoQ er u g a b c d T bs (pan x er) w' from by
      rcases h3 with ⟨h3, -⟩ | ⟨h3, x, rfl⟩
      · exact (her h3).elim
      · exact ⟨x, rfl, T', h1, h2, .inr ⟨h3, x, rfl⟩⟩))
    clear her CW
    go_enter Tryz.func95, Tryz.ntmps95
    go_wp2_with (go_at_call 96; (refine CO.out.mono ?_); rintro e w1 ⟨x, rfl, h1⟩; have H1 := Lib.hid h1; clear h1)
    exact ⟨rfl, H1.out⟩
theorem A1x(w:World)(o o':Obj)(B:Nat):Below w.heap.size (w.alloc o) ((w.alloc o).alloc o'):=(below_one (w.alloc o) o').mono (by simp)
theorem own_nil'{w:World}{base:Nat}{e:TypeId}:w.ownsRow base e 1 (.slice none 0 0) ([]:List Nat).length (bl []):=⟨rfl,.inl ⟨rfl,rfl⟩⟩
theorem faultOf_some(caps:Array Value)(w:World)(b:Int)(R:World→Prop)(hR:∀w2,R w2→w2.heap[w.heap.size]?=some (.cells #[.int .i64 0,.int .i64 0] 164 (0,0)))
  (hc:Calls Tryz.prog 95 caps (w.alloc (.cells #[.int .i64 0,.int .i64 0] 164)) fun e w2=>(∃a,e=.panicked [{ v:=.iface 164 (flt a b),recovered:=false }])∧R w2) :
  Calls Tryz.prog 94 #[.func (.func 95) #[] caps] w fun e w'=>(∃a,e=.returned (flt a b))∧∃w2,R w2∧w2.grownBy w' (some w.heap.size):=by
 have hmf:∀(fn:Fn) (first cap:Array Value) (w:World),(Instr.makeFunc fn first cap).run Tryz.prog w=.ok (.func fn first cap) w:=fun _ _ _ _=>rfl
 have HC:=Lib.hid hc
 have HR:=Lib.hid hR
 clear hc hR
 go_enter_defers Tryz.func94,Tryz.ntmps94
 go_wp2_with (go_at_call 95;(refine HC.out.mono ?_);rintro e w2 ⟨⟨a,rfl⟩,hr⟩;have R2:=Lib.hid hr;have hh:=Lib.hid (HR.out w2 hr);clear hr)
 have HL:=Lib.hid (show Bl (((w2.setCell ⟨w.heap.size,0,none⟩ (.int .i64 a)).setCell ⟨w.heap.size,1,none⟩ (.int .i64 b)).alloc (.cells #[.int .i64 a,.int .i64 b] 164)) w.heap.size 164 #[.int .i64 a,.int .i64 b] from(((show Bl w2 w.heap.size 164 #[.int .i64 0,.int .i64 0] from hh.out).set_ 0 (.int .i64 a)).set_ 1 (.int .i64 b)).alloc _)
 have HG:=Lib.hid (show w2.grownBy (((w2.setCell ⟨w.heap.size,0,none⟩ (.int .i64 a)).setCell ⟨w.heap.size,1,none⟩ (.int .i64 b)).alloc (.cells #[.int .i64 a,.int .i64 b] 164)) (some w.heap.size) from(only_set (only_set (World.grownBy.refl w2 (some w.heap.size)) (p:=⟨w.heap.size,0,none⟩) (Or.inl rfl) (.int .i64 a)) (p:=⟨w.heap.size,1,none⟩) (Or.inl rfl) (.int .i64 b)).alloc_ _)
 refine leaves_cons (f:=117) (args:=#[.pointer (some ⟨w.heap.size,0,none⟩)]) (by simp) (by simp[go_sem]) ?_
 refine(catch_panicking w.heap.size 0 0 a b [] _ ?_ ?_ ?_ ?_ ?_).mono ?_
 ·rw[cell_of_row _ _ _ _ _ _ hh.out];rfl
 ·rw[cell_of_row _ _ _ _ _ _ hh.out];rfl
 ·simp[World.frozen?,hh.out]
 ·simp[World.frozen?,hh.out]
 ·exact Bl.lt (t:=164) hh.out
 rintro e u' w'' ⟨rfl,rfl,rfl⟩
 refine⟨_,results_c rfl _ _ _ ⟨w.heap.size,0,none⟩ _ (by kernel_rfl) (run_loadVar_row _ w.heap.size 164 164 #[.int .i64 a,.int .i64 b] (0,0) _ HL.out Tryz.underlying164 rfl size97),⟨a,rfl⟩,w2,R2.out,HG.out⟩
def WtQ(er:Int)(bs:List Nat)(w:World)(e:Ending)(w':World):Prop :=
 Below w.heap.size w w'∧((er=0∧∃T',e=.returned (.tuple #[T',.int .i64 0])∧w'.ownsRow w.heap.size 5 1 T' bs.length (bl bs))∨(er≠0∧e=.returned (.tuple #[.slice none 0 0,.int .i64 er])))
set_option maxHeartbeats 4000000 in
set_option maxRecDepth 100000 in
theorem Write_any {w : World} {v : Tv} (hv : Ok w v) (a b c d : Int) (d1 : d ≤ 9223372036854775807) (hz : sz v ≤ 70000) :
    Calls Tryz.prog 66 #[v.val, lim a b c d] w (WtQ (wer (max a 0) (max b 0) (max c 0) (max d 0) v) (wb v) w) := by
  have C1 := Lib.hid (fun (u : World) (g p : Nat) (T : Value) (hg : w.heap.size ≤ g) (hb : Below w.heap.size w u) (h : Wt u g (max a 0) (max b 0) (max c 0) (max d 0) 0 [] T) hp hq => Write1_any hv (p := p) (q := w.heap.size) hg hb h (by omega) (by omega) hz hp hq)
  have CRo := Lib.hid (fun u => roomOf_any a b c d u)
  generalize wer (max a 0) (max b 0) (max c 0) (max d 0) v = er at *
  generalize wb v = bs at *
  generalize max a 0 = a1 at *
  generalize max b 0 = b1 at *
  generalize max c 0 = c1 at *
  generalize max d 0 = d1 at *
  clear hv hz
  cases v with
  | mk K n r A cc ks =>
  obtain ⟨m, hm⟩ : ∃ m, ks.length = m := ⟨_, rfl⟩
  simp only [Tv.val, Tv.row, hm] at C1 ⊢
  clear hm
  have A0 := Lib.hid (below_one w (.cells #[.int .i64 K, .int .u64 (n : Int), .slice r.1 r.2.1 r.2.2.1, .slice A m cc] 75))
  have N0 := Lib.hid (Bl.new_ w 75 #[.int .i64 K, .int .u64 (n : Int), .slice r.1 r.2.1 r.2.2.1, .slice A m cc])
  go_enter Tryz.func66, Tryz.ntmps66
  go_wp2_with (go_at_call 93; (refine (CRo.out _).mono ?_); rintro e w1 ⟨rfl, hb⟩; have B1 := Lib.hid hb; clear hb)
  have BW := Lib.hid (show Below w.heap.size w w1 from A0.out.trans ((A1x w _ _ 0).trans (B1.out.mono (by simp; omega))))
  have NW := Lib.hid (show Bl w1 w.heap.size 75 _ from ((N0.out.alloc _).below' B1.out))
  obtain ⟨U, hU⟩ : ∃ U, ((w1.alloc (.cells #[.int .i64 a1, .int .i64 b1, .int .i64 c1, .int .i64 d1, .int .i64 0, .slice none 0 0] 162)).alloc (.cells #[.pointer (some ⟨w1.heap.size, 0, none⟩)] 157)) = U := ⟨_, rfl⟩
  have BU := Lib.hid (show Below w1.heap.size w1 U from by rw [← hU]; exact ((Below.refl _ w1).alloc (Nat.le_refl _) _).alloc (by simp) _)
  have GU := Lib.hid (show Bl U w1.heap.size 162 #[.int .i64 a1, .int .i64 b1, .int .i64 c1, .int .i64 d1, .int .i64 0, .slice none 0 0] from by rw [← hU]; exact (Bl.new_ w1 _ _).alloc _)
  have PU := Lib.hid (show Bl U (w1.heap.size + 1) 157 #[.pointer (some ⟨w1.heap.size, 0, none⟩)] from by rw [← hU]; exact Bl.new' (g := w1.heap.size + 1) _ _ (by simp))
  have SU := Lib.hid (show U.heap.size = w1.heap.size + 2 from by rw [← hU]; simp)
  have NU := Lib.hid (show Bl U w.heap.size 75 _ from NW.out.below' BU.out)
  have BF := Lib.hid (below_one U (.cells #[.int .i64 0, .int .i64 0] 164))
  have SF := Lib.hid (show (U.alloc (.cells #[.int .i64 0, .int .i64 0] 164)).heap.size = U.heap.size + 1 from by simp)
  have W0 := Lib.hid (show Wt (U.alloc (.cells #[.int .i64 0, .int .i64 0] 164)) w1.heap.size a1 b1 c1 d1 0 [] (.slice none 0 0) from ⟨GU.out.alloc _, own_nil'⟩)
  have CX := Lib.hid (C1.out (U.alloc (.cells #[.int .i64 0, .int .i64 0] 164)) w1.heap.size (w1.heap.size + 1) (.slice none 0 0) BW.out.size ((BW.out.trans (BU.out.mono BW.out.size)).trans (BF.out.mono (Nat.le_trans BW.out.size BU.out.size))) W0.out ((PU.out.alloc _).cell_ rfl) (NU.out.alloc _))
  have FX := Lib.hid (show ∀ T' w2, Fr (U.alloc (.cells #[.int .i64 0, .int .i64 0] 164)) w2 w1.heap.size (.slice none 0 0) T' → w2.heap[U.heap.size]? = some (.cells #[.int .i64 0, .int .i64 0] 164 (0, 0)) from fun T' w2 h => (h.keep U.heap.size (by rw [SF.out]; omega) (by rw [SU.out]; omega) (by simp [Value.ownBlock])).trans (Bl.new_ U _ _))
  have PX := Lib.hid (show ∀ T' w2, Fr (U.alloc (.cells #[.int .i64 0, .int .i64 0] 164)) w2 w1.heap.size (.slice none 0 0) T' → Bl w2 (w1.heap.size + 1) 157 #[.pointer (some ⟨w1.heap.size, 0, none⟩)] from fun T' w2 h => h.bl (PU.out.alloc _) (by omega) (by simp [Value.ownBlock]))
  rw [hU]
  clear hU C1
  by_cases her : er = 0
  · have CF := Lib.hid (faultOf_ret #[.pointer (some ⟨w1.heap.size + 1, 0, none⟩), .pointer (some ⟨w.heap.size, 0, none⟩)] U (fun w2 => ∃ T', Fr (U.alloc (.cells #[.int .i64 0, .int .i64 0] 164)) w2 w1.heap.size (.slice none 0 0) T' ∧ Below w1.heap.size (U.alloc (.cells #[.int .i64 0, .int .i64 0] 164)) w2 ∧ ∃ k, Wt w2 w1.heap.size a1 b1 c1 d1 k bs T') (fun w2 ⟨T', h1, _⟩ => FX.out T' w2 h1) (CX.out.mono fun e w2 ⟨T', h1, h2, h3⟩ => by
      rcases h3 with ⟨-, rfl, h4⟩ | ⟨h3, -⟩
      · exact ⟨rfl, T', h1, h2, h4⟩
      · exact (h3 her).elim))
    have HE := Lib.hid her
    clear her CX
    refine CF.out.mono ?_
    rintro e w3 ⟨rfl, w2, ⟨T', h1, h2, k, h3⟩, h4⟩
    have F2 := Lib.hid h1
    have B2 := Lib.hid h2
    have W2 := Lib.hid h3
    have G3 := Lib.hid h4
    clear h1 h2 h3 h4
    have P3 := Lib.hid (show Bl w3 (w1.heap.size + 1) 157 _ from (PX.out _ _ F2.out).grown G3.out (by rw [SU.out]; intro e; injection e with e; omega))
    have R3 := Lib.hid (show Bl w3 w1.heap.size 162 _ from W2.out.row.grown G3.out (by rw [SU.out]; intro e; injection e with e; omega))
    have p0 : w3.cell? ⟨w1.heap.size + 1, 0, none⟩ = some (.pointer (some ⟨w1.heap.size, 0, none⟩)) := P3.out.cell_ rfl
    have p5 : w3.cell? ⟨w1.heap.size, 5, none⟩ = some T' := R3.out.cell_ rfl
    have O3 := Lib.hid (W2.out.own.kept G3.out (.inr (fun e => by
      rcases F2.out.own _ e with h | h
      · simp [Value.ownBlock] at h
      · rw [SF.out] at h; omega)))
    have lt3 : w1.heap.size < w3.heap.size := R3.out.lt
    have lt4 : w1.heap.size + 1 < w3.heap.size := P3.out.lt
    have B3 := Lib.hid (show Below w.heap.size w w3 from (BW.out.trans ((BU.out.mono BW.out.size).trans ((BF.out.mono (Nat.le_trans BW.out.size BU.out.size)).trans (B2.out.mono BW.out.size)))).grown G3.out (by have h1 := BW.out.size; have h2 := BU.out.size; have h3 := B2.out.size; rw [SF.out] at h3; omega) (fun k e => by cases e; have h1 := BW.out.size; have h2 := BU.out.size; omega))
    clear CF F2 B2 W2 G3 P3 R3 FX PX W0 SF BF NU SU PU GU BU N0 A0 B1 NW
    generalize hq1 : w1.heap.size = s1 at *
    go_wp2_with fail
    go_ret2
    exact ⟨B3.out.trans ((below_one w3 _).mono B3.out.size), .inl ⟨HE.out, T', rfl, own_base (own_below O3.out (below_one w3 _)) (by have := BW.out.size; omega)⟩⟩
  · have CF := Lib.hid (faultOf_some #[.pointer (some ⟨w1.heap.size + 1, 0, none⟩), .pointer (some ⟨w.heap.size, 0, none⟩)] U er (fun w2 => ∃ T', Fr (U.alloc (.cells #[.int .i64 0, .int .i64 0] 164)) w2 w1.heap.size (.slice none 0 0) T' ∧ Below w1.heap.size (U.alloc (.cells #[.int .i64 0, .int .i64 0] 164)) w2) (fun w2 ⟨T', h1, _⟩ => FX.out T' w2 h1) (CX.out.mono fun e w2 ⟨T', h1, h2, h3⟩ => by
      rcases h3 with ⟨h3, -⟩ | ⟨-, x, rfl⟩
      · exact (her h3).elim
      · exact ⟨⟨x, rfl⟩, T', h1, h2⟩))
    have HE := Lib.hid her
    have her' : ¬ er = 0 := her
    clear CX
    refine CF.out.mono ?_
    rintro e w3 ⟨⟨x, rfl⟩, w2, ⟨T', h1, h2⟩, h4⟩
    have F2 := Lib.hid h1
    have B2 := Lib.hid h2
    have G3 := Lib.hid h4
    clear h1 h2 h4
    have B3 := Lib.hid (show Below w.heap.size w w3 from (BW.out.trans ((BU.out.mono BW.out.size).trans ((BF.out.mono (Nat.le_trans BW.out.size BU.out.size)).trans (B2.out.mono BW.out.size)))).grown G3.out (by have h1 := BW.out.size; have h2 := BU.out.size; have h3 := B2.out.size; rw [SF.out] at h3; omega) (fun k e => by cases e; have h1 := BW.out.size; have h2 := BU.out.size; omega))
    clear CF F2 B2 G3 FX PX W0 SF BF NU SU PU GU BU N0 A0 B1 NW
    generalize hq1 : w1.heap.size = s1 at *
    go_wp2_with fail
    go_quiet (fail)
    go_wp2_with fail
    go_ret2
    exact ⟨below_drewN (B3.out.trans ((below_one w3 _).mono B3.out.size)) _, .inr ⟨HE.out, rfl⟩⟩
end Go.Proofs.YteblmphohhbgcaaGreat.Wr
