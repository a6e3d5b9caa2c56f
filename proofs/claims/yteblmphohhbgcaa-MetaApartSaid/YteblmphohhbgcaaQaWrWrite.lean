/- Joined texts. -/
import Derived.Test.YteblmphohhbgcaaQaWrValueD
set_option linter.unusedVariables false
namespace Go.Proofs.Yteblmphohhbgcaa.Wr
open Go.RowKit Go.Proofs.Yteblmphohhbgcaa.Gn Go.Proofs.Yteblmphohhbgcaa.Fd Go.Deep
theorem sz_mem:∀ {ks:List Tv} {t:Tv},t∈ks→sz t≤szs ks
 | [],t,h=>(List.not_mem_nil h).elim
 |x :: xs,t,h=>by
  rw[szs]
  rcases List.mem_cons.1 h with rfl|h
  ·omega
  ·have:=sz_mem h;omega
theorem wvalue_any{w0:World}{v:Tv}(hv:Ok w0 v):right v=true→∀ {w:World} {g:Nat} {a b c d k:Int} {l:List Nat} {T:Value},w0.heap.size≤g→Below w0.heap.size w0 w→Wt w g a b c d k l T→0≤d→d≤9223372036854775807→0≤k→k+sz v≤1000000→l.length+10*sz v≤800000→∀deep:Int,0≤deep→deep+sz v≤4000000 →
  Calls Try.prog 80 #[.pointer (some ⟨g,0,none⟩),v.val,.int .i64 deep] w (WvQ (wgo b c d v deep k) w g a b c d l T (wb v)):=by
 induction hv with
 | @mk K n r A cc ks hn hr hs hm hc h0 hk ih =>
 intro hri w g a b c d k l T hg hb h d0 d1 k0 k1 hl deep dp0 dp1
 rw[sz] at k1 hl dp1
 rw[wgo,wb]
 show Calls _ _ #[_,.agg #[.int .i64 K,.int .u64 (n:Int),.slice r.1 r.2.1 r.2.2.1,.slice A ks.length cc],_] w _
 have glt:g < w.heap.size:=Bl.lt (t:=121) h.row
 by_cases hd:b < deep
 ·rw[if_pos hd]
  refine(wvalue_deep h K n r A ks.length cc deep hd).mono ?_
  rintro e w' ⟨⟨x,rfl⟩,hb'⟩
  exact⟨T,Fr.of g T hb',hb'.mono (Nat.le_of_lt glt),.inr ⟨by show(23:Int)≠0;decide,x,rfl⟩⟩
 rw[if_neg hd]
 by_cases hkc:k=c
 ·rw[if_pos hkc]
  subst hkc
  refine(wvalue_many h K n r A ks.length cc deep hd).mono ?_
  rintro e w' ⟨⟨x,rfl⟩,hb'⟩
  exact⟨T,Fr.of g T hb',hb'.mono (Nat.le_of_lt glt),.inr ⟨by show(24:Int)≠0;decide,x,rfl⟩⟩
 rw[if_neg hkc]
 have hbw:∀u,Below g w u→Below w0.heap.size w0 u:=fun u hu=>hb.trans (hu.mono hg)
 rw[right] at hri
 by_cases h1:K=1
 ·subst h1
  simp only[show((1:Int)=2)=False by decide,show((1:Int)=3)=False by decide,if_false,if_true]
  exact wvalue_head h 1 n r A ks.length cc deep hd hkc k0 (by omega) rfl (by omega) hn
 rw[if_neg h1] at hri
 by_cases h2:K=2
 ·subst h2
  simp only[show((2:Int)=1)=False by decide,if_false,if_true]
  by_cases hd2:d < (r.2.1:Int)
  ·rw[if_pos hd2]
   have:=wvalue_long h 2 n r A ks.length cc deep hd hkc k0 (by omega) rfl (by omega) (fun u hu=>hr.below (hbw u hu)) d0 d1 hd2
   refine this.mono ?_
   rintro e w' ⟨T',h1,h2,h3⟩
   refine⟨T',h1,h2,.inr ?_⟩
   rcases h3 with⟨h3,-⟩|h3
   ·exact absurd h3 (by show ¬(2:Int)=0;decide)
   ·exact h3
  ·rw[if_neg hd2]
   exact wvalue_bytes h 2 n r A ks.length cc deep hd hkc k0 (by omega) rfl (by omega) (fun u hu=>hr.below (hbw u hu)) d0 d1 hd2
 rw[if_neg h2] at hri
 by_cases h3:K=3
 ·subst h3
  rw[if_pos rfl,Bool.and_eq_true,Bool.and_eq_true] at hri
  simp only[show((3:Int)=2)=False by decide,show((3:Int)=1)=False by decide,if_false,if_true]
  have hle:=szs_len ks
  refine wvalue_list h 3 n r A ks.length cc ks deep hd hkc k0 (by omega) rfl (by omega) rfl (by omega) (fun u hu=>hs.below (hbw u hu)) dp0 (by omega) (by omega) (fun t ht=>wb_sz (hk t ht) (by have:=sz_mem ht;omega)) ?_
  intro t ht u kj lj Tj hu hW k0' k1' hl'
  have hz:=sz_mem ht
  exact ih t ht (rights_mem hri.2 t ht) hg (hbw u hu) hW d0 d1 k0' k1' hl' (deep+1) (by omega) (by omega)
 ·rw[if_neg h3] at hri;cases hri
def wer(a b c d:Int)(v:Tv):Int:=if right v=true then(if(wgo b c d v 1 0).1=0 then(if a < ((wb v).length:Int) then 2 else 0) else(wgo b c d v 1 0).1) else 21
def WoQ(er:Int)(w:World)(g:Nat)(a b c d:Int)(T:Value)(bs:List Nat)(e:Ending)(w':World):Prop :=
 ∃T',Fr w w' g T T'∧Below g w w'∧((er=0∧e=.returned (.tuple #[])∧∃k,Wt w' g a b c d k bs T')∨(er≠0∧∃at_,e=pan at_ er))
set_option maxHeartbeats 4000000 in
set_option maxRecDepth 100000 in
theorem wwhole_any{w0:World}{v:Tv}(hv:Ok w0 v){w:World}{g:Nat}{a b c d:Int}{T:Value}(hg:w0.heap.size≤g)(hb:Below w0.heap.size w0 w)(h:Wt w g a b c d 0 [] T)(d0:0≤d)(d1:d≤9223372036854775807)(hz:sz v≤70000) :
  Calls Try.prog 60 #[.pointer (some ⟨g,0,none⟩),v.val] w (WoQ (wer a b c d v) w g a b c d T (wb v)):=by
 have glt:g < w.heap.size:=Bl.lt (t:=121) h.row
 have HV:=Lib.hid hv
 have HR:=Lib.hid (fun u (hu:Below w0.heap.size w0 u)=>Right_any hv u hu)
 have HC:=Lib.hid (fun(hr:right v=true) (u:World) (hu:Below w0.heap.size w0 u) (hW:Wt u g a b c d 0 [] T)=>wvalue_any hv hr hg hu hW d0 d1 (Int.le_refl _) (by omega) (by simp;omega) 1 (by decide) (by omega))
 have ZL:=Lib.hid (wb_sz hv (by omega))
 have HZ:=Lib.hid hz
 have H:=Lib.hid h
 have HB:=Lib.hid hb
 obtain⟨wv,hwv⟩:∃x,wgo b c d v 1 0=x:=⟨_,rfl⟩
 obtain⟨bs,hbs⟩:∃x,wb v=x:=⟨_,rfl⟩
 have EW:wer a b c d v=if right v=true then(if wv.1=0 then(if a < (bs.length:Int) then 2 else 0) else wv.1) else 21:=by rw[wer,hwv,hbs]
 rw[hwv,hbs] at HC
 rw[hbs] at ZL ⊢
 generalize hrv:right v=rb at *
 generalize wer a b c d v=er at *
 clear hv h hb d0 d1 hz hwv hbs
 cases v with
 |mk K n r A cc ks =>
 obtain⟨m,hm⟩:∃m,ks.length=m:=⟨_,rfl⟩
 have A0:=Lib.hid (below_one w (.cells #[.int .i64 K,.int .u64 (n:Int),.slice r.1 r.2.1 r.2.2.1,.slice A m cc] 80))
 have N0:=Lib.hid (Bl.new_ w 80 #[.int .i64 K,.int .u64 (n:Int),.slice r.1 r.2.1 r.2.2.1,.slice A m cc])
 have A1:=Lib.hid (HB.out.trans (A0.out.mono HB.out.size))
 simp only[Tv.val,Tv.row,hm] at HR HC ⊢
 clear hm
 cases rb with
 |false =>
  have CR:=Lib.hid (HR.out _ A1.out)
  rw[EW,if_neg (by decide)]
  go_enter Try.func60,Try.ntmps60
  go_wp2_with (go_at_call 79;(refine CR.out.mono ?_);rintro e w1 ⟨rfl,hb1⟩;have B1:=Lib.hid (A0.out.trans (hb1.mono A0.out.size));clear hb1)
  exact⟨rfl,T,Fr.of g T B1.out,B1.out.mono (Nat.le_of_lt glt),.inr ⟨by decide,_,rfl⟩⟩
 |true =>
  have CR:=Lib.hid (HR.out _ A1.out)
  by_cases hw:wv.1=0
  ·have ER:=Lib.hid (show er=_ from EW.trans ((if_pos rfl).trans (if_pos hw)))
   have VV:=Lib.hid (fun(u:World) (hu:Below w.heap.size w u)=>(HC.out rfl u (HB.out.trans (hu.mono HB.out.size)) (H.out.below hu)).mono fun e w' ⟨T',h1,h2,h3⟩=>(show e=Ending.returned (.tuple #[])∧∃T',Fr u w' g T T'∧Below g u w'∧Wt w' g a b c d wv.2 bs T' from by
    rcases h3 with⟨-, h3,h4⟩|⟨h3,-⟩
    ·exact⟨h3,T',h1,h2,by simpa using h4⟩
    ·exact(h3 hw).elim))
   clear hw HC HR EW
   go_enter Try.func60,Try.ntmps60
   go_wp2_with (first
    |(go_at_call 79;(refine CR.out.mono ?_);rintro e w1 ⟨rfl,hb1⟩;have B1:=Lib.hid (A0.out.trans (hb1.mono A0.out.size));have N1:=Lib.hid (N0.out.below' hb1);have z0:w1.cell? ⟨w.heap.size,0,none⟩=some (.int .i64 K):=N1.out.cell_ rfl;have z1:w1.cell? ⟨w.heap.size,1,none⟩=some (.int .u64 (n:Int)):=N1.out.cell_ rfl;have z2:w1.cell? ⟨w.heap.size,2,none⟩=some (.slice r.1 r.2.1 r.2.2.1):=N1.out.cell_ rfl;have z3:w1.cell? ⟨w.heap.size,3,none⟩=some (.slice A m cc):=N1.out.cell_ rfl;have VC:=Lib.hid (VV.out w1 B1.out);clear hb1)
    |(go_at_call 80;(refine VC.out.mono ?_);rintro e w2 ⟨rfl,T2,h1,h2,h3⟩;obtain⟨E2,cap2,rfl,-, -, -, -, -⟩:=Sl.own h3.own;have F2:=Lib.hid ((Fr.of g T B1.out).trans h1);have B2:=Lib.hid ((B1.out.mono (Nat.le_of_lt glt)).trans h2);have W2:=Lib.hid h3;have y5:w2.cell? ⟨g,5,none⟩=some (.slice E2 bs.length cap2):=h3.row.cell_ rfl;have y0:w2.cell? ⟨g,0,none⟩=some (.int .i64 a):=h3.row.cell_ rfl;clear h1 h2 h3))
   by_cases hl:a < (bs.length:Int)
   ·have E2:=Lib.hid (ER.out.trans (if_pos hl))
    clear ER
    go_quiet (fail)
    go_wp2_with fail
    exact⟨rfl,_,F2.out.trans (Fr.of g _ (below_drewN (Below.refl _ w2) _)),below_drewN B2.out _,.inr ⟨by rw[E2.out];decide,_,by rw[E2.out]⟩⟩
   ·have E2:=Lib.hid (ER.out.trans (if_neg hl))
    clear ER
    go_quiet (fail)
    go_wp2_with fail
    first|go_end0|refine bodyPost_ret (results_none rfl _ _ _) rfl ?_
    exact⟨_,F2.out.trans (Fr.of g _ (below_drewN (Below.refl _ w2) _)),below_drewN B2.out _,.inl ⟨E2.out,rfl,_,W2.out.below (below_drewN (Below.refl _ w2) _)⟩⟩
  ·have ER:=Lib.hid (show er=_ from EW.trans ((if_pos rfl).trans (if_neg hw)))
   have VV:=Lib.hid (fun(u:World) (hu:Below w.heap.size w u)=>(HC.out rfl u (HB.out.trans (hu.mono HB.out.size)) (H.out.below hu)).mono fun e w' ⟨T',h1,h2,h3⟩=>(show(∃at_,e=pan at_ wv.1)∧∃T',Fr u w' g T T'∧Below g u w' from by
    rcases h3 with⟨h3,-⟩|⟨-, h3⟩
    ·exact(hw h3).elim
    ·exact⟨h3,T',h1,h2⟩))
   have HW:=Lib.hid hw
   clear hw HC HR EW
   go_enter Try.func60,Try.ntmps60
   go_wp2_with (first
    |(go_at_call 79;(refine CR.out.mono ?_);rintro e w1 ⟨rfl,hb1⟩;have B1:=Lib.hid (A0.out.trans (hb1.mono A0.out.size));have N1:=Lib.hid (N0.out.below' hb1);have z0:w1.cell? ⟨w.heap.size,0,none⟩=some (.int .i64 K):=N1.out.cell_ rfl;have z1:w1.cell? ⟨w.heap.size,1,none⟩=some (.int .u64 (n:Int)):=N1.out.cell_ rfl;have z2:w1.cell? ⟨w.heap.size,2,none⟩=some (.slice r.1 r.2.1 r.2.2.1):=N1.out.cell_ rfl;have z3:w1.cell? ⟨w.heap.size,3,none⟩=some (.slice A m cc):=N1.out.cell_ rfl;have VC:=Lib.hid (VV.out w1 B1.out);clear hb1)
    |(go_at_call 80;(refine VC.out.mono ?_);rintro e w2 ⟨⟨x,rfl⟩,T2,h1,h2⟩;have F2:=Lib.hid ((Fr.of g T B1.out).trans h1);have B2:=Lib.hid ((B1.out.mono (Nat.le_of_lt glt)).trans h2);clear h1 h2))
   exact⟨rfl,T2,F2.out,B2.out,.inr ⟨by rw[ER.out];exact HW.out,x,by rw[ER.out]⟩⟩
end Go.Proofs.Yteblmphohhbgcaa.Wr
