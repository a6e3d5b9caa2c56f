/- Joined texts. -/
import Derived.Test.YtkahelhoaihajaaQfWrQInt
import Derived.Test.YtkahelhoaihajaaQfWrQSome
import Derived.Test.YtkahelhoaihajaaQfWrQReal
import Derived.Test.YtkahelhoaihajaaQfWrQValues
set_option linter.unusedVariables false
namespace Go.Proofs.Ytkahelhoaihajaa.Wr
open Go.RowKit Go.Proofs.Ytkahelhoaihajaa.Gn Go.Proofs.Ytkahelhoaihajaa.Fd Go.Deep
set_option maxRecDepth 100000
def kA:Tv→Option Addr
 |.mk _ _ _ A _ _=>A
def kc:Tv→Nat
 |.mk _ _ _ _ c _=>c
theorem dq_cases(F:Tv→Bool)(k:Int)(br:Bool)(ks:List Tv):∃(t:Tv) (ls:List Tv) (ok:Bool),(tk k br ks).1=t∧(tk k br ks).2.2.1=ls∧(tk k br ks).2.2.2=ok∧(tk k br ks).2.1 = !ok∧(ok=false→t=tv0)∧dq F k br ks=(if ok=true then(if F t=true then(t,false,ls) else(tv0,true,ls)) else(tv0,true,ls)):=by
 obtain⟨h1,h2⟩:=@tk_ok k br ks
 refine⟨_,_,_,rfl,rfl,rfl,?_,fun h=>(h2 h).2,?_⟩
 ·cases h:(tk k br ks).2.2.2 with
  |true=>exact h1 h
  |false=>exact(h2 h).1
 ·unfold dq
  cases h:(tk k br ks).2.2.2 with
  |true=>rw[if_pos rfl,if_pos rfl,h1 h]
  |false=>rw[if_neg (by decide),if_neg (by decide),(h2 h).1]
theorem tk_sz{k:Int}{br:Bool}{ks:List Tv}(hz:∀t∈ks,sz t≤1000000):sz (tk k br ks).1≤1000000:=by
 unfold tk
 split
 ·show sz tv0≤1000000;decide
 ·split
  ·show sz tv0≤1000000;decide
  ·split
   ·exact hz _ List.mem_cons_self
   ·show sz tv0≤1000000;decide
theorem RInt_any{w:World}{A:Option Addr}{c:Nat}{br:Bool}{ks:List Tv}(h:Dl w A c ks)(a b:Int):∃A' c',Dl w A' c' (dq (FI a b) 1 br ks).2.2∧Ok w (dq (FI a b) 1 br ks).1∧∀u,Below w.heap.size w u→Calls Try.prog 34 #[.agg #[.slice A ks.length c,.bool br],.int .i64 a,.int .i64 b] u fun e w'=>e=.returned (.tuple #[.int .i64 (nm (dq (FI a b) 1 br ks).1:Int),.agg #[.slice A' (dq (FI a b) 1 br ks).2.2.length c',.bool (dq (FI a b) 1 br ks).2.1]])∧Below u.heap.size u w':=by
 obtain⟨A',c',hd,hok,hT⟩:=Take_any (br:=br) h 1
 obtain⟨t,ls,ok,e1,e2,e3,e4,e5,e6⟩:=dq_cases (FI a b) 1 br ks
 rw[e1] at hok hT
 rw[e2] at hd hT
 rw[e3] at hT
 rw[e4] at hT
 rw[e6]
 clear e1 e2 e3 e4 e6
 cases ok with
 |false =>
  have e7:=e5 rfl
  subst e7
  exact⟨A',c',hd,ok_tv0 _,fun u hu=>Int_miss a b (r:=(none,0,0,[])) fun u2 hu2=>hT u2 (hu.trans (hu2.mono hu.size))⟩
 |true =>
  have hTT:=hT
  obtain⟨K,N,r,B,cc,us⟩:=t
  have hpc:Pc w r:=by cases hok with|mk hn hr hs hm hc h0 hk=>exact hr
  have hT2:∀u,Below w.heap.size w u→∀u2,Below u.heap.size u u2→Calls Try.prog 32 #[.agg #[.slice A ks.length c,.bool br],.int .i64 1] u2 fun e w'=>e=.returned (.tuple #[.agg #[.int .i64 K,.int .u64 (N:Int),.slice r.1 r.2.1 r.2.2.1,.slice B us.length cc],.agg #[.slice A' ls.length c',.bool false],.bool true])∧Below u2.heap.size u2 w':=fun u hu u2 hu2=>hT u2 (hu.trans (hu2.mono hu.size))
  rw[if_pos rfl]
  cases h0:isI N with
  |false =>
   rw[if_neg (by show ¬(isI N && inB (N:Int) a b)=true;rw[h0,Bool.false_and];decide)]
   exact⟨A',c',hd,ok_tv0 _,fun u hu=>Int_great a b (hT2 u hu) h0⟩
  |true =>
   by_cases h1:(N:Int) < a
   ·rw[if_neg (by show ¬(isI N && inB (N:Int) a b)=true;unfold inB;rw[decide_eq_false (show ¬a≤(N:Int) by omega),Bool.false_and,Bool.and_false];decide)]
    exact⟨A',c',hd,ok_tv0 _,fun u hu=>Int_low a b (hT2 u hu) h0 h1⟩
   ·by_cases h2:b < (N:Int)
    ·rw[if_neg (by show ¬(isI N && inB (N:Int) a b)=true;unfold inB;rw[decide_eq_false (show ¬(N:Int)≤b by omega),Bool.and_false,Bool.and_false];decide)]
     exact⟨A',c',hd,ok_tv0 _,fun u hu=>Int_high a b (hT2 u hu) h0 h1 h2⟩
    ·rw[if_pos (by show(isI N && inB (N:Int) a b)=true;unfold inB;rw[h0,decide_eq_true (show a≤(N:Int) by omega),decide_eq_true (show(N:Int)≤b by omega)];rfl)]
     exact⟨A',c',hd,hok,fun u hu=>Int_good a b (hT2 u hu) h0 h1 h2⟩
theorem RSome_any{w:World}{A:Option Addr}{c:Nat}{br:Bool}{ks:List Tv}(h:Dl w A c ks)(a b:Int):∃A' c',Dl w A' c' (dq (FB a b) 2 br ks).2.2∧Ok w (dq (FB a b) 2 br ks).1∧∀u,Below w.heap.size w u→Calls Try.prog 36 #[.agg #[.slice A ks.length c,.bool br],.int .i64 a,.int .i64 b] u fun e w'=>e=.returned (.tuple #[.slice (rw_ (dq (FB a b) 2 br ks).1).1 (rw_ (dq (FB a b) 2 br ks).1).2.1 (rw_ (dq (FB a b) 2 br ks).1).2.2.1,.agg #[.slice A' (dq (FB a b) 2 br ks).2.2.length c',.bool (dq (FB a b) 2 br ks).2.1]])∧Below u.heap.size u w':=by
 obtain⟨A',c',hd,hok,hT⟩:=Take_any (br:=br) h 2
 obtain⟨t,ls,ok,e1,e2,e3,e4,e5,e6⟩:=dq_cases (FB a b) 2 br ks
 rw[e1] at hok hT
 rw[e2] at hd hT
 rw[e3] at hT
 rw[e4] at hT
 rw[e6]
 clear e1 e2 e3 e4 e6
 cases ok with
 |false =>
  have e7:=e5 rfl
  subst e7
  exact⟨A',c',hd,ok_tv0 _,fun u hu=>Some_miss a b (r:=(none,0,0,[])) fun u2 hu2=>hT u2 (hu.trans (hu2.mono hu.size))⟩
 |true =>
  have hTT:=hT
  obtain⟨K,N,r,B,cc,us⟩:=t
  have hpc:Pc w r:=by cases hok with|mk hn hr hs hm hc h0 hk=>exact hr
  have hT2:∀u,Below w.heap.size w u→∀u2,Below u.heap.size u u2→Calls Try.prog 32 #[.agg #[.slice A ks.length c,.bool br],.int .i64 2] u2 fun e w'=>e=.returned (.tuple #[.agg #[.int .i64 K,.int .u64 (N:Int),.slice r.1 r.2.1 r.2.2.1,.slice B us.length cc],.agg #[.slice A' ls.length c',.bool false],.bool true])∧Below u2.heap.size u2 w':=fun u hu u2 hu2=>hT u2 (hu.trans (hu2.mono hu.size))
  rw[if_pos rfl]
  by_cases h1:(r.2.1:Int) < a
  ·rw[if_neg (by show ¬inB (r.2.1:Int) a b=true;unfold inB;rw[decide_eq_false (by omega),Bool.false_and];decide)]
   exact⟨A',c',hd,ok_tv0 _,fun u hu=>Some_low a b (hT2 u hu) h1⟩
  ·by_cases h2:b < (r.2.1:Int)
   ·rw[if_neg (by show ¬inB (r.2.1:Int) a b=true;unfold inB;rw[decide_eq_false (show ¬(r.2.1:Int)≤b by omega),Bool.and_false];decide)]
    exact⟨A',c',hd,ok_tv0 _,fun u hu=>Some_high a b (hT2 u hu) h1 h2⟩
   ·rw[if_pos (by show inB (r.2.1:Int) a b=true;unfold inB;rw[decide_eq_true (by omega),decide_eq_true (by omega)];rfl)]
    exact⟨A',c',hd,hok,fun u hu=>Some_good a b (hT2 u hu) h1 h2⟩
theorem RReal_any{w:World}{A:Option Addr}{c:Nat}{br:Bool}{ks:List Tv}(h:Dl w A c ks)(hz:∀t∈ks,sz t≤1000000):∃A' c',Dl w A' c' (dq (FS) 2 br ks).2.2∧Ok w (dq (FS) 2 br ks).1∧∀u,Below w.heap.size w u→Calls Try.prog 38 #[.agg #[.slice A ks.length c,.bool br]] u fun e w'=>e=.returned (.tuple #[.float .f64 (Sc.rdX (rw_ (dq (FS) 2 br ks).1).2.2.2),.agg #[.slice A' (dq (FS) 2 br ks).2.2.length c',.bool (dq (FS) 2 br ks).2.1]])∧Below u.heap.size u w':=by
 obtain⟨A',c',hd,hok,hT⟩:=Take_any (br:=br) h 2
 obtain⟨t,ls,ok,e1,e2,e3,e4,e5,e6⟩:=dq_cases (FS) 2 br ks
 have hsz:sz t≤1000000:=by rw[←e1];exact tk_sz hz
 rw[e1] at hok hT
 rw[e2] at hd hT
 rw[e3] at hT
 rw[e4] at hT
 rw[e6]
 clear e1 e2 e3 e4 e6
 cases ok with
 |false =>
  have e7:=e5 rfl
  subst e7
  exact⟨A',c',hd,ok_tv0 _,fun u hu=>Real_miss (r:=(none,0,0,[])) fun u2 hu2=>hT u2 (hu.trans (hu2.mono hu.size))⟩
 |true =>
  have hTT:=hT
  obtain⟨K,N,r,B,cc,us⟩:=t
  have hpc:Pc w r:=by cases hok with|mk hn hr hs hm hc h0 hk=>exact hr
  have hT2:∀u,Below w.heap.size w u→∀u2,Below u.heap.size u u2→Calls Try.prog 32 #[.agg #[.slice A ks.length c,.bool br],.int .i64 2] u2 fun e w'=>e=.returned (.tuple #[.agg #[.int .i64 K,.int .u64 (N:Int),.slice r.1 r.2.1 r.2.2.1,.slice B us.length cc],.agg #[.slice A' ls.length c',.bool false],.bool true])∧Below u2.heap.size u2 w':=fun u hu u2 hu2=>hT u2 (hu.trans (hu2.mono hu.size))
  rw[if_pos rfl]
  have hr9:r.2.1≤1000000:=Nat.le_trans (rw_sz (.mk K N r B cc us)) hsz
  have CR:∀u,Below w.heap.size w u→Calls Try.prog 71 #[.slice r.1 r.2.1 r.2.2.1] u fun e w'=>e=.returned (.tuple #[.float .f64 (Sc.rdX r.2.2.2),.int .i64 (Sc.rdE r.2.2.2)])∧u=w':=fun u hu=>Sc.rread_any r.1 r.2.1 r.2.2.1 r.2.2.2 u (by omega) hpc.lt (by have h:=(hpc.below hu).row;rw[←hpc.len] at h;exact⟨h.1,h.2⟩)
  by_cases h1:Sc.rdE r.2.2.2=0
  ·rw[if_pos (by show decide (Sc.rdE r.2.2.2=0)=true;exact decide_eq_true h1)]
   rw[h1] at CR
   exact⟨A',c',hd,hok,fun u hu=>Real_good (hT2 u hu) fun u2 hu2=>CR u2 (hu.trans (hu2.mono hu.size))⟩
  ·rw[if_neg (by show ¬decide (Sc.rdE r.2.2.2=0)=true;rw[decide_eq_false h1];decide)]
   exact⟨A',c',hd,ok_tv0 _,fun u hu=>Real_bad (hT2 u hu) h1 fun u2 hu2=>CR u2 (hu.trans (hu2.mono hu.size))⟩
theorem RValues_any{w:World}{A:Option Addr}{c:Nat}{br:Bool}{ks:List Tv}(h:Dl w A c ks)(a b:Int):∃A' c',Dl w A' c' (dq (FL a b) 3 br ks).2.2∧Ok w (dq (FL a b) 3 br ks).1∧∀u,Below w.heap.size w u→Calls Try.prog 41 #[.agg #[.slice A ks.length c,.bool br],.int .i64 a,.int .i64 b] u fun e w'=>e=.returned (.tuple #[.slice (kA (dq (FL a b) 3 br ks).1) (kids (dq (FL a b) 3 br ks).1).length (kc (dq (FL a b) 3 br ks).1),.agg #[.slice A' (dq (FL a b) 3 br ks).2.2.length c',.bool (dq (FL a b) 3 br ks).2.1]])∧Below u.heap.size u w':=by
 obtain⟨A',c',hd,hok,hT⟩:=Take_any (br:=br) h 3
 obtain⟨t,ls,ok,e1,e2,e3,e4,e5,e6⟩:=dq_cases (FL a b) 3 br ks
 rw[e1] at hok hT
 rw[e2] at hd hT
 rw[e3] at hT
 rw[e4] at hT
 rw[e6]
 clear e1 e2 e3 e4 e6
 cases ok with
 |false =>
  have e7:=e5 rfl
  subst e7
  exact⟨A',c',hd,ok_tv0 _,fun u hu=>Values_miss a b (r:=(none,0,0,[])) fun u2 hu2=>hT u2 (hu.trans (hu2.mono hu.size))⟩
 |true =>
  have hTT:=hT
  obtain⟨K,N,r,B,cc,us⟩:=t
  have hpc:Pc w r:=by cases hok with|mk hn hr hs hm hc h0 hk=>exact hr
  have hT2:∀u,Below w.heap.size w u→∀u2,Below u.heap.size u u2→Calls Try.prog 32 #[.agg #[.slice A ks.length c,.bool br],.int .i64 3] u2 fun e w'=>e=.returned (.tuple #[.agg #[.int .i64 K,.int .u64 (N:Int),.slice r.1 r.2.1 r.2.2.1,.slice B us.length cc],.agg #[.slice A' ls.length c',.bool false],.bool true])∧Below u2.heap.size u2 w':=fun u hu u2 hu2=>hT u2 (hu.trans (hu2.mono hu.size))
  rw[if_pos rfl]
  by_cases h1:(us.length:Int) < a
  ·rw[if_neg (by show ¬inB (us.length:Int) a b=true;unfold inB;rw[decide_eq_false (by omega),Bool.false_and];decide)]
   exact⟨A',c',hd,ok_tv0 _,fun u hu=>Values_low a b (hT2 u hu) h1⟩
  ·by_cases h2:b < (us.length:Int)
   ·rw[if_neg (by show ¬inB (us.length:Int) a b=true;unfold inB;rw[decide_eq_false (show ¬(us.length:Int)≤b by omega),Bool.and_false];decide)]
    exact⟨A',c',hd,ok_tv0 _,fun u hu=>Values_high a b (hT2 u hu) h1 h2⟩
   ·rw[if_pos (by show inB (us.length:Int) a b=true;unfold inB;rw[decide_eq_true (by omega),decide_eq_true (by omega)];rfl)]
    exact⟨A',c',hd,hok,fun u hu=>Values_good a b (hT2 u hu) h1 h2⟩
set_option maxHeartbeats 4000000 in
theorem RDone_any(A:Option Addr)(m c:Nat)(br:Bool)(w:World):Calls Try.prog 44 #[.agg #[.slice A m c,.bool br]] w fun e w'=>e=.returned (.bool (!br && decide (m=0)))∧Below w.heap.size w w':=by
 have B0:=Lib.hid (below_one w (.cells #[.slice A m c,.bool br] 54))
 cases br with
 |true =>
  go_enter Try.func44,Try.ntmps44
  go_wp2_with fail
  go_ret
  exact⟨rfl,B0.out⟩
 |false =>
  by_cases hm0:m=0
  ·subst hm0
   go_enter Try.func44,Try.ntmps44
   go_wp2_with fail
   go_ret
   exact⟨rfl,B0.out⟩
  ·have e1:¬(m:Int)=0:=by omega
   have e3:((m:Int) == 0)=false:=by simp;omega
   have e2:decide (m=0)=false:=decide_eq_false hm0
   rw[e2]
   clear e2 hm0
   go_enter Try.func44,Try.ntmps44
   go_wp2_with fail
   go_ret
   exact⟨rfl,B0.out⟩
set_option maxHeartbeats 4000000 in
theorem ROpen_no(K:Int)(hK:¬K=3)(N:Nat)(r:Rw)(A:Option Addr)(m c:Nat)(w:World):Calls Try.prog 31 #[.agg #[.int .i64 K,.int .u64 (N:Int),.slice r.1 r.2.1 r.2.2.1,.slice A m c]] w fun e w'=>e=.returned (.agg #[.slice none 0 0,.bool true])∧Below w.heap.size w w':=by
 obtain⟨U,hU⟩:∃U,(w.alloc (.cells #[.int .i64 K,.int .u64 (N:Int),.slice r.1 r.2.1 r.2.2.1,.slice A m c] 26)).alloc (.cells #[.slice none 0 0,.bool false] 54)=U:=⟨_,rfl⟩
 have BU:=Lib.hid (show Below w.heap.size w U from by rw[←hU];exact((Below.refl _ w).alloc (Nat.le_refl _) _).alloc (by simp) _)
 have P0:=Lib.hid (show Bl U w.heap.size 26 #[.int .i64 K,.int .u64 (N:Int),.slice r.1 r.2.1 r.2.2.1,.slice A m c] from by rw[←hU];exact(Bl.new_ w _ _).alloc _)
 have P1:=Lib.hid (show Bl U (w.heap.size+1) 54 #[.slice none 0 0,.bool false] from by rw[←hU];exact Bl.new' _ _ (by simp))
 have a0:U.cell? ⟨w.heap.size,0,none⟩=some (.int .i64 K):=P0.out.cell_ rfl
 have a3:U.cell? ⟨w.heap.size,3,none⟩=some (.slice A m c):=P0.out.cell_ rfl
 have b0:U.cell? ⟨w.heap.size+1,0,none⟩=some (.slice none 0 0):=P1.out.cell_ rfl
 have b1:U.cell? ⟨w.heap.size+1,1,none⟩=some (.bool false):=P1.out.cell_ rfl
 have f0:=P1.out.frozen 0
 have f1:=P1.out.frozen 1
 go_enter Try.func31,Try.ntmps31
 go_wp2_with fail
 exact⟨rfl,_,results_c rfl _ _ _ ⟨w.heap.size+1,0,none⟩ _ (by kernel_rfl) (run_loadVar_row _ (w.heap.size+1) 54 54 #[.slice none 0 0,.bool true] (0,0) _ (st2_bl P1.out _ _) Try.underlying54 rfl sizeF),rfl,below_st2 BU.out (Nat.le_succ _) _ _⟩
set_option maxHeartbeats 4000000 in
theorem ROpen_yes(N:Nat)(r:Rw)(A:Option Addr)(m c:Nat)(w:World):Calls Try.prog 31 #[.agg #[.int .i64 3,.int .u64 (N:Int),.slice r.1 r.2.1 r.2.2.1,.slice A m c]] w fun e w'=>e=.returned (.agg #[.slice A m c,.bool false])∧Below w.heap.size w w':=by
 obtain⟨U,hU⟩:∃U,(w.alloc (.cells #[.int .i64 3,.int .u64 (N:Int),.slice r.1 r.2.1 r.2.2.1,.slice A m c] 26)).alloc (.cells #[.slice none 0 0,.bool false] 54)=U:=⟨_,rfl⟩
 have BU:=Lib.hid (show Below w.heap.size w U from by rw[←hU];exact((Below.refl _ w).alloc (Nat.le_refl _) _).alloc (by simp) _)
 have P0:=Lib.hid (show Bl U w.heap.size 26 #[.int .i64 3,.int .u64 (N:Int),.slice r.1 r.2.1 r.2.2.1,.slice A m c] from by rw[←hU];exact(Bl.new_ w _ _).alloc _)
 have P1:=Lib.hid (show Bl U (w.heap.size+1) 54 #[.slice none 0 0,.bool false] from by rw[←hU];exact Bl.new' _ _ (by simp))
 have a0:U.cell? ⟨w.heap.size,0,none⟩=some (.int .i64 3):=P0.out.cell_ rfl
 have a3:U.cell? ⟨w.heap.size,3,none⟩=some (.slice A m c):=P0.out.cell_ rfl
 have b0:U.cell? ⟨w.heap.size+1,0,none⟩=some (.slice none 0 0):=P1.out.cell_ rfl
 have b1:U.cell? ⟨w.heap.size+1,1,none⟩=some (.bool false):=P1.out.cell_ rfl
 have f0:=P1.out.frozen 0
 have f1:=P1.out.frozen 1
 go_enter Try.func31,Try.ntmps31
 go_wp2_with fail
 exact⟨rfl,_,results_c rfl _ _ _ ⟨w.heap.size+1,0,none⟩ _ (by kernel_rfl) (run_loadVar_row _ (w.heap.size+1) 54 54 #[.slice A m c,.bool false] (0,0) _ (st2_bl P1.out _ _) Try.underlying54 rfl sizeF),rfl,below_st2 BU.out (Nat.le_succ _) _ _⟩
end Go.Proofs.Ytkahelhoaihajaa.Wr
