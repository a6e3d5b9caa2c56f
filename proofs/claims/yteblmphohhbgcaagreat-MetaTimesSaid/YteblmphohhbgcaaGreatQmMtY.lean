/- Joined texts. -/
import Derived.Test.YteblmphohhbgcaaGreatQmMtX
import Derived.Test.YteblmphohhbgcaaGreatQmWrRv
set_option linter.unusedVariables false
namespace Go.Proofs.YteblmphohhbgcaaGreat.Mt
open Go.RowKit Go.Proofs.YteblmphohhbgcaaGreat.Gn Go.Proofs.YteblmphohhbgcaaGreat.Fd Go.Proofs.YteblmphohhbgcaaGreat.Wr Go.Deep
set_option maxRecDepth 100000
set_option maxHeartbeats 4000000 in
theorem Read_timestamp{w:World}{r:Rw}(hr:Pc w r)(hr9:r.2.1≤800000)(hin:∀ad,r.1=some ad→ad.block < w.heap.size):Calls Tryz.prog 19 #[.slice r.1 r.2.1 r.2.2.1] w (A5Q (bO tsO r.2.2.2) w):=by
 obtain⟨U,hU⟩:∃U,w.alloc (.cells z5 40)=U:=⟨_,rfl⟩
 have BU:=Lib.hid (show Below w.heap.size w U from by rw[←hU];exact below_one w _)
 have NR:=Lib.hid (show Bl U w.heap.size 40 z5 from by rw[←hU];exact Bl.new_ w _ _)
 have CR:=Lib.hid (read_timestamp (hr.below BU.out) hr9 (fun ad e=>Nat.lt_of_lt_of_le (hin ad e) BU.out.size))
 obtain⟨o,ho⟩:∃o,bO tsO r.2.2.2=o:=⟨_,rfl⟩
 rw[ho] at CR ⊢
 clear hr hr9 hin ho
 obtain⟨rA,rn,rc,rl⟩:=r
 simp only at CR ⊢
 cases o with
 |none =>
  go_enter Tryz.func19,Tryz.ntmps19
  go_wp2_with (go_at_call 51;(refine CR.out.mono ?_);rintro e1 w1 ⟨h1,rfl⟩;simp only[R5];have B1:=Lib.hid h1;have R1:=Lib.hid (NR.out.below' h1);have r0:w1.cell? ⟨w.heap.size,0,none⟩=some (.int .i64 0):=R1.out.cell_ rfl;have g0:=R1.out.frozen 0;have r1:w1.cell? ⟨w.heap.size,1,none⟩=some (.int .i64 0):=R1.out.cell_ rfl;have g1:=R1.out.frozen 1;have r2:w1.cell? ⟨w.heap.size,2,none⟩=some (.int .i64 0):=R1.out.cell_ rfl;have g2:=R1.out.frozen 2;have r3:w1.cell? ⟨w.heap.size,3,none⟩=some (.int .i64 0):=R1.out.cell_ rfl;have g3:=R1.out.frozen 3;have r4:w1.cell? ⟨w.heap.size,4,none⟩=some (.slice none 0 0):=R1.out.cell_ rfl;have g4:=R1.out.frozen 4;clear h1)
  refine⟨rfl,_,results_c2 rfl _ _ _ ⟨w.heap.size,0,none⟩ _ _ (by kernel_rfl) rfl (run_loadVar_row _ w.heap.size 40 40 #[.int .i64 0,.int .i64 0,.int .i64 0,.int .i64 0,.slice none 0 0] (0,0) _ (set5_bl R1.out _ _ _ _ _) Tryz.underlying40 rfl (by kernel_rfl)),?_⟩
  exact⟨set5_below (BU.out.trans (B1.out.mono BU.out.size)) (Nat.le_refl _) _ _ _ _ _,rfl⟩
 |some v =>
  obtain⟨a,b,c,d,h⟩:=v
  go_enter Tryz.func19,Tryz.ntmps19
  go_wp2_with (go_at_call 51;(refine CR.out.mono ?_);rintro e1 w1 ⟨h1,A,c',rfl,hp⟩;simp only[R5];have B1:=Lib.hid h1;have P1:=Lib.hid hp;have R1:=Lib.hid (NR.out.below' h1);have r0:w1.cell? ⟨w.heap.size,0,none⟩=some (.int .i64 0):=R1.out.cell_ rfl;have g0:=R1.out.frozen 0;have r1:w1.cell? ⟨w.heap.size,1,none⟩=some (.int .i64 0):=R1.out.cell_ rfl;have g1:=R1.out.frozen 1;have r2:w1.cell? ⟨w.heap.size,2,none⟩=some (.int .i64 0):=R1.out.cell_ rfl;have g2:=R1.out.frozen 2;have r3:w1.cell? ⟨w.heap.size,3,none⟩=some (.int .i64 0):=R1.out.cell_ rfl;have g3:=R1.out.frozen 3;have r4:w1.cell? ⟨w.heap.size,4,none⟩=some (.slice none 0 0):=R1.out.cell_ rfl;have g4:=R1.out.frozen 4;clear h1 hp)
  refine⟨rfl,_,results_c2 rfl _ _ _ ⟨w.heap.size,0,none⟩ _ _ (by kernel_rfl) rfl (run_loadVar_row _ w.heap.size 40 40 #[.int .i64 (a:Int),.int .i64 (b:Int),.int .i64 (c:Int),.int .i64 (d:Int),.slice A h.length c'] (0,0) _ (set5_bl R1.out _ _ _ _ _) Tryz.underlying40 rfl (by kernel_rfl)),?_⟩
  exact⟨set5_below (BU.out.trans (B1.out.mono BU.out.size)) (Nat.le_refl _) _ _ _ _ _,A,c',rfl,set5_pc R1.out (by decide) P1.out z5_pl _ _ _ _ _⟩
set_option maxHeartbeats 4000000 in
theorem Read_snapshot{w:World}{r:Rw}(hr:Pc w r)(hr9:r.2.1≤800000)(hin:∀ad,r.1=some ad→ad.block < w.heap.size):Calls Tryz.prog 20 #[.slice r.1 r.2.1 r.2.2.1] w (A5Q (bO tsO r.2.2.2) w):=by
 obtain⟨U,hU⟩:∃U,w.alloc (.cells z5 44)=U:=⟨_,rfl⟩
 have BU:=Lib.hid (show Below w.heap.size w U from by rw[←hU];exact below_one w _)
 have NR:=Lib.hid (show Bl U w.heap.size 44 z5 from by rw[←hU];exact Bl.new_ w _ _)
 have CR:=Lib.hid (read_snapshot (hr.below BU.out) hr9 (fun ad e=>Nat.lt_of_lt_of_le (hin ad e) BU.out.size))
 obtain⟨o,ho⟩:∃o,bO tsO r.2.2.2=o:=⟨_,rfl⟩
 rw[ho] at CR ⊢
 clear hr hr9 hin ho
 obtain⟨rA,rn,rc,rl⟩:=r
 simp only at CR ⊢
 cases o with
 |none =>
  go_enter Tryz.func20,Tryz.ntmps20
  go_wp2_with (go_at_call 52;(refine CR.out.mono ?_);rintro e1 w1 ⟨h1,rfl⟩;simp only[R5];have B1:=Lib.hid h1;have R1:=Lib.hid (NR.out.below' h1);have r0:w1.cell? ⟨w.heap.size,0,none⟩=some (.int .i64 0):=R1.out.cell_ rfl;have g0:=R1.out.frozen 0;have r1:w1.cell? ⟨w.heap.size,1,none⟩=some (.int .i64 0):=R1.out.cell_ rfl;have g1:=R1.out.frozen 1;have r2:w1.cell? ⟨w.heap.size,2,none⟩=some (.int .i64 0):=R1.out.cell_ rfl;have g2:=R1.out.frozen 2;have r3:w1.cell? ⟨w.heap.size,3,none⟩=some (.int .i64 0):=R1.out.cell_ rfl;have g3:=R1.out.frozen 3;have r4:w1.cell? ⟨w.heap.size,4,none⟩=some (.slice none 0 0):=R1.out.cell_ rfl;have g4:=R1.out.frozen 4;clear h1)
  refine⟨rfl,_,results_c2 rfl _ _ _ ⟨w.heap.size,0,none⟩ _ _ (by kernel_rfl) rfl (run_loadVar_row _ w.heap.size 44 44 #[.int .i64 0,.int .i64 0,.int .i64 0,.int .i64 0,.slice none 0 0] (0,0) _ (set5_bl R1.out _ _ _ _ _) Tryz.underlying44 rfl (by kernel_rfl)),?_⟩
  exact⟨set5_below (BU.out.trans (B1.out.mono BU.out.size)) (Nat.le_refl _) _ _ _ _ _,rfl⟩
 |some v =>
  obtain⟨a,b,c,d,h⟩:=v
  go_enter Tryz.func20,Tryz.ntmps20
  go_wp2_with (go_at_call 52;(refine CR.out.mono ?_);rintro e1 w1 ⟨h1,A,c',rfl,hp⟩;simp only[R5];have B1:=Lib.hid h1;have P1:=Lib.hid hp;have R1:=Lib.hid (NR.out.below' h1);have r0:w1.cell? ⟨w.heap.size,0,none⟩=some (.int .i64 0):=R1.out.cell_ rfl;have g0:=R1.out.frozen 0;have r1:w1.cell? ⟨w.heap.size,1,none⟩=some (.int .i64 0):=R1.out.cell_ rfl;have g1:=R1.out.frozen 1;have r2:w1.cell? ⟨w.heap.size,2,none⟩=some (.int .i64 0):=R1.out.cell_ rfl;have g2:=R1.out.frozen 2;have r3:w1.cell? ⟨w.heap.size,3,none⟩=some (.int .i64 0):=R1.out.cell_ rfl;have g3:=R1.out.frozen 3;have r4:w1.cell? ⟨w.heap.size,4,none⟩=some (.slice none 0 0):=R1.out.cell_ rfl;have g4:=R1.out.frozen 4;clear h1 hp)
  refine⟨rfl,_,results_c2 rfl _ _ _ ⟨w.heap.size,0,none⟩ _ _ (by kernel_rfl) rfl (run_loadVar_row _ w.heap.size 44 44 #[.int .i64 (a:Int),.int .i64 (b:Int),.int .i64 (c:Int),.int .i64 (d:Int),.slice A h.length c'] (0,0) _ (set5_bl R1.out _ _ _ _ _) Tryz.underlying44 rfl (by kernel_rfl)),?_⟩
  exact⟨set5_below (BU.out.trans (B1.out.mono BU.out.size)) (Nat.le_refl _) _ _ _ _ _,A,c',rfl,set5_pc R1.out (by decide) P1.out z5_pl _ _ _ _ _⟩
set_option maxHeartbeats 4000000 in
theorem Read_targets{w:World}{r:Rw}(hr:Pc w r)(hr9:r.2.1≤800000)(hin:∀ad,r.1=some ad→ad.block < w.heap.size):Calls Tryz.prog 25 #[.slice r.1 r.2.1 r.2.2.1] w (A5Q (bO tgO r.2.2.2) w):=by
 obtain⟨U,hU⟩:∃U,w.alloc (.cells z5 52)=U:=⟨_,rfl⟩
 have BU:=Lib.hid (show Below w.heap.size w U from by rw[←hU];exact below_one w _)
 have NR:=Lib.hid (show Bl U w.heap.size 52 z5 from by rw[←hU];exact Bl.new_ w _ _)
 have CR:=Lib.hid (read_targets (hr.below BU.out) hr9 (fun ad e=>Nat.lt_of_lt_of_le (hin ad e) BU.out.size))
 obtain⟨o,ho⟩:∃o,bO tgO r.2.2.2=o:=⟨_,rfl⟩
 rw[ho] at CR ⊢
 clear hr hr9 hin ho
 obtain⟨rA,rn,rc,rl⟩:=r
 simp only at CR ⊢
 cases o with
 |none =>
  go_enter Tryz.func25,Tryz.ntmps25
  go_wp2_with (go_at_call 59;(refine CR.out.mono ?_);rintro e1 w1 ⟨h1,rfl⟩;simp only[R5];have B1:=Lib.hid h1;have R1:=Lib.hid (NR.out.below' h1);have r0:w1.cell? ⟨w.heap.size,0,none⟩=some (.int .i64 0):=R1.out.cell_ rfl;have g0:=R1.out.frozen 0;have r1:w1.cell? ⟨w.heap.size,1,none⟩=some (.int .i64 0):=R1.out.cell_ rfl;have g1:=R1.out.frozen 1;have r2:w1.cell? ⟨w.heap.size,2,none⟩=some (.int .i64 0):=R1.out.cell_ rfl;have g2:=R1.out.frozen 2;have r3:w1.cell? ⟨w.heap.size,3,none⟩=some (.int .i64 0):=R1.out.cell_ rfl;have g3:=R1.out.frozen 3;have r4:w1.cell? ⟨w.heap.size,4,none⟩=some (.slice none 0 0):=R1.out.cell_ rfl;have g4:=R1.out.frozen 4;clear h1)
  refine⟨rfl,_,results_c2 rfl _ _ _ ⟨w.heap.size,0,none⟩ _ _ (by kernel_rfl) rfl (run_loadVar_row _ w.heap.size 52 52 #[.int .i64 0,.int .i64 0,.int .i64 0,.int .i64 0,.slice none 0 0] (0,0) _ (set5_bl R1.out _ _ _ _ _) Tryz.underlying52 rfl (by kernel_rfl)),?_⟩
  exact⟨set5_below (BU.out.trans (B1.out.mono BU.out.size)) (Nat.le_refl _) _ _ _ _ _,rfl⟩
 |some v =>
  obtain⟨a,b,c,d,h⟩:=v
  go_enter Tryz.func25,Tryz.ntmps25
  go_wp2_with (go_at_call 59;(refine CR.out.mono ?_);rintro e1 w1 ⟨h1,A,c',rfl,hp⟩;simp only[R5];have B1:=Lib.hid h1;have P1:=Lib.hid hp;have R1:=Lib.hid (NR.out.below' h1);have r0:w1.cell? ⟨w.heap.size,0,none⟩=some (.int .i64 0):=R1.out.cell_ rfl;have g0:=R1.out.frozen 0;have r1:w1.cell? ⟨w.heap.size,1,none⟩=some (.int .i64 0):=R1.out.cell_ rfl;have g1:=R1.out.frozen 1;have r2:w1.cell? ⟨w.heap.size,2,none⟩=some (.int .i64 0):=R1.out.cell_ rfl;have g2:=R1.out.frozen 2;have r3:w1.cell? ⟨w.heap.size,3,none⟩=some (.int .i64 0):=R1.out.cell_ rfl;have g3:=R1.out.frozen 3;have r4:w1.cell? ⟨w.heap.size,4,none⟩=some (.slice none 0 0):=R1.out.cell_ rfl;have g4:=R1.out.frozen 4;clear h1 hp)
  refine⟨rfl,_,results_c2 rfl _ _ _ ⟨w.heap.size,0,none⟩ _ _ (by kernel_rfl) rfl (run_loadVar_row _ w.heap.size 52 52 #[.int .i64 (a:Int),.int .i64 (b:Int),.int .i64 (c:Int),.int .i64 (d:Int),.slice A h.length c'] (0,0) _ (set5_bl R1.out _ _ _ _ _) Tryz.underlying52 rfl (by kernel_rfl)),?_⟩
  exact⟨set5_below (BU.out.trans (B1.out.mono BU.out.size)) (Nat.le_refl _) _ _ _ _ _,A,c',rfl,set5_pc R1.out (by decide) P1.out z5_pl _ _ _ _ _⟩
def nuB(V:Nd):Bool:=decide (knd V=1) && decide (nmd V≤4611686018427387904)
def nuV(V:Nd):Nat:=if nuB V=true then nmd V else 0
set_option maxHeartbeats 4000000 in
theorem number_d(t:Tv)(w:World):Calls Tryz.prog 53 #[t.val] w fun e w'=>e=.returned (.tuple #[.int .i64 (nuV (Wr.nd t):Int),.bool (nuB (Wr.nd t))])∧Below w.heap.size w w':=by
 obtain⟨K,n,r,A,c,ks⟩:=t
 rw[Wr.nd]
 unfold nuV nuB
 rw[show knd (.mk K n r.2.2.2 (nds ks))=K from rfl,show nmd (.mk K n r.2.2.2 (nds ks))=n from rfl]
 simp only[Tv.val,Tv.row]
 have HB:=Lib.hid (below_one w (.cells #[.int .i64 K,.int .u64 (n:Int),.slice r.1 r.2.1 r.2.2.1,.slice A ks.length c] 75))
 by_cases hk:K=1
 ·subst hk
  by_cases hn:n≤4611686018427387904
  ·have q0:¬(4611686018427387904:Int) < (n:Int):=by omega
   have q1:IntKind.i64.wrap (n:Int)=(n:Int):=Go.IntWalk.i64_in _ (by omega)
   rw[decide_eq_true hn,if_pos (by decide),show(decide ((1:Int)=1) && true)=true from by decide]
   clear hn
   go_enter Tryz.func53,Tryz.ntmps53
   go_wp2_with fail
   go_ret2
   exact⟨rfl,HB.out⟩
  ·have q0:(4611686018427387904:Int) < (n:Int):=by omega
   rw[decide_eq_false hn,if_neg (by decide),show(decide ((1:Int)=1) && false)=false from by decide]
   clear hn
   go_enter Tryz.func53,Tryz.ntmps53
   go_wp2_with fail
   go_ret2
   exact⟨rfl,HB.out⟩
 ·rw[decide_eq_false hk,Bool.false_and,if_neg (by decide)]
  go_enter Tryz.func53,Tryz.ntmps53
  go_wp2_with fail
  go_ret2
  exact⟨rfl,HB.out⟩
set_option maxHeartbeats 4000000 in
theorem open_d(K:Int)(n:Nat)(r:Rw)(A:Option Addr)(c:Nat)(ks:List Tv)(m:Nat)(w:World):Calls Tryz.prog 43 #[Tv.val (.mk K n r A c ks),.int .i64 (m:Int)] w fun e w'=>e=.returned (.tuple #[.slice A ks.length c,.bool (decide (K=3) && decide (ks.length=m))])∧Below w.heap.size w w':=by
 simp only[Tv.val,Tv.row]
 have HB:=Lib.hid (below_one w (.cells #[.int .i64 K,.int .u64 (n:Int),.slice r.1 r.2.1 r.2.2.1,.slice A ks.length c] 75))
 obtain⟨P,hP⟩:∃P,ks.length=P:=⟨_,rfl⟩
 simp only[hP] at HB ⊢
 clear hP
 by_cases hk:K=3
 ·subst hk
  go_enter Tryz.func43,Tryz.ntmps43
  go_wp2_with fail
  go_quiet (fail)
  go_wp2_with fail
  go_ret2
  refine⟨?_,below_drewN HB.out _⟩
  by_cases h:P=m
  ·subst h;simp
  ·have h2:¬(P:Int)=(m:Int):=by omega
   simp[h,h2]
 ·rw[decide_eq_false hk,Bool.false_and]
  go_enter Tryz.func43,Tryz.ntmps43
  go_wp2_with fail
  go_quiet (fail)
  go_wp2_with fail
  go_ret2
  exact⟨rfl,below_drewN HB.out _⟩
set_option maxHeartbeats 4000000 in
theorem bytes_d(K:Int)(n:Nat)(r:Rw)(A:Option Addr)(c:Nat)(ks:List Tv)(m:Nat)(w:World):Calls Tryz.prog 54 #[Tv.val (.mk K n r A c ks),.int .i64 (m:Int)] w fun e w'=>e=.returned (.tuple #[.slice r.1 r.2.1 r.2.2.1,.bool (decide (K=2) && decide (r.2.1=m))])∧Below w.heap.size w w':=by
 simp only[Tv.val,Tv.row]
 have HB:=Lib.hid (below_one w (.cells #[.int .i64 K,.int .u64 (n:Int),.slice r.1 r.2.1 r.2.2.1,.slice A ks.length c] 75))
 obtain⟨P,hP⟩:∃P,r.2.1=P:=⟨_,rfl⟩
 simp only[hP] at HB ⊢
 clear hP
 by_cases hk:K=2
 ·subst hk
  go_enter Tryz.func54,Tryz.ntmps54
  go_wp2_with fail
  go_quiet (fail)
  go_wp2_with fail
  go_ret2
  refine⟨?_,below_drewN HB.out _⟩
  by_cases h:P=m
  ·subst h;simp
  ·have h2:¬(P:Int)=(m:Int):=by omega
   simp[h,h2]
 ·rw[decide_eq_false hk,Bool.false_and]
  go_enter Tryz.func54,Tryz.ntmps54
  go_wp2_with fail
  go_quiet (fail)
  go_wp2_with fail
  go_ret2
  exact⟨rfl,below_drewN HB.out _⟩
end Go.Proofs.YteblmphohhbgcaaGreat.Mt
namespace Go.Proofs.YteblmphohhbgcaaGreat.Wr
open Go.RowKit Go.Proofs.YteblmphohhbgcaaGreat.Gn Go.Proofs.YteblmphohhbgcaaGreat.Fd Go.Deep
structure Di (w:World) (g:Nat) (a b c d k:Int) (r:Rw) (p:Nat) (E B:Int):Prop where
 row:Bl w g 193 #[.slice r.1 r.2.1 r.2.2.1,.int .i64 (p:Int),.int .i64 k,.int .i64 a,.int .i64 b,.int .i64 c,.int .i64 d,.int .i64 E,.int .i64 B]
 pc:Pc w r
 le:p≤r.2.2.2.length
 apart:∀ad,r.1=some ad→ad.block≠g
theorem Di.below{w u:World}{g:Nat}{a b c d k:Int}{r:Rw}{p:Nat}{E B:Int}(h:Di w g a b c d k r p E B)(hb:Below w.heap.size w u):Di u g a b c d k r p E B:=⟨h.row.below' hb,h.pc.below hb,h.le,h.apart⟩
set_option maxHeartbeats 4000000 in
set_option maxRecDepth 100000 in
theorem fail_any{w:World}{g:Nat}{a b c d k:Int}{r:Rw}{p:Nat}(h:Di w g a b c d k r p 0 0)(at_ e:Int)(he:e≠0) :
  Calls Tryz.prog 116 #[.pointer (some ⟨g,0,none⟩),.int .i64 at_,.int .i64 e] w fun x w'=>x=.returned (.tuple #[])∧Di w' g a b c d k r p e at_∧w.grownBy w' (some g):=by
 have H:=Lib.hid h
 have c7:w.cell? ⟨g,7,none⟩=some (.int .i64 0):=h.row.cell_ rfl
 have c8:w.cell? ⟨g,8,none⟩=some (.int .i64 0):=h.row.cell_ rfl
 have f7:=h.row.frozen 7
 have f8:=h.row.frozen 8
 clear h he
 go_enter Tryz.func116,Tryz.ntmps116
 go_wp2_with fail
 first|go_end0|refine bodyPost_ret (results_none rfl _ _ _) rfl ?_
 refine⟨rfl,⟨(H.out.row.set_ 7 _).set_ 8 _,rt_pc (rt_pc H.out.pc H.out.apart _) H.out.apart _,H.out.le,H.out.apart⟩,only_set (only_set (World.grownBy.refl w (some g)) (p:=⟨g,7,none⟩) (Or.inl rfl) _) (p:=⟨g,8,none⟩) (Or.inl rfl) _⟩
set_option maxHeartbeats 4000000 in
set_option maxRecDepth 100000 in
theorem dcount_bad{w:World}{g:Nat}{a b c d k:Int}{r:Rw}{p:Nat}(h:Di w g a b c d k r p 0 0)(hl:r.2.1≤1000000000){n m e:Nat}(hr:rcl (r.2.2.2.drop p)=(n,m,e))(he:e≠0) :
  Calls Tryz.prog 131 #[.pointer (some ⟨g,0,none⟩)] w fun x w'=>x=.returned (.int .u64 0)∧Di w' g a b c d k r p (e:Int) (p:Int)∧w.grownBy w' (some g):=by
 obtain⟨A,L,cp,l⟩:=r
 have RV:=rcv_in h.le hr
 have HP:∀q,Pc (w.drewN q) (A,L,cp,l):=fun q=>⟨h.pc.len,h.pc.row,h.pc.lt,h.pc.cap,h.pc.nil⟩
 have CR:=Lib.hid (show ∀q,Calls Tryz.prog 141 #[.slice A L cp,.int .i64 (p:Int)] (w.drewN q) fun x w'=>x=.returned (.tuple #[.int .u64 (n:Int),.int .i64 ((p:Int)+(m:Int)),.int .i64 (e:Int)])∧w'=w.drewN q from fun q=>by
  rw[←RV];refine(RReadCount_any (HP q) (p:Int) hl).mono ?_;rintro x w' ⟨h1,h2⟩;exact⟨h1,h2.symm⟩)
 have CF:=Lib.hid (fun q=>fail_any (h.below (below_drewN (Below.refl _ w) q)) (p:Int) (e:Int) (by omega))
 have c0:w.cell? ⟨g,0,none⟩=some (.slice A L cp):=h.row.cell_ rfl
 have c1:w.cell? ⟨g,1,none⟩=some (.int .i64 (p:Int)):=h.row.cell_ rfl
 have e0:¬(e:Int)=0:=by omega
 clear h hr he RV HP
 go_enter Tryz.func131,Tryz.ntmps131
 go_wp2_with fail
 go_quiet ((go_at_call 141;exact Calls.quiet_of_same (CR.out _)))
 go_wp2_with (go_at_call 116;(refine(CF.out _).mono ?_);rintro x w1 ⟨rfl,h1,h2⟩;have D1:=Lib.hid h1;have G1:=Lib.hid h2;clear h1 h2)
 go_ret
 exact⟨rfl,D1.out,only_trans (only_drewN (World.grownBy.refl w (some g)) _) G1.out⟩
set_option maxHeartbeats 4000000 in
set_option maxRecDepth 100000 in
theorem dcount_ok{w:World}{g:Nat}{a b c d k:Int}{r:Rw}{p:Nat}(h:Di w g a b c d k r p 0 0)(hl:r.2.1≤1000000000){n m:Nat}(hr:rcl (r.2.2.2.drop p)=(n,m,0)) :
  Calls Tryz.prog 131 #[.pointer (some ⟨g,0,none⟩)] w fun x w'=>x=.returned (.int .u64 (n:Int))∧Di w' g a b c d k r (p+m) 0 0∧w.grownBy w' (some g):=by
 obtain⟨A,L,cp,l⟩:=r
 have RV:=rcv_in h.le hr
 have HP:∀q,Pc (w.drewN q) (A,L,cp,l):=fun q=>⟨h.pc.len,h.pc.row,h.pc.lt,h.pc.cap,h.pc.nil⟩
 have CR:=Lib.hid (show ∀q,Calls Tryz.prog 141 #[.slice A L cp,.int .i64 (p:Int)] (w.drewN q) fun x w'=>x=.returned (.tuple #[.int .u64 (n:Int),.int .i64 ((p:Int)+(m:Int)),.int .i64 ((0:Nat):Int)])∧w'=w.drewN q from fun q=>by
  rw[←RV];refine(RReadCount_any (HP q) (p:Int) hl).mono ?_;rintro x w' ⟨h1,h2⟩;exact⟨h1,h2.symm⟩)
 have c0:w.cell? ⟨g,0,none⟩=some (.slice A L cp):=h.row.cell_ rfl
 have c1:w.cell? ⟨g,1,none⟩=some (.int .i64 (p:Int)):=h.row.cell_ rfl
 have f1:=h.row.frozen 1
 have H:=Lib.hid h
 have PM:=Lib.hid (rcl_le hr)
 clear h hr RV HP
 go_enter Tryz.func131,Tryz.ntmps131
 go_wp2_with fail
 go_quiet ((go_at_call 141;exact Calls.quiet_of_same (CR.out _)))
 go_wp2_with fail
 go_ret
 have hrow:Bl (w.drewN nq) g 193 _:=H.out.row
 have hp2:Pc (w.drewN nq) (A,L,cp,l):=⟨H.out.pc.len,H.out.pc.row,H.out.pc.lt,H.out.pc.cap,H.out.pc.nil⟩
 refine⟨rfl,⟨hrow.set_ 1 _,rt_pc hp2 H.out.apart _,?_,H.out.apart⟩,only_set (only_drewN (World.grownBy.refl w (some g)) nq) (p:=⟨g,1,none⟩) (Or.inl rfl) _⟩
 have h1:m≤(l.drop p).length:=PM.out
 have h2:p≤l.length:=H.out.le
 rw[List.length_drop] at h1
 show p+m≤l.length
 omega
end Go.Proofs.YteblmphohhbgcaaGreat.Wr
