/- Joined texts. -/
import Derived.Test.YteblmphohhbgcaaGreatQmMtY
import Derived.Test.YteblmphohhbgcaaGreatQmWrRv
set_option linter.unusedVariables false
namespace Go.Proofs.YteblmphohhbgcaaGreat.Wr
open Go.RowKit Go.Proofs.YteblmphohhbgcaaGreat.Gn Go.Proofs.YteblmphohhbgcaaGreat.Fd Go.Deep
def DbQ(q en:Nat)(w:World)(g:Nat)(a b c d:Int)(r:Rw)(e:Ending)(w':World):Prop :=
 w.grownBy w' (some g)∧(∃t:Tv,e=.returned t.val)∧∃p' k',Di w' g a b c d k' r p' (en:Int) (q:Int)
theorem st4_di{a:World}{g:Nat}{x b c d k:Int}{r:Rw}{p:Nat}{E B:Int}(h:Di a g x b c d k r p E B){q:Nat}(hq:g≠q)(ha:∀ad,r.1=some ad→0 < r.2.2.2.length→ad.block≠q)(v0 v1 v2 v3:Value):Di (st4 a q v0 v1 v2 v3) g x b c d k r p E B :=
 ⟨(((h.row.other (p:=⟨q,0,none⟩) hq v0).other (p:=⟨q,1,none⟩) hq v1).other (p:=⟨q,2,none⟩) hq v2).other (p:=⟨q,3,none⟩) hq v3,⟨h.pc.len,Sl.kept h.pc.row (fun ad e hn _=>st4_keep a v0 v1 v2 v3 (ha ad e hn)),h.pc.lt,h.pc.cap,h.pc.nil⟩,h.le,h.apart⟩
theorem dbad{w w4:World}{g:Nat}{a b c d k:Int}{r:Rw}{p:Nat}{q en:Nat}(hp:Pc w r)(G4:w.grownBy w4 (some g))(R4:Di w4 g a b c d k r p (en:Int) (q:Int))(glt:g < w.heap.size) :
  DbQ q en w g a b c d r (.returned (.agg #[.int .i64 0,.int .u64 0,.slice none 0 0,.slice none 0 0])) (st4 w4 w.heap.size (.int .i64 0) (.int .u64 0) (.slice none 0 0) (.slice none 0 0)) :=
 ⟨st4_only G4 (Nat.le_refl _) _ _ _ _,⟨.mk 0 0 (none,0,0,[]) none 0 [],rfl⟩,p,k,st4_di R4 (by omega) (fun ad e hn=>by have:=pc_lt hp ad e hn;omega) _ _ _ _⟩
set_option maxHeartbeats 4000000 in
set_option maxRecDepth 100000 in
theorem dval_short{w:World}{g:Nat}{a b c d zb zc zd k:Int}{r:Rw}{p:Nat}(h:Di w g a b c d k r p 0 0)(hzb:max b 0=zb)(hzc:max c 0=zc)(hzd:max d 0=zd)(deep:Int)(hp:p=r.2.2.2.length) :
  Calls Tryz.prog 115 #[.pointer (some ⟨g,0,none⟩),.int .i64 deep] w (DbQ p 20 w g a b c d r):=by
 obtain⟨A,L,cp,l⟩:=r
 have hL:L=l.length:=h.pc.len
 have hple:p≤l.length:=h.le
 have A0:=Lib.hid (below_one w nod0)
 have H0:=Lib.hid (h.below A0.out)
 have N0:=Lib.hid (Bl.new_ w 75 #[.int .i64 0,.int .u64 0,.slice none 0 0,.slice none 0 0])
 have c0:(w.alloc nod0).cell? ⟨g,0,none⟩=some (.slice A L cp):=H0.out.row.cell_ rfl
 have c1:(w.alloc nod0).cell? ⟨g,1,none⟩=some (.int .i64 (p:Int)):=H0.out.row.cell_ rfl
 have c2:(w.alloc nod0).cell? ⟨g,2,none⟩=some (.int .i64 k):=H0.out.row.cell_ rfl
 have c4:(w.alloc nod0).cell? ⟨g,4,none⟩=some (.int .i64 b):=H0.out.row.cell_ rfl
 have c5:(w.alloc nod0).cell? ⟨g,5,none⟩=some (.int .i64 c):=H0.out.row.cell_ rfl
 have c6:(w.alloc nod0).cell? ⟨g,6,none⟩=some (.int .i64 d):=H0.out.row.cell_ rfl
 have c7:(w.alloc nod0).cell? ⟨g,7,none⟩=some (.int .i64 0):=H0.out.row.cell_ rfl
 have CZb:=Lib.hid (fun u=>show Calls _ _ #[.int .i64 b] u (fun e w'=>e=.returned (.int .i64 zb)∧u=w') from hzb▸zero_any b u)
 have CZc:=Lib.hid (fun u=>show Calls _ _ #[.int .i64 c] u (fun e w'=>e=.returned (.int .i64 zc)∧u=w') from hzc▸zero_any c u)
 have CZd:=Lib.hid (fun u=>show Calls _ _ #[.int .i64 d] u (fun e w'=>e=.returned (.int .i64 zd)∧u=w') from hzd▸zero_any d u)
 have glt:g < w.heap.size:=h.row.lt
 have HP:=Lib.hid h.pc
 have HL:=Lib.hid hL
 clear h hzb hzc hzd
 obtain rfl:L=p:=hL.trans hp.symm
 have CF:=Lib.hid (fail_any H0.out (L:Int) 20 (by decide))
 clear hp hL hple
 go_enter Tryz.func115,Tryz.ntmps115
 go_wp2_with (go_at_call 116;(refine CF.out.mono ?_);rintro e w4 ⟨rfl,h1,h2⟩;have D4:=Lib.hid h1;have G4:=Lib.hid h2;have N4:=Lib.hid (show Bl w4 w.heap.size 75 _ from N0.out.grown h2 (by intro e;injection e with e;omega));have e7:w4.cell? ⟨g,7,none⟩=_:=h1.row.cell_ rfl;have y0:w4.cell? ⟨w.heap.size,0,none⟩=some (.int .i64 0):=N4.out.cell_ rfl;have f0:=N4.out.frozen 0;have y1:w4.cell? ⟨w.heap.size,1,none⟩=some (.int .u64 0):=N4.out.cell_ rfl;have f1:=N4.out.frozen 1;have y2:w4.cell? ⟨w.heap.size,2,none⟩=some (.slice none 0 0):=N4.out.cell_ rfl;have f2:=N4.out.frozen 2;have y3:w4.cell? ⟨w.heap.size,3,none⟩=some (.slice none 0 0):=N4.out.cell_ rfl;have f3:=N4.out.frozen 3;clear h1 h2)
 have HL4:=Lib.hid (st4_bl N4.out (.int .i64 0) (.int .u64 0) (.slice none 0 0) (.slice none 0 0))
 exact⟨rfl,_,results_c rfl _ _ _ ⟨w.heap.size,0,none⟩ _ (by kernel_rfl) (run_loadVar_row _ w.heap.size 75 75 _ (0,0) _ HL4.out Tryz.underlying75 rfl size34),dbad HP.out (only_trans (only_below A0.out (some g)) G4.out) D4.out glt⟩
set_option maxHeartbeats 4000000 in
set_option maxRecDepth 100000 in
theorem dval_deep{w:World}{g:Nat}{a b c d zb zc zd k:Int}{r:Rw}{p:Nat}(h:Di w g a b c d k r p 0 0)(hzb:max b 0=zb)(hzc:max c 0=zc)(hzd:max d 0=zd)(deep:Int)(hp:¬p=r.2.2.2.length)(hd:zb < deep) :
  Calls Tryz.prog 115 #[.pointer (some ⟨g,0,none⟩),.int .i64 deep] w (DbQ p 23 w g a b c d r):=by
 obtain⟨A,L,cp,l⟩:=r
 have hL:L=l.length:=h.pc.len
 have hple:p≤l.length:=h.le
 have A0:=Lib.hid (below_one w nod0)
 have H0:=Lib.hid (h.below A0.out)
 have N0:=Lib.hid (Bl.new_ w 75 #[.int .i64 0,.int .u64 0,.slice none 0 0,.slice none 0 0])
 have c0:(w.alloc nod0).cell? ⟨g,0,none⟩=some (.slice A L cp):=H0.out.row.cell_ rfl
 have c1:(w.alloc nod0).cell? ⟨g,1,none⟩=some (.int .i64 (p:Int)):=H0.out.row.cell_ rfl
 have c2:(w.alloc nod0).cell? ⟨g,2,none⟩=some (.int .i64 k):=H0.out.row.cell_ rfl
 have c4:(w.alloc nod0).cell? ⟨g,4,none⟩=some (.int .i64 b):=H0.out.row.cell_ rfl
 have c5:(w.alloc nod0).cell? ⟨g,5,none⟩=some (.int .i64 c):=H0.out.row.cell_ rfl
 have c6:(w.alloc nod0).cell? ⟨g,6,none⟩=some (.int .i64 d):=H0.out.row.cell_ rfl
 have c7:(w.alloc nod0).cell? ⟨g,7,none⟩=some (.int .i64 0):=H0.out.row.cell_ rfl
 have CZb:=Lib.hid (fun u=>show Calls _ _ #[.int .i64 b] u (fun e w'=>e=.returned (.int .i64 zb)∧u=w') from hzb▸zero_any b u)
 have CZc:=Lib.hid (fun u=>show Calls _ _ #[.int .i64 c] u (fun e w'=>e=.returned (.int .i64 zc)∧u=w') from hzc▸zero_any c u)
 have CZd:=Lib.hid (fun u=>show Calls _ _ #[.int .i64 d] u (fun e w'=>e=.returned (.int .i64 zd)∧u=w') from hzd▸zero_any d u)
 have glt:g < w.heap.size:=h.row.lt
 have HP:=Lib.hid h.pc
 have HL:=Lib.hid hL
 clear h hzb hzc hzd
 have hpl:p < L:=by have:¬p=l.length:=hp;omega
 clear hp hL
 have CF:=Lib.hid (fail_any H0.out (p:Int) 23 (by decide))
 go_enter Tryz.func115,Tryz.ntmps115
 go_wp2_with (first|(go_at_call 116;(refine CF.out.mono ?_);rintro e w4 ⟨rfl,h1,h2⟩;have D4:=Lib.hid h1;have G4:=Lib.hid h2;have N4:=Lib.hid (show Bl w4 w.heap.size 75 _ from N0.out.grown h2 (by intro e;injection e with e;omega));have e7:w4.cell? ⟨g,7,none⟩=_:=h1.row.cell_ rfl;have y0:w4.cell? ⟨w.heap.size,0,none⟩=some (.int .i64 0):=N4.out.cell_ rfl;have f0:=N4.out.frozen 0;have y1:w4.cell? ⟨w.heap.size,1,none⟩=some (.int .u64 0):=N4.out.cell_ rfl;have f1:=N4.out.frozen 1;have y2:w4.cell? ⟨w.heap.size,2,none⟩=some (.slice none 0 0):=N4.out.cell_ rfl;have f2:=N4.out.frozen 2;have y3:w4.cell? ⟨w.heap.size,3,none⟩=some (.slice none 0 0):=N4.out.cell_ rfl;have f3:=N4.out.frozen 3;clear h1 h2)|(go_at_call 107;(first|(with_reducible refine(CZb.out _).mono ?_)|(with_reducible refine(CZc.out _).mono ?_)|(with_reducible refine(CZd.out _).mono ?_));rintro e w1 ⟨rfl,rfl⟩))
 have HL4:=Lib.hid (st4_bl N4.out (.int .i64 0) (.int .u64 0) (.slice none 0 0) (.slice none 0 0))
 exact⟨rfl,_,results_c rfl _ _ _ ⟨w.heap.size,0,none⟩ _ (by kernel_rfl) (run_loadVar_row _ w.heap.size 75 75 _ (0,0) _ HL4.out Tryz.underlying75 rfl size34),dbad HP.out (only_trans (only_below A0.out (some g)) G4.out) D4.out glt⟩
set_option maxHeartbeats 4000000 in
set_option maxRecDepth 100000 in
theorem dval_many{w:World}{g:Nat}{a b c d zb zc zd k:Int}{r:Rw}{p:Nat}(h:Di w g a b c d k r p 0 0)(hzb:max b 0=zb)(hzc:max c 0=zc)(hzd:max d 0=zd)(deep:Int)(hp:¬p=r.2.2.2.length)(hd:¬zb < deep)(hk:zc≤k) :
  Calls Tryz.prog 115 #[.pointer (some ⟨g,0,none⟩),.int .i64 deep] w (DbQ p 24 w g a b c d r):=by
 obtain⟨A,L,cp,l⟩:=r
 have hL:L=l.length:=h.pc.len
 have hple:p≤l.length:=h.le
 have A0:=Lib.hid (below_one w nod0)
 have H0:=Lib.hid (h.below A0.out)
 have N0:=Lib.hid (Bl.new_ w 75 #[.int .i64 0,.int .u64 0,.slice none 0 0,.slice none 0 0])
 have c0:(w.alloc nod0).cell? ⟨g,0,none⟩=some (.slice A L cp):=H0.out.row.cell_ rfl
 have c1:(w.alloc nod0).cell? ⟨g,1,none⟩=some (.int .i64 (p:Int)):=H0.out.row.cell_ rfl
 have c2:(w.alloc nod0).cell? ⟨g,2,none⟩=some (.int .i64 k):=H0.out.row.cell_ rfl
 have c4:(w.alloc nod0).cell? ⟨g,4,none⟩=some (.int .i64 b):=H0.out.row.cell_ rfl
 have c5:(w.alloc nod0).cell? ⟨g,5,none⟩=some (.int .i64 c):=H0.out.row.cell_ rfl
 have c6:(w.alloc nod0).cell? ⟨g,6,none⟩=some (.int .i64 d):=H0.out.row.cell_ rfl
 have c7:(w.alloc nod0).cell? ⟨g,7,none⟩=some (.int .i64 0):=H0.out.row.cell_ rfl
 have CZb:=Lib.hid (fun u=>show Calls _ _ #[.int .i64 b] u (fun e w'=>e=.returned (.int .i64 zb)∧u=w') from hzb▸zero_any b u)
 have CZc:=Lib.hid (fun u=>show Calls _ _ #[.int .i64 c] u (fun e w'=>e=.returned (.int .i64 zc)∧u=w') from hzc▸zero_any c u)
 have CZd:=Lib.hid (fun u=>show Calls _ _ #[.int .i64 d] u (fun e w'=>e=.returned (.int .i64 zd)∧u=w') from hzd▸zero_any d u)
 have glt:g < w.heap.size:=h.row.lt
 have HP:=Lib.hid h.pc
 have HL:=Lib.hid hL
 clear h hzb hzc hzd
 have hpl:p < L:=by have:¬p=l.length:=hp;omega
 clear hp hL
 have QZc:=Lib.hid (fun u=>show Calls _ _ #[.int .i64 c] u (fun e w'=>e=.returned (.int .i64 zc)∧w'=u) from(CZc.out u).mono fun e w' hh=>⟨hh.1,hh.2.symm⟩)
 have CF:=Lib.hid (fun q=>fail_any (H0.out.below (below_drewN (Below.refl _ _) q)) (p:Int) 24 (by decide))
 go_enter Tryz.func115,Tryz.ntmps115
 go_wp2_with (go_at_call 107;(first|(with_reducible refine(CZb.out _).mono ?_)|(with_reducible refine(CZc.out _).mono ?_)|(with_reducible refine(CZd.out _).mono ?_));rintro e w1 ⟨rfl,rfl⟩)
 go_quiet ((go_at_call 107;exact Calls.quiet_of_same (QZc.out _)))
 go_wp2_with (go_at_call 116;(refine(CF.out _).mono ?_);rintro e w4 ⟨rfl,h1,h2⟩;have D4:=Lib.hid h1;have G4:=Lib.hid h2;have N4:=Lib.hid (show Bl w4 w.heap.size 75 _ from(N0.out.drewN _).grown h2 (by intro e;injection e with e;omega));have e7:w4.cell? ⟨g,7,none⟩=_:=h1.row.cell_ rfl;have y0:w4.cell? ⟨w.heap.size,0,none⟩=some (.int .i64 0):=N4.out.cell_ rfl;have f0:=N4.out.frozen 0;have y1:w4.cell? ⟨w.heap.size,1,none⟩=some (.int .u64 0):=N4.out.cell_ rfl;have f1:=N4.out.frozen 1;have y2:w4.cell? ⟨w.heap.size,2,none⟩=some (.slice none 0 0):=N4.out.cell_ rfl;have f2:=N4.out.frozen 2;have y3:w4.cell? ⟨w.heap.size,3,none⟩=some (.slice none 0 0):=N4.out.cell_ rfl;have f3:=N4.out.frozen 3;clear h1 h2)
 have HL4:=Lib.hid (st4_bl N4.out (.int .i64 0) (.int .u64 0) (.slice none 0 0) (.slice none 0 0))
 exact⟨rfl,_,results_c rfl _ _ _ ⟨w.heap.size,0,none⟩ _ (by kernel_rfl) (run_loadVar_row _ w.heap.size 75 75 _ (0,0) _ HL4.out Tryz.underlying75 rfl size34),dbad HP.out (only_trans (only_drewN (only_below A0.out (some g)) _) G4.out) D4.out glt⟩
set_option maxHeartbeats 4000000 in
set_option maxRecDepth 100000 in
theorem dval_kind{w:World}{g:Nat}{a b c d zb zc zd k:Int}{r:Rw}{p:Nat}(h:Di w g a b c d k r p 0 0)(hzb:max b 0=zb)(hzc:max c 0=zc)(hzd:max d 0=zd)(deep:Int)(hp:¬p=r.2.2.2.length)(hd:¬zb < deep)(hk:k < zc){X:Nat}(hx:r.2.2.2[p]?=some X)(x0:X < 1∨3 < X) :
  Calls Tryz.prog 115 #[.pointer (some ⟨g,0,none⟩),.int .i64 deep] w (DbQ p 21 w g a b c d r):=by
 obtain⟨A,L,cp,l⟩:=r
 have hL:L=l.length:=h.pc.len
 have hple:p≤l.length:=h.le
 have A0:=Lib.hid (below_one w nod0)
 have H0:=Lib.hid (h.below A0.out)
 have N0:=Lib.hid (Bl.new_ w 75 #[.int .i64 0,.int .u64 0,.slice none 0 0,.slice none 0 0])
 have c0:(w.alloc nod0).cell? ⟨g,0,none⟩=some (.slice A L cp):=H0.out.row.cell_ rfl
 have c1:(w.alloc nod0).cell? ⟨g,1,none⟩=some (.int .i64 (p:Int)):=H0.out.row.cell_ rfl
 have c2:(w.alloc nod0).cell? ⟨g,2,none⟩=some (.int .i64 k):=H0.out.row.cell_ rfl
 have c4:(w.alloc nod0).cell? ⟨g,4,none⟩=some (.int .i64 b):=H0.out.row.cell_ rfl
 have c5:(w.alloc nod0).cell? ⟨g,5,none⟩=some (.int .i64 c):=H0.out.row.cell_ rfl
 have c6:(w.alloc nod0).cell? ⟨g,6,none⟩=some (.int .i64 d):=H0.out.row.cell_ rfl
 have c7:(w.alloc nod0).cell? ⟨g,7,none⟩=some (.int .i64 0):=H0.out.row.cell_ rfl
 have CZb:=Lib.hid (fun u=>show Calls _ _ #[.int .i64 b] u (fun e w'=>e=.returned (.int .i64 zb)∧u=w') from hzb▸zero_any b u)
 have CZc:=Lib.hid (fun u=>show Calls _ _ #[.int .i64 c] u (fun e w'=>e=.returned (.int .i64 zc)∧u=w') from hzc▸zero_any c u)
 have CZd:=Lib.hid (fun u=>show Calls _ _ #[.int .i64 d] u (fun e w'=>e=.returned (.int .i64 zd)∧u=w') from hzd▸zero_any d u)
 have glt:g < w.heap.size:=h.row.lt
 have HP:=Lib.hid h.pc
 have HL:=Lib.hid hL
 clear h hzb hzc hzd
 have hpl:p < L:=by have:¬p=l.length:=hp;omega
 clear hp hL
 have QZc:=Lib.hid (fun u=>show Calls _ _ #[.int .i64 c] u (fun e w'=>e=.returned (.int .i64 zc)∧w'=u) from(CZc.out u).mono fun e w' hh=>⟨hh.1,hh.2.symm⟩)
 obtain⟨ad,rfl,hc0,-, hx8⟩:=pc_at H0.out.pc hx
 have hc:(w.alloc nod0).cell? (ad.add p)=some (.int .u8 (X:Int)):=hc0
 clear hc0 hx
 have CF:=Lib.hid (fun q=>fail_any (H0.out.below (below_drewN (Below.refl _ _) q)) (p:Int) 21 (by decide))
 rcases x0 with x0|x0
 ·have y1:(X:Int) < 1:=by omega
  clear x0
  go_enter Tryz.func115,Tryz.ntmps115
  go_wp2_with (go_at_call 107;(first|(with_reducible refine(CZb.out _).mono ?_)|(with_reducible refine(CZc.out _).mono ?_)|(with_reducible refine(CZd.out _).mono ?_));rintro e w1 ⟨rfl,rfl⟩)
  go_quiet ((go_at_call 107;exact Calls.quiet_of_same (QZc.out _)))
  go_wp2_with (go_at_call 116;(refine(CF.out _).mono ?_);rintro e w4 ⟨rfl,h1,h2⟩;have D4:=Lib.hid h1;have G4:=Lib.hid h2;have N4:=Lib.hid (show Bl w4 w.heap.size 75 _ from(N0.out.drewN _).grown h2 (by intro e;injection e with e;omega));have e7:w4.cell? ⟨g,7,none⟩=_:=h1.row.cell_ rfl;have y0:w4.cell? ⟨w.heap.size,0,none⟩=some (.int .i64 0):=N4.out.cell_ rfl;have f0:=N4.out.frozen 0;have y1:w4.cell? ⟨w.heap.size,1,none⟩=some (.int .u64 0):=N4.out.cell_ rfl;have f1:=N4.out.frozen 1;have y2:w4.cell? ⟨w.heap.size,2,none⟩=some (.slice none 0 0):=N4.out.cell_ rfl;have f2:=N4.out.frozen 2;have y3:w4.cell? ⟨w.heap.size,3,none⟩=some (.slice none 0 0):=N4.out.cell_ rfl;have f3:=N4.out.frozen 3;clear h1 h2)
  have HL4:=Lib.hid (st4_bl N4.out (.int .i64 0) (.int .u64 0) (.slice none 0 0) (.slice none 0 0))
  exact⟨rfl,_,results_c rfl _ _ _ ⟨w.heap.size,0,none⟩ _ (by kernel_rfl) (run_loadVar_row _ w.heap.size 75 75 _ (0,0) _ HL4.out Tryz.underlying75 rfl size34),dbad HP.out (only_trans (only_drewN (only_below A0.out (some g)) _) G4.out) D4.out glt⟩
 ·have y1:¬(X:Int) < 1:=by omega
  have y2:3 < (X:Int):=by omega
  clear x0
  go_enter Tryz.func115,Tryz.ntmps115
  go_wp2_with (go_at_call 107;(first|(with_reducible refine(CZb.out _).mono ?_)|(with_reducible refine(CZc.out _).mono ?_)|(with_reducible refine(CZd.out _).mono ?_));rintro e w1 ⟨rfl,rfl⟩)
  go_quiet ((go_at_call 107;exact Calls.quiet_of_same (QZc.out _)))
  go_wp2_with (go_at_call 116;(refine(CF.out _).mono ?_);rintro e w4 ⟨rfl,h1,h2⟩;have D4:=Lib.hid h1;have G4:=Lib.hid h2;have N4:=Lib.hid (show Bl w4 w.heap.size 75 _ from(N0.out.drewN _).grown h2 (by intro e;injection e with e;omega));have e7:w4.cell? ⟨g,7,none⟩=_:=h1.row.cell_ rfl;have y0:w4.cell? ⟨w.heap.size,0,none⟩=some (.int .i64 0):=N4.out.cell_ rfl;have f0:=N4.out.frozen 0;have y1:w4.cell? ⟨w.heap.size,1,none⟩=some (.int .u64 0):=N4.out.cell_ rfl;have f1:=N4.out.frozen 1;have y2:w4.cell? ⟨w.heap.size,2,none⟩=some (.slice none 0 0):=N4.out.cell_ rfl;have f2:=N4.out.frozen 2;have y3:w4.cell? ⟨w.heap.size,3,none⟩=some (.slice none 0 0):=N4.out.cell_ rfl;have f3:=N4.out.frozen 3;clear h1 h2)
  have HL4:=Lib.hid (st4_bl N4.out (.int .i64 0) (.int .u64 0) (.slice none 0 0) (.slice none 0 0))
  exact⟨rfl,_,results_c rfl _ _ _ ⟨w.heap.size,0,none⟩ _ (by kernel_rfl) (run_loadVar_row _ w.heap.size 75 75 _ (0,0) _ HL4.out Tryz.underlying75 rfl size34),dbad HP.out (only_trans (only_drewN (only_below A0.out (some g)) _) G4.out) D4.out glt⟩
end Go.Proofs.YteblmphohhbgcaaGreat.Wr
