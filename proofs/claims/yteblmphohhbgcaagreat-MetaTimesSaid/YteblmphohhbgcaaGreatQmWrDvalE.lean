/- Joined texts. -/
import Derived.Deep.LoopGhost
import Derived.Test.YteblmphohhbgcaaGreatQmWrDvalD
import Derived.Test.YteblmphohhbgcaaGreatQmWrGo
set_option linter.unusedVariables false
namespace Go.Proofs.YteblmphohhbgcaaGreat.Wr
open Go.RowKit Go.Proofs.YteblmphohhbgcaaGreat.Gn Go.Proofs.YteblmphohhbgcaaGreat.Fd Go.Deep
set_option maxHeartbeats 4000000 in
set_option maxRecDepth 100000 in
theorem dval_bytes{w:World}{g:Nat}{a b c d zb zc zd k:Int}{r:Rw}{p:Nat}(h:Di w g a b c d k r p 0 0)(hzb:max b 0=zb)(hzc:max c 0=zc)(hzd:max d 0=zd)(deep:Int)(hp:¬p=r.2.2.2.length)(hd:¬zb < deep)(hk:k < zc)(k0:0≤k)(k1:k≤1000000)(hl9:r.2.1≤1000000)(hx:r.2.2.2[p]?=some 2){n m:Nat}(hr:rcl (r.2.2.2.drop (p+1))=(n,m,0))(d1:zd≤9223372036854775807)(d0:0≤zd)(hn:¬zd < (n:Int))(hs:p+1+m+n≤r.2.2.2.length) :
  Calls Tryz.prog 115 #[.pointer (some ⟨g,0,none⟩),.int .i64 deep] w (DgQ (.mk 2 0 ((r.2.2.2.drop (p+1+m)).take n) []) (p+1+m+n) w g a b c d (k+1) r):=by
 obtain⟨A,L,cp,l⟩:=r
 have hL:L=l.length:=h.pc.len
 have hple:p≤l.length:=h.le
 have A0:=Lib.hid (below_one w nod0)
 have H0:=Lib.hid (h.below A0.out)
 have N0:=Lib.hid (Bl.new_ w 75 #[.int .i64 0,.int .u64 0,.slice none 0 0,.slice none 0 0])
 have c0:(w.alloc nod0).cell? ⟨g,0,none⟩=some (.slice A L cp):=H0.out.row.cell_ rfl
 have c1:(w.alloc nod0).cell? ⟨g,1,none⟩=some (.int .i64 (p:Int)):=H0.out.row.cell_ rfl
 have c2:(w.alloc nod0).cell? ⟨g,2,none⟩=some (.int .i64 k):=H0.out.row.cell_ rfl
 have c4:(w.alloc nod0).cell? ⟨g,4,none⟩=some (.int .i64 b):=H0.out.row.cell_ rfl
 have c5:(w.alloc nod0).cell? ⟨g,5,none⟩=some (.int .i64 c):=H0.out.row.cell_ rfl
 have c6:(w.alloc nod0).cell? ⟨g,6,none⟩=some (.int .i64 d):=H0.out.row.cell_ rfl
 have c7:(w.alloc nod0).cell? ⟨g,7,none⟩=some (.int .i64 0):=H0.out.row.cell_ rfl
 have CZb:=Lib.hid (fun u=>show Calls _ _ #[.int .i64 b] u (fun e w'=>e=.returned (.int .i64 zb)∧u=w') from hzb▸zero_any b u)
 have CZc:=Lib.hid (fun u=>show Calls _ _ #[.int .i64 c] u (fun e w'=>e=.returned (.int .i64 zc)∧u=w') from hzc▸zero_any c u)
 have CZd:=Lib.hid (fun u=>show Calls _ _ #[.int .i64 d] u (fun e w'=>e=.returned (.int .i64 zd)∧u=w') from hzd▸zero_any d u)
 have glt:g < w.heap.size:=h.row.lt
 have HP:=Lib.hid h.pc
 have HL:=Lib.hid hL
 clear h hzb hzc hzd
 have hpl:p < L:=by have:¬p=l.length:=hp;omega
 clear hp hL
 have QZc:=Lib.hid (fun u=>show Calls _ _ #[.int .i64 c] u (fun e w'=>e=.returned (.int .i64 zc)∧w'=u) from(CZc.out u).mono fun e w' hh=>⟨hh.1,hh.2.symm⟩)
 obtain⟨ad,rfl,hc0,-, hx8⟩:=pc_at H0.out.pc hx
 have hc:(w.alloc nod0).cell? (ad.add p)=some (.int .u8 2):=hc0
 have fg2:=H0.out.row.frozen 2
 have fg1:=H0.out.row.frozen 1
 have lad:ad.block < (w.alloc nod0).heap.size:=by have:=cell_lt hc0;rwa [add_block] at this
 have apg:ad.block≠g:=H0.out.apart ad rfl
 have hx9:=Lib.hid hx
 clear hc0 hx
 go_enter Tryz.func115,Tryz.ntmps115
 go_wp2_with (go_at_call 107;(first|(with_reducible refine(CZb.out _).mono ?_)|(with_reducible refine(CZc.out _).mono ?_)|(with_reducible refine(CZd.out _).mono ?_));rintro e w1 ⟨rfl,rfl⟩)
 go_quiet ((go_at_call 107;exact Calls.quiet_of_same (QZc.out _)))
 go_upto_region 13 with fail
 have D1:=Lib.hid (show Di (((w.alloc nod0).drewN nq).setCell ⟨g,2,none⟩ (.int .i64 (k+1))) g a b c d (k+1) (some ad,L,cp,l) p 0 0 from⟨(H0.out.row.drewN nq).set_ 2 _,rt_pc (H0.out.pc.below (below_drewN (Below.refl _ _) nq)) H0.out.apart _,H0.out.le,H0.out.apart⟩)
 have G1:=Lib.hid (show w.grownBy (((w.alloc nod0).drewN nq).setCell ⟨g,2,none⟩ (.int .i64 (k+1))) (some g) from only_set (only_drewN (only_below A0.out (some g)) nq) (p:=⟨g,2,none⟩) (Or.inl rfl) _)
 have N1:=Lib.hid (show Bl (((w.alloc nod0).drewN nq).setCell ⟨g,2,none⟩ (.int .i64 (k+1))) w.heap.size 75 #[.int .i64 0,.int .u64 0,.slice none 0 0,.slice none 0 0] from(N0.out.drewN nq).other (p:=⟨g,2,none⟩) (by show w.heap.size≠g;omega) _)
 have S1:=Lib.hid (show(((w.alloc nod0).drewN nq).setCell ⟨g,2,none⟩ (.int .i64 (k+1))).heap.size=w.heap.size+1 from by rw[setc_size];show(w.alloc nod0).heap.size=_;simp)
 have hc1:(((w.alloc nod0).drewN nq).setCell ⟨g,2,none⟩ (.int .i64 (k+1))).cell? (ad.add p)=some (.int .u8 2):=by
  obtain⟨ad',e',h1,-, -⟩:=pc_at D1.out.pc hx9.out
  cases e';exact h1
 clear hc c0 c1 c2 c4 c5 c6 c7 fg1 fg2 N0 H0 A0 QZc
 generalize(((w.alloc nod0).drewN nq).setCell ⟨g,2,none⟩ (.int .i64 (k+1)))=w1 at *
 have c0:w1.cell? ⟨g,0,none⟩=some (.slice (some ad) L cp):=D1.out.row.cell_ rfl
 have c1:w1.cell? ⟨g,1,none⟩=some (.int .i64 (p:Int)):=D1.out.row.cell_ rfl
 have fg1:=D1.out.row.frozen 1
 have lg1:g < w1.heap.size:=D1.out.row.lt
 go_upto_region 16 with fail
 have D2:=Lib.hid (show Di ((w1.setCell ⟨g,1,none⟩ (.int .i64 ((p:Int)+1))).alloc (.cells #[.int .i64 2,.int .u64 0,.slice none 0 0,.slice none 0 0] 75)) g a b c d (k+1) (some ad,L,cp,l) (p+1) 0 0 from Di.below ⟨D1.out.row.set_ 1 _,rt_pc D1.out.pc D1.out.apart _,by have:=HL.out;show p+1≤l.length;omega,D1.out.apart⟩ (below_one _ _))
 have G2:=Lib.hid (show w.grownBy ((w1.setCell ⟨g,1,none⟩ (.int .i64 ((p:Int)+1))).alloc (.cells #[.int .i64 2,.int .u64 0,.slice none 0 0,.slice none 0 0] 75)) (some g) from only_alloc (only_set G1.out (p:=⟨g,1,none⟩) (Or.inl rfl) _) _)
 have N2:=Lib.hid (show Bl ((w1.setCell ⟨g,1,none⟩ (.int .i64 ((p:Int)+1))).alloc (.cells #[.int .i64 2,.int .u64 0,.slice none 0 0,.slice none 0 0] 75)) w.heap.size 75 #[.int .i64 0,.int .u64 0,.slice none 0 0,.slice none 0 0] from(N1.out.other (p:=⟨g,1,none⟩) (by show w.heap.size≠g;omega) _).alloc _)
 have T2:=Lib.hid (show Bl ((w1.setCell ⟨g,1,none⟩ (.int .i64 ((p:Int)+1))).alloc (.cells #[.int .i64 2,.int .u64 0,.slice none 0 0,.slice none 0 0] 75)) (w.heap.size+1) 75 #[.int .i64 2,.int .u64 0,.slice none 0 0,.slice none 0 0] from Bl.new' _ _ (by rw[setc_size];exact S1.out))
 rw[S1.out]
 clear c0 c1 fg1 lg1 hc1 N1 G1 D1
 generalize((w1.setCell ⟨g,1,none⟩ (.int .i64 ((p:Int)+1))).alloc (.cells #[.int .i64 2,.int .u64 0,.slice none 0 0,.slice none 0 0] 75))=w2 at *
 clear S1
 clear w1
 have CT:=Lib.hid (dcount_ok D2.out (by show L≤1000000000;have:L≤1000000:=hl9;omega) hr)
 obtain⟨P9,hP9⟩:∃P9,p+1+m=P9:=⟨_,rfl⟩
 rw[hP9] at CT
 have HPP:=Lib.hid hP9
 have PLE:=Lib.hid (show P9≤l.length from by have h1:=rcl_le hr;rw[List.length_drop] at h1;have h2:=HL.out;have h3:m≤l.length - (p+1):=h1;omega)
 obtain⟨K9,hK9⟩:∃K9,L - P9=K9:=⟨_,rfl⟩
 have hsub:(L:Int) - (P9:Int)=(K9:Int):=by have:=PLE.out;have:=HL.out;omega
 have L10:L≤1000000:=hl9
 have kw:IntKind.i64.wrap (K9:Int)=(K9:Int):=by simp only[IntKind.wrap_i64];omega
 have ku:IntKind.u64.wrap (K9:Int)=(K9:Int):=by simp only[IntKind.wrap_u64];omega
 have q9:¬(K9:Int) < (n:Int):=by have h1:p+1+m+n≤l.length:=hs;have h2:=HPP.out;have h3:=HL.out;omega
 have HS9:=Lib.hid (show P9+n≤l.length from by have h1:p+1+m+n≤l.length:=hs;have h2:=HPP.out;omega)
 have zw:IntKind.u64.wrap zd=zd:=by simp only[IntKind.wrap_u64];omega
 have hn2:(n:Int)≤zd:=by omega
 have n9:n≤1000000:=by have h1:=HS9.out;have h2:=HL.out;omega
 have nw:IntKind.i64.wrap (n:Int)=(n:Int):=by simp only[IntKind.wrap_i64];omega
 obtain⟨Q9,hQ9⟩:∃Q9,P9+n=Q9:=⟨_,rfl⟩
 have aw:IntKind.i64.wrap ((P9:Int)+(n:Int))=(Q9:Int):=by have h1:=HS9.out;have h2:=HL.out;simp only[IntKind.wrap_i64];omega
 have b1:Q9≤cp:=by have h1:=HS9.out;have h2:l.length≤cp:=HP.out.cap;omega
 have b2:P9≤Q9:=by omega
 have n3:Q9 - P9=n:=by omega
 have HQ9:=Lib.hid hQ9
 obtain⟨B9,hB9⟩:∃B9,(if cp=P9 then some ad else some (ad.add P9))=B9:=⟨_,rfl⟩
 obtain⟨C9,hC9⟩:∃C9,cp - P9=C9:=⟨_,rfl⟩
 have HB9:=Lib.hid hB9
 have HC9:=Lib.hid hC9
 clear hQ9
 clear hr hl9 d0 d1 hs hK9 hP9 hn
 go_wp2_with (first|(go_at_call 131;(refine CT.out.mono ?_);rintro e w4 ⟨rfl,h1,h2⟩;have D4:=Lib.hid h1;have G4:=Lib.hid h2;have N4:=Lib.hid (show Bl w4 w.heap.size 75 _ from N2.out.grown h2 (by intro e;injection e with e;omega));have T4:=Lib.hid (show Bl w4 (w.heap.size+1) 75 _ from T2.out.grown h2 (by intro e;injection e with e;omega));have e7:w4.cell? ⟨g,7,none⟩=some (.int .i64 0):=h1.row.cell_ rfl;have y0:w4.cell? ⟨w.heap.size,0,none⟩=some (.int .i64 0):=N4.out.cell_ rfl;have f0:=N4.out.frozen 0;have y1:w4.cell? ⟨w.heap.size,1,none⟩=some (.int .u64 0):=N4.out.cell_ rfl;have f1:=N4.out.frozen 1;have y2:w4.cell? ⟨w.heap.size,2,none⟩=some (.slice none 0 0):=N4.out.cell_ rfl;have f2:=N4.out.frozen 2;have y3:w4.cell? ⟨w.heap.size,3,none⟩=some (.slice none 0 0):=N4.out.cell_ rfl;have f3:=N4.out.frozen 3;have x0:w4.cell? ⟨w.heap.size+1,0,none⟩=some (.int .i64 2):=T4.out.cell_ rfl;have g0:=T4.out.frozen 0;have x1:w4.cell? ⟨w.heap.size+1,1,none⟩=some (.int .u64 0):=T4.out.cell_ rfl;have g1:=T4.out.frozen 1;have x2:w4.cell? ⟨w.heap.size+1,2,none⟩=some (.slice none 0 0):=T4.out.cell_ rfl;have g2:=T4.out.frozen 2;have x3:w4.cell? ⟨w.heap.size+1,3,none⟩=some (.slice none 0 0):=T4.out.cell_ rfl;have g3:=T4.out.frozen 3;have m6:w4.cell? ⟨g,6,none⟩=some (.int .i64 d):=h1.row.cell_ rfl;have m1:w4.cell? ⟨g,1,none⟩=some (.int .i64 (P9:Int)):=h1.row.cell_ rfl;have m0:w4.cell? ⟨g,0,none⟩=some (.slice (some ad) L cp):=h1.row.cell_ rfl;have LT4:=Lib.hid (show w.heap.size+1 < w4.heap.size from T4.out.lt);clear h1 h2)|(go_at_call 107;(with_reducible refine(CZd.out _).mono ?_);rintro e w1 ⟨rfl,rfl⟩))
 go_quiet (fail)
 go_upto_region 29 with fail
 obtain⟨w6,hw6⟩:∃w6,w4.drewN nq=w6:=⟨_,rfl⟩
 have D5:=Lib.hid (show Di w6 g a b c d (k+1) (some ad,L,cp,l) P9 0 0 from hw6▸D4.out.below (below_drewN (Below.refl _ _) nq))
 have G5:=Lib.hid (show w.grownBy w6 (some g) from hw6▸only_drewN (only_trans G2.out G4.out) nq)
 have N6:=Lib.hid (show Bl w6 w.heap.size 75 _ from hw6▸N4.out.drewN nq)
 have T6:=Lib.hid (show Bl w6 (w.heap.size+1) 75 #[.int .i64 2,.int .u64 0,.slice none 0 0,.slice none 0 0] from hw6▸T4.out.drewN nq)
 rw[hw6]
 clear hw6 y0 y1 y2 y3 f0 f1 f2 f3 x0 x1 x2 x3 g0 g1 g2 g3 e7 m6 m0 m1 D4 N4 T4 G4 LT4
 have s0:w6.cell? ⟨g,0,none⟩=some (.slice (some ad) L cp):=D5.out.row.cell_ rfl
 have s1:w6.cell? ⟨g,1,none⟩=some (.int .i64 (P9:Int)):=D5.out.row.cell_ rfl
 have z2:w6.cell? ⟨w.heap.size+1,2,none⟩=some (.slice none 0 0):=T6.out.cell_ rfl
 have PP:=Lib.hid (show Pc w6 (B9,n,C9,(l.drop P9).take n) from by
  have h0:=pc_take (pc_drop D5.out.pc (k:=P9) (by have:=PLE.out;have:=HL.out;show P9≤L;omega)) (k:=n) (by have:=HS9.out;have:=HL.out;show n≤L - P9;omega)
  rw[←HB9.out,←HC9.out];exact h0)
 have SP:=Lib.hid (show Sl w6.drew B9 (n*1) (bl ((l.drop P9).take n)) from by have h1:=PP.out.row;have h2:n=((l.drop P9).take n).length:=PP.out.len;rw[Nat.mul_one];rw[←h2] at h1;exact h1)
 have LG6:=Lib.hid (show w.heap.size+1 < w6.heap.size from T6.out.lt)
 obtain⟨i0,hi,hz0,hz1,hz2⟩:=info_parts infob8
 have adg:=D5.out.apart
 refine wp_region_held_drew (S:=fun w'=>w'.cell? ⟨g,0,none⟩=some (.slice (some ad) L cp)∧w'.cell? ⟨g,1,none⟩=some (.int .i64 (P9:Int))) (by kernel_rfl) (by exact⟨s0,s1⟩) (fun _=>?_)
 refine take_l 0 (v:=?_) rfl (by kernel_rfl) (by kernel_rfl) (by kernel_rfl) (fun _ _ _ h=>h) (Or.inl ⟨by rfl,?_⟩) (by show World.cell? _ _=_∧World.cell? _ _=_;first|exact⟨s0,s1⟩|exact⟨t0,t1⟩|exact⟨u0,u1⟩) ?_;rotate_left
 ·intro w' hSw
  have hS0:w'.cell? ⟨g,0,none⟩=some (.slice (some ad) L cp):=hSw.1
  have hS1:w'.cell? ⟨g,1,none⟩=some (.int .i64 (P9:Int)):=hSw.2
  clear hSw
  go_simp
  all_goals with_reducible rfl
 try simp only[Act.put,List.setIfInBounds_toArray,List.set_cons_zero,List.set_cons_succ]
 refine take_l 2 (v:=?_) rfl (by kernel_rfl) (by kernel_rfl) (by kernel_rfl) (fun _ _ _ h=>h) (Or.inl ⟨by rfl,?_⟩) (by show World.cell? _ _=_∧World.cell? _ _=_;first|exact⟨s0,s1⟩|exact⟨t0,t1⟩|exact⟨u0,u1⟩) ?_;rotate_left
 ·intro w' hSw
  have hS0:w'.cell? ⟨g,0,none⟩=some (.slice (some ad) L cp):=hSw.1
  have hS1:w'.cell? ⟨g,1,none⟩=some (.int .i64 (P9:Int)):=hSw.2
  clear hSw
  go_simp
  all_goals with_reducible rfl
 try simp only[Act.put,List.setIfInBounds_toArray,List.set_cons_zero,List.set_cons_succ]
 refine take_l 3 (v:=?_) rfl (by kernel_rfl) (by kernel_rfl) (by kernel_rfl) (fun _ _ _ h=>h) (Or.inl ⟨by rfl,?_⟩) (by show World.cell? _ _=_∧World.cell? _ _=_;first|exact⟨s0,s1⟩|exact⟨t0,t1⟩|exact⟨u0,u1⟩) ?_;rotate_left
 ·intro w' hSw
  have hS0:w'.cell? ⟨g,0,none⟩=some (.slice (some ad) L cp):=hSw.1
  have hS1:w'.cell? ⟨g,1,none⟩=some (.int .i64 (P9:Int)):=hSw.2
  clear hSw
  go_simp
  all_goals with_reducible rfl
 try simp only[Act.put,List.setIfInBounds_toArray,List.set_cons_zero,List.set_cons_succ]
 refine take_l 4 (v:=?_) rfl (by kernel_rfl) (by kernel_rfl) (by kernel_rfl) (fun _ _ _ h=>h) (Or.inl ⟨by rfl,?_⟩) (by show World.cell? _ _=_∧World.cell? _ _=_;first|exact⟨s0,s1⟩|exact⟨t0,t1⟩|exact⟨u0,u1⟩) ?_;rotate_left
 ·intro w' hSw
  have hS0:w'.cell? ⟨g,0,none⟩=some (.slice (some ad) L cp):=hSw.1
  have hS1:w'.cell? ⟨g,1,none⟩=some (.int .i64 (P9:Int)):=hSw.2
  clear hSw
  go_simp
  all_goals with_reducible rfl
 try simp only[Act.put,List.setIfInBounds_toArray,List.set_cons_zero,List.set_cons_succ]
 refine take_l 5 (v:=?_) rfl (by kernel_rfl) (by kernel_rfl) (by kernel_rfl) (fun _ _ _ h=>h) (Or.inl ⟨by rfl,?_⟩) (by show World.cell? _ _=_∧World.cell? _ _=_;first|exact⟨s0,s1⟩|exact⟨t0,t1⟩|exact⟨u0,u1⟩) ?_;rotate_left
 ·intro w' hSw
  have hS0:w'.cell? ⟨g,0,none⟩=some (.slice (some ad) L cp):=hSw.1
  have hS1:w'.cell? ⟨g,1,none⟩=some (.int .i64 (P9:Int)):=hSw.2
  clear hSw
  go_simp
  all_goals with_reducible rfl
 try simp only[Act.put,List.setIfInBounds_toArray,List.set_cons_zero,List.set_cons_succ]
 refine take_l 6 (v:=?_) rfl (by kernel_rfl) (by kernel_rfl) (by kernel_rfl) (fun _ _ _ h=>h) (Or.inl ⟨by rfl,?_⟩) (by show World.cell? _ _=_∧World.cell? _ _=_;first|exact⟨s0,s1⟩|exact⟨t0,t1⟩|exact⟨u0,u1⟩) ?_;rotate_left
 ·intro w' hSw
  have hS0:w'.cell? ⟨g,0,none⟩=some (.slice (some ad) L cp):=hSw.1
  have hS1:w'.cell? ⟨g,1,none⟩=some (.int .i64 (P9:Int)):=hSw.2
  clear hSw
  go_simp
  all_goals with_reducible rfl
 try simp only[Act.put,List.setIfInBounds_toArray,List.set_cons_zero,List.set_cons_succ]
 refine take_l 7 (v:=?_) rfl (by kernel_rfl) (by kernel_rfl) (by kernel_rfl) (fun _ _ _ h=>h) (Or.inl ⟨by rfl,?_⟩) (by show World.cell? _ _=_∧World.cell? _ _=_;first|exact⟨s0,s1⟩|exact⟨t0,t1⟩|exact⟨u0,u1⟩) ?_;rotate_left
 ·intro w' hSw
  have hS0:w'.cell? ⟨g,0,none⟩=some (.slice (some ad) L cp):=hSw.1
  have hS1:w'.cell? ⟨g,1,none⟩=some (.int .i64 (P9:Int)):=hSw.2
  clear hSw
  go_simp
  all_goals with_reducible rfl
 try simp only[Act.put,List.setIfInBounds_toArray,List.set_cons_zero,List.set_cons_succ]
 refine take_l 8 (v:=?_) rfl (by kernel_rfl) (by kernel_rfl) (by kernel_rfl) (fun _ _ _ h=>h) (Or.inl ⟨by rfl,?_⟩) (by show World.cell? _ _=_∧World.cell? _ _=_;first|exact⟨s0,s1⟩|exact⟨t0,t1⟩|exact⟨u0,u1⟩) ?_;rotate_left
 ·intro w' hSw
  have hS0:w'.cell? ⟨g,0,none⟩=some (.slice (some ad) L cp):=hSw.1
  have hS1:w'.cell? ⟨g,1,none⟩=some (.int .i64 (P9:Int)):=hSw.2
  clear hSw
  go_simp
  all_goals with_reducible rfl
 try simp only[Act.put,List.setIfInBounds_toArray,List.set_cons_zero,List.set_cons_succ]
 refine take_l 9 (v:=?_) rfl (by kernel_rfl) (by kernel_rfl) (by kernel_rfl) (fun _ _ _ h=>h) (Or.inl ⟨by rfl,?_⟩) (by show World.cell? _ _=_∧World.cell? _ _=_;first|exact⟨s0,s1⟩|exact⟨t0,t1⟩|exact⟨u0,u1⟩) ?_;rotate_left
 ·intro w' hSw
  have hS0:w'.cell? ⟨g,0,none⟩=some (.slice (some ad) L cp):=hSw.1
  have hS1:w'.cell? ⟨g,1,none⟩=some (.int .i64 (P9:Int)):=hSw.2
  clear hSw
  go_simp
  all_goals with_reducible rfl
 try simp only[Act.put,List.setIfInBounds_toArray,List.set_cons_zero,List.set_cons_succ]
 refine take_l 10 (v:=?_) rfl (by kernel_rfl) (by kernel_rfl) (by kernel_rfl) (fun _ _ _ h=>h) (Or.inl ⟨by rfl,?_⟩) (by show World.cell? _ _=_∧World.cell? _ _=_;first|exact⟨s0,s1⟩|exact⟨t0,t1⟩|exact⟨u0,u1⟩) ?_;rotate_left
 ·intro w' hSw
  have hS0:w'.cell? ⟨g,0,none⟩=some (.slice (some ad) L cp):=hSw.1
  have hS1:w'.cell? ⟨g,1,none⟩=some (.int .i64 (P9:Int)):=hSw.2
  clear hSw
  go_simp
  all_goals with_reducible rfl
 try simp only[Act.put,List.setIfInBounds_toArray,List.set_cons_zero,List.set_cons_succ]
 refine take_l 11 (v:=?_) rfl (by kernel_rfl) (by kernel_rfl) (by kernel_rfl) (fun _ _ _ h=>h) (Or.inl ⟨by rfl,?_⟩) (by show World.cell? _ _=_∧World.cell? _ _=_;first|exact⟨s0,s1⟩|exact⟨t0,t1⟩|exact⟨u0,u1⟩) ?_;rotate_left
 ·intro w' hSw
  have hS0:w'.cell? ⟨g,0,none⟩=some (.slice (some ad) L cp):=hSw.1
  have hS1:w'.cell? ⟨g,1,none⟩=some (.int .i64 (P9:Int)):=hSw.2
  clear hSw
  go_simp
  all_goals with_reducible rfl
 try simp only[Act.put,List.setIfInBounds_toArray,List.set_cons_zero,List.set_cons_succ]
 refine take_l 12 (v:=?_) rfl (by kernel_rfl) (by kernel_rfl) (by kernel_rfl) (fun _ _ _ h=>h) (Or.inl ⟨by rfl,?_⟩) (by show World.cell? _ _=_∧World.cell? _ _=_;first|exact⟨s0,s1⟩|exact⟨t0,t1⟩|exact⟨u0,u1⟩) ?_;rotate_left
 ·intro w' hSw
  have hS0:w'.cell? ⟨g,0,none⟩=some (.slice (some ad) L cp):=hSw.1
  have hS1:w'.cell? ⟨g,1,none⟩=some (.int .i64 (P9:Int)):=hSw.2
  clear hSw
  go_simp
  all_goals with_reducible rfl
 try simp only[Act.put,List.setIfInBounds_toArray,List.set_cons_zero,List.set_cons_succ]
 refine take_l 13 (v:=?_) rfl (by kernel_rfl) (by kernel_rfl) (by kernel_rfl) (fun _ _ _ h=>h) (Or.inl ⟨by rfl,?_⟩) (by show World.cell? _ _=_∧World.cell? _ _=_;first|exact⟨s0,s1⟩|exact⟨t0,t1⟩|exact⟨u0,u1⟩) ?_;rotate_left
 ·intro w' hSw
  have hS0:w'.cell? ⟨g,0,none⟩=some (.slice (some ad) L cp):=hSw.1
  have hS1:w'.cell? ⟨g,1,none⟩=some (.int .i64 (P9:Int)):=hSw.2
  clear hSw
  go_simp
  all_goals with_reducible rfl
 try simp only[Act.put,List.setIfInBounds_toArray,List.set_cons_zero,List.set_cons_succ]
 refine take_l 14 (v:=?_) rfl (by kernel_rfl) (by kernel_rfl) (by kernel_rfl) (fun _ _ _ h=>h) (Or.inl ⟨by rfl,?_⟩) (by show World.cell? _ _=_∧World.cell? _ _=_;first|exact⟨s0,s1⟩|exact⟨t0,t1⟩|exact⟨u0,u1⟩) ?_;rotate_left
 ·intro w' hSw
  have hS0:w'.cell? ⟨g,0,none⟩=some (.slice (some ad) L cp):=hSw.1
  have hS1:w'.cell? ⟨g,1,none⟩=some (.int .i64 (P9:Int)):=hSw.2
  clear hSw
  go_simp
  all_goals with_reducible rfl
 try simp only[Act.put,List.setIfInBounds_toArray,List.set_cons_zero,List.set_cons_succ]
 refine take_l 15 (v:=?_) rfl (by kernel_rfl) (by kernel_rfl) (by kernel_rfl) (fun _ _ _ h=>h) (Or.inl ⟨by rfl,?_⟩) (by show World.cell? _ _=_∧World.cell? _ _=_;first|exact⟨s0,s1⟩|exact⟨t0,t1⟩|exact⟨u0,u1⟩) ?_;rotate_left
 ·intro w' hSw
  have hS0:w'.cell? ⟨g,0,none⟩=some (.slice (some ad) L cp):=hSw.1
  have hS1:w'.cell? ⟨g,1,none⟩=some (.int .i64 (P9:Int)):=hSw.2
  clear hSw
  go_simp
  all_goals with_reducible rfl
 try simp only[Act.put,List.setIfInBounds_toArray,List.set_cons_zero,List.set_cons_succ]
 refine take_l 16 (v:=?_) rfl (by kernel_rfl) (by kernel_rfl) (by kernel_rfl) (fun _ _ _ h=>h) (Or.inl ⟨by rfl,?_⟩) (by show World.cell? _ _=_∧World.cell? _ _=_;first|exact⟨s0,s1⟩|exact⟨t0,t1⟩|exact⟨u0,u1⟩) ?_;rotate_left
 ·intro w' hSw
  have hS0:w'.cell? ⟨g,0,none⟩=some (.slice (some ad) L cp):=hSw.1
  have hS1:w'.cell? ⟨g,1,none⟩=some (.int .i64 (P9:Int)):=hSw.2
  clear hSw
  go_simp
  all_goals with_reducible rfl
 try simp only[Act.put,List.setIfInBounds_toArray,List.set_cons_zero,List.set_cons_succ]
 refine take_l 17 (v:=?_) rfl (by kernel_rfl) (by kernel_rfl) (by kernel_rfl) (fun _ _ _ h=>h) (Or.inl ⟨by rfl,?_⟩) (by show World.cell? _ _=_∧World.cell? _ _=_;first|exact⟨s0,s1⟩|exact⟨t0,t1⟩|exact⟨u0,u1⟩) ?_;rotate_left
 ·intro w' hSw
  have hS0:w'.cell? ⟨g,0,none⟩=some (.slice (some ad) L cp):=hSw.1
  have hS1:w'.cell? ⟨g,1,none⟩=some (.int .i64 (P9:Int)):=hSw.2
  clear hSw
  go_simp
  all_goals with_reducible rfl
 try simp only[Act.put,List.setIfInBounds_toArray,List.set_cons_zero,List.set_cons_succ]
 refine wpAnyH_ready (rs:=[1]) (by kernel_rfl) (by simp) ?_
 refine cons_l rfl (fun K0 hK=>?_) AllReadyH.nil
 go_simp
 refine hK.out _ _ (by show World.cell? _ _=_∧World.cell? _ _=_;first|exact⟨s0,s1⟩|exact⟨t0,t1⟩|exact⟨u0,u1⟩) (fun _=>?_)
 clear hK K0
 try simp only[Act.put,List.setIfInBounds_toArray,List.set_cons_zero,List.set_cons_succ]
 refine wpAnyH_ready (rs:=[18]) (by kernel_rfl) (by simp) ?_
 refine cons_l rfl (fun K0 hK=>?_) AllReadyH.nil
 refine step_append_at w6.drew rfl _ _ 25 rfl w6.heap.size 5 i0 _ 1 1 Tryz.underlying25 hi hz0 hz1 hz2 rfl (by decide) (.slice none 0 0) 0 [] rfl ⟨rfl,.inl ⟨rfl,rfl⟩⟩ B9 n C9 (bl ((l.drop P9).take n)) rfl PP.out.nil SP.out (bl_one _) (by unfold maxLen;omega) (by omega) (Nat.le_refl _) ?_
 intro v7 w7 hown7 hgrow7 hat7
 rw[List.nil_append,Nat.zero_add] at hown7
 have GR:=Lib.hid (show Below w6.heap.size w6 w7 from⟨hgrow7.os,hgrow7.tape,hgrow7.output,hgrow7.size,fun i hi=>hgrow7.block i hi (by intro e;cases e)⟩)
 have OW:=Lib.hid hown7
 obtain⟨E7,cap7,rfl,-, -, -, -, hE7⟩:=Sl.own hown7
 have HE7:=Lib.hid hE7
 have P7:=Lib.hid (show Pc w7 (E7,n,cap7,(l.drop P9).take n) from by
  obtain⟨A8,c8,e8,h8⟩:=own_any hown7 (PP.out.len).symm PP.out.lt
  cases e8;exact h8)
 have D7:=Lib.hid (D5.out.below GR.out)
 have T7:=Lib.hid (T6.out.below' GR.out)
 have t0:w7.cell? ⟨g,0,none⟩=some (.slice (some ad) L cp):=D7.out.row.cell_ rfl
 have t1:w7.cell? ⟨g,1,none⟩=some (.int .i64 (P9:Int)):=D7.out.row.cell_ rfl
 have t2:w7.cell? ⟨w.heap.size+1,2,none⟩=some (.slice none 0 0):=T7.out.cell_ rfl
 have ft2:=T7.out.frozen 2
 have PX:=Lib.hid (show ∀q,w.heap.size≤q→∀ad_,(some ad:Option Addr)=some ad_→0 < l.length→ad_.block≠q from fun q hq ad_ e hn=>by have:=pc_lt HP.out ad_ e hn;omega)
 have D8:=Lib.hid (set_di D7.out (q:=w.heap.size+1) (by omega) (PX.out _ (Nat.le_succ _)) 2 (.slice E7 n cap7))
 have u0:(w7.setCell ⟨w.heap.size+1,2,none⟩ (.slice E7 n cap7)).cell? ⟨g,0,none⟩=some (.slice (some ad) L cp):=D8.out.row.cell_ rfl
 have u1:(w7.setCell ⟨w.heap.size+1,2,none⟩ (.slice E7 n cap7)).cell? ⟨g,1,none⟩=some (.int .i64 (P9:Int)):=D8.out.row.cell_ rfl
 clear hown7 hgrow7 hat7 hE7
 refine hK.out _ _ (by show World.cell? _ _=_∧World.cell? _ _=_;first|exact⟨s0,s1⟩|exact⟨t0,t1⟩|exact⟨u0,u1⟩) (fun _=>?_)
 clear hK K0
 try simp only[Act.put,List.setIfInBounds_toArray,List.set_cons_zero,List.set_cons_succ]
 refine wpAnyH_ready (rs:=[19]) (by kernel_rfl) (by simp) ?_
 refine cons_l rfl (fun K0 hK=>?_) AllReadyH.nil
 go_simp
 refine hK.out _ _ (by show World.cell? _ _=_∧World.cell? _ _=_;first|exact⟨s0,s1⟩|exact⟨t0,t1⟩|exact⟨u0,u1⟩) (fun _=>?_)
 clear hK K0
 try simp only[Act.put,List.setIfInBounds_toArray,List.set_cons_zero,List.set_cons_succ]
 refine wpAnyH_ready (rs:=[20]) (by kernel_rfl) (by simp) ?_
 refine cons_l rfl (fun K0 hK=>?_) AllReadyH.nil
 go_simp
 refine hK.out _ _ (by show World.cell? _ _=_∧World.cell? _ _=_;first|exact⟨s0,s1⟩|exact⟨t0,t1⟩|exact⟨u0,u1⟩) (fun _=>?_)
 clear hK K0
 try simp only[Act.put,List.setIfInBounds_toArray,List.set_cons_zero,List.set_cons_succ]
 refine wpAnyH_done (by kernel_rfl) ?_ _
 have fu1:=D8.out.row.frozen 1
 have N7:=Lib.hid (show Bl w7 w.heap.size 75 _ from N6.out.below' GR.out)
 have N8:=Lib.hid (show Bl (w7.setCell ⟨w.heap.size+1,2,none⟩ (.slice E7 n cap7)) w.heap.size 75 #[.int .i64 0,.int .u64 0,.slice none 0 0,.slice none 0 0] from N7.out.other (p:=⟨w.heap.size+1,2,none⟩) (by show w.heap.size≠w.heap.size+1;omega) _)
 have T8:=Lib.hid (show Bl (w7.setCell ⟨w.heap.size+1,2,none⟩ (.slice E7 n cap7)) (w.heap.size+1) 75 #[.int .i64 2,.int .u64 0,.slice E7 n cap7,.slice none 0 0] from T7.out.set_ 2 _)
 have G7:=Lib.hid (show w.grownBy (w7.setCell ⟨w.heap.size+1,2,none⟩ (.slice E7 n cap7)) (some g) from only_set (only_then G5.out (GR.out.mono G5.out.size)) (p:=⟨w.heap.size+1,2,none⟩) (Or.inr (Nat.le_succ _)) _)
 have P8:=Lib.hid (pc_set P7.out (q:=w.heap.size+1) (fun ad_ e hn=>by have h1:=(HE7.out ad_ e).1;have h2:=LG6.out;omega) 2 (.slice E7 n cap7))
 clear t0 t1 t2 ft2 s0 s1 z2 D7 T7 N7 GR OW P7 PP SP N6 T6 D5 G5
 generalize w7.setCell ⟨w.heap.size+1,2,none⟩ (.slice E7 n cap7)=w8 at *
 have y0:w8.cell? ⟨w.heap.size,0,none⟩=some (.int .i64 0):=N8.out.cell_ rfl
 have f0:=N8.out.frozen 0
 have y1:w8.cell? ⟨w.heap.size,1,none⟩=some (.int .u64 0):=N8.out.cell_ rfl
 have f1:=N8.out.frozen 1
 have y2:w8.cell? ⟨w.heap.size,2,none⟩=some (.slice none 0 0):=N8.out.cell_ rfl
 have f2:=N8.out.frozen 2
 have y3:w8.cell? ⟨w.heap.size,3,none⟩=some (.slice none 0 0):=N8.out.cell_ rfl
 have f3:=N8.out.frozen 3
 have x0:w8.cell? ⟨w.heap.size+1,0,none⟩=some (.int .i64 2):=T8.out.cell_ rfl
 have x1:w8.cell? ⟨w.heap.size+1,1,none⟩=some (.int .u64 0):=T8.out.cell_ rfl
 have x2:w8.cell? ⟨w.heap.size+1,2,none⟩=some (.slice E7 n cap7):=T8.out.cell_ rfl
 have x3:w8.cell? ⟨w.heap.size+1,3,none⟩=some (.slice none 0 0):=T8.out.cell_ rfl
 go_wp2_with fail
 have D9:=Lib.hid (show Di (w8.setCell ⟨g,1,none⟩ (.int .i64 (Q9:Int))) g a b c d (k+1) (some ad,L,cp,l) Q9 0 0 from⟨D8.out.row.set_ 1 _,rt_pc D8.out.pc D8.out.apart _,by have:=HS9.out;have:=HQ9.out;show Q9≤l.length;omega,D8.out.apart⟩)
 have N9:=Lib.hid (show Bl (w8.setCell ⟨g,1,none⟩ (.int .i64 (Q9:Int))) w.heap.size 75 _ from N8.out.other (p:=⟨g,1,none⟩) (by show w.heap.size≠g;omega) _)
 have P9_:=pc_set P8.out (q:=g) (fun ad_ e hn=>by have h1:=(HE7.out ad_ e).1;have h2:=LG6.out;omega) 1 (.int .i64 (Q9:Int))
 have HL4:=Lib.hid (st4_bl N9.out (.int .i64 2) (.int .u64 0) (.slice E7 n cap7) (.slice none 0 0))
 refine⟨rfl,_,results_c rfl _ _ _ ⟨w.heap.size,0,none⟩ _ (by kernel_rfl) (run_loadVar_row _ w.heap.size 75 75 _ (0,0) _ HL4.out Tryz.underlying75 rfl size34),?_⟩
 have hf:=dfin (t:=.mk 2 0 (E7,n,cap7,(l.drop P9).take n) none 0 []) rfl rfl HP.out (only_set G7.out (p:=⟨g,1,none⟩) (Or.inl rfl) (.int .i64 (Q9:Int))) D9.out (ok_leaf (by decide) P9_) (by rw[lies];exact⟨fun ad_ e _=>(by have h1:=(HE7.out ad_ e).1;have h2:=LG6.out;omega),fun ad_ e=>(by cases e),by rw[liess];trivial⟩) glt
 show DgQ (.mk 2 0 ((l.drop (p+1+m)).take n) []) (p+1+m+n) w g a b c d (k+1) _ _ _
 rw[HPP.out,HQ9.out]
 exact hf
end Go.Proofs.YteblmphohhbgcaaGreat.Wr
