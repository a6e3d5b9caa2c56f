/- Joined texts. -/
import Derived.Deep.LoopGhost
import Derived.Test.YteblmphohhbgcaaQaWrTval
set_option linter.unusedVariables false
namespace Go.Proofs.Yteblmphohhbgcaa.Wr
open Go.RowKit Go.Proofs.Yteblmphohhbgcaa.Gn Go.Proofs.Yteblmphohhbgcaa.Fd Go.Deep
set_option maxHeartbeats 4000000 in
set_option maxRecDepth 100000 in
theorem tval_numbad{w:World}{g:Nat}{a b c d k:Int}{r:Rw}{p:Nat}(h:Rt w g a b c d k r p)(deep:Int)(hp:¬p=r.2.2.2.length)(hd:¬b < deep)(hk:¬k=c)(k0:0≤k)(k1:k≤1000000)(hl9:r.2.1≤1000000)(hx:r.2.2.2[p]?=some 1){n m e:Nat}(hr:rcl (r.2.2.2.drop (p+1))=(n,m,e))(he:e≠0) :
  Calls Try.prog 84 #[.pointer (some ⟨g,0,none⟩),.int .i64 deep] w fun e_ w'=>e_=pan (((p+1:Nat):Int)+(m:Int)) e∧w.grownBy w' (some g):=by
 obtain⟨A,L,cp,l⟩:=r
 have hL:L=l.length:=h.pc.len
 have hple:p≤l.length:=h.le
 have q0:¬(p:Int)=(L:Int):=fun e=>hp (by show p=l.length;omega)
 have hpl:p < L:=by have:¬p=l.length:=hp;omega
 have A0:=Lib.hid (below_one w nod0)
 have H0:=Lib.hid (h.below A0.out)
 have N0:=Lib.hid (Bl.new_ w 80 #[.int .i64 0,.int .u64 0,.slice none 0 0,.slice none 0 0])
 have c5:(w.alloc nod0).cell? ⟨g,5,none⟩=some (.slice A L cp):=H0.out.row.cell_ rfl
 have c6:(w.alloc nod0).cell? ⟨g,6,none⟩=some (.int .i64 (p:Int)):=H0.out.row.cell_ rfl
 have CB:=Lib.hid (fun x=>tbegin_ok H0.out x deep hd hk k0 k1)
 have glt:g < w.heap.size:=h.row.lt
 have HP:=Lib.hid h.pc
 have HL:=Lib.hid hL
 clear h hp hL hd hk
 go_enter Try.func84,Try.ntmps84
 go_upto_region 6 with(go_at_call 91;(refine(CB.out _).mono ?_);rintro e w1 ⟨rfl,h1,q,h2⟩;have R1:=Lib.hid h1;have G1:=Lib.hid (show(w.alloc nod0).grownBy w1 (some g) from by rw[h2];exact only_set (only_drewN (World.grownBy.refl _ (some g)) q) (p:=⟨g,4,none⟩) (Or.inl rfl) _);have d6:w1.cell? ⟨g,6,none⟩=some (.int .i64 (p:Int)):=h1.row.cell_ rfl;have e6:=h1.row.frozen 6;have d5:w1.cell? ⟨g,5,none⟩=some (.slice A L cp):=h1.row.cell_ rfl;clear h1 h2)
 have R2:=Lib.hid (show Rt (w1.setCell ⟨g,6,none⟩ (.int .i64 ((p:Int)+1))) g a b c d (k+1) (A,L,cp,l) (p+1) from⟨R1.out.row.set_ 6 _,rt_pc R1.out.pc R1.out.apart _,by have:=HL.out;show p+1≤l.length;omega,R1.out.apart⟩)
 have G2:=Lib.hid (only_set G1.out (p:=⟨g,6,none⟩) (Or.inl rfl) (.int .i64 ((p:Int)+1)))
 clear R1 G1 d6 e6 d5 c5 c6 CB
 generalize w1.setCell ⟨g,6,none⟩ (.int .i64 ((p:Int)+1))=w2 at *
 clear w1
 have N2:=Lib.hid (N0.out.grown G2.out (by intro e;injection e with e;omega))
 have GW:=Lib.hid (only_trans (only_below A0.out (some g)) G2.out)
 obtain⟨ad,rfl,hc0,-, -⟩:=pc_at R2.out.pc hx
 have hc:w2.cell? (ad.add p)=some (.int .u8 1):=hc0
 have d5:w2.cell? ⟨g,5,none⟩=some (.slice (some ad) L cp):=R2.out.row.cell_ rfl
 clear hc0 hx
 have CT:=Lib.hid (tcount_bad R2.out (by show L≤1000000000;have:L≤1000000:=hl9;omega) hr he)
 clear hr he hl9
 go_wp2_with (go_at_call 96;(refine CT.out.mono ?_);rintro e w3 ⟨rfl,q2,rfl⟩)
 exact⟨rfl,rfl,only_drewN GW.out q2⟩
set_option maxHeartbeats 4000000 in
set_option maxRecDepth 100000 in
theorem tval_bytesbad{w:World}{g:Nat}{a b c d k:Int}{r:Rw}{p:Nat}(h:Rt w g a b c d k r p)(deep:Int)(hp:¬p=r.2.2.2.length)(hd:¬b < deep)(hk:¬k=c)(k0:0≤k)(k1:k≤1000000)(hl9:r.2.1≤1000000)(hx:r.2.2.2[p]?=some 2){n m e:Nat}(hr:rcl (r.2.2.2.drop (p+1))=(n,m,e))(he:e≠0) :
  Calls Try.prog 84 #[.pointer (some ⟨g,0,none⟩),.int .i64 deep] w fun e_ w'=>e_=pan (((p+1:Nat):Int)+(m:Int)) e∧w.grownBy w' (some g):=by
 obtain⟨A,L,cp,l⟩:=r
 have hL:L=l.length:=h.pc.len
 have hple:p≤l.length:=h.le
 have q0:¬(p:Int)=(L:Int):=fun e=>hp (by show p=l.length;omega)
 have hpl:p < L:=by have:¬p=l.length:=hp;omega
 have A0:=Lib.hid (below_one w nod0)
 have H0:=Lib.hid (h.below A0.out)
 have N0:=Lib.hid (Bl.new_ w 80 #[.int .i64 0,.int .u64 0,.slice none 0 0,.slice none 0 0])
 have c5:(w.alloc nod0).cell? ⟨g,5,none⟩=some (.slice A L cp):=H0.out.row.cell_ rfl
 have c6:(w.alloc nod0).cell? ⟨g,6,none⟩=some (.int .i64 (p:Int)):=H0.out.row.cell_ rfl
 have CB:=Lib.hid (fun x=>tbegin_ok H0.out x deep hd hk k0 k1)
 have glt:g < w.heap.size:=h.row.lt
 have HP:=Lib.hid h.pc
 have HL:=Lib.hid hL
 clear h hp hL hd hk
 go_enter Try.func84,Try.ntmps84
 go_upto_region 6 with(go_at_call 91;(refine(CB.out _).mono ?_);rintro e w1 ⟨rfl,h1,q,h2⟩;have R1:=Lib.hid h1;have G1:=Lib.hid (show(w.alloc nod0).grownBy w1 (some g) from by rw[h2];exact only_set (only_drewN (World.grownBy.refl _ (some g)) q) (p:=⟨g,4,none⟩) (Or.inl rfl) _);have d6:w1.cell? ⟨g,6,none⟩=some (.int .i64 (p:Int)):=h1.row.cell_ rfl;have e6:=h1.row.frozen 6;have d5:w1.cell? ⟨g,5,none⟩=some (.slice A L cp):=h1.row.cell_ rfl;clear h1 h2)
 have R2:=Lib.hid (show Rt (w1.setCell ⟨g,6,none⟩ (.int .i64 ((p:Int)+1))) g a b c d (k+1) (A,L,cp,l) (p+1) from⟨R1.out.row.set_ 6 _,rt_pc R1.out.pc R1.out.apart _,by have:=HL.out;show p+1≤l.length;omega,R1.out.apart⟩)
 have G2:=Lib.hid (only_set G1.out (p:=⟨g,6,none⟩) (Or.inl rfl) (.int .i64 ((p:Int)+1)))
 clear R1 G1 d6 e6 d5 c5 c6 CB
 generalize w1.setCell ⟨g,6,none⟩ (.int .i64 ((p:Int)+1))=w2 at *
 clear w1
 have N2:=Lib.hid (N0.out.grown G2.out (by intro e;injection e with e;omega))
 have GW:=Lib.hid (only_trans (only_below A0.out (some g)) G2.out)
 obtain⟨ad,rfl,hc0,-, -⟩:=pc_at R2.out.pc hx
 have hc:w2.cell? (ad.add p)=some (.int .u8 2):=hc0
 have d5:w2.cell? ⟨g,5,none⟩=some (.slice (some ad) L cp):=R2.out.row.cell_ rfl
 clear hc0 hx
 have CT:=Lib.hid (tpiece_bad R2.out (by show L≤1000000000;have:L≤1000000:=hl9;omega) hr he)
 clear hr he hl9
 go_wp2_with (go_at_call 97;(refine CT.out.mono ?_);rintro e w3 ⟨rfl,h2⟩;have G3:=Lib.hid h2;clear h2)
 exact⟨rfl,rfl,only_trans GW.out G3.out⟩
set_option maxHeartbeats 4000000 in
set_option maxRecDepth 100000 in
theorem tval_listbad{w:World}{g:Nat}{a b c d k:Int}{r:Rw}{p:Nat}(h:Rt w g a b c d k r p)(deep:Int)(hp:¬p=r.2.2.2.length)(hd:¬b < deep)(hk:¬k=c)(k0:0≤k)(k1:k≤1000000)(hl9:r.2.1≤1000000)(hx:r.2.2.2[p]?=some 3){n m e:Nat}(hr:rcl (r.2.2.2.drop (p+1))=(n,m,e))(he:e≠0) :
  Calls Try.prog 84 #[.pointer (some ⟨g,0,none⟩),.int .i64 deep] w fun e_ w'=>e_=pan (((p+1:Nat):Int)+(m:Int)) e∧w.grownBy w' (some g):=by
 obtain⟨A,L,cp,l⟩:=r
 have hL:L=l.length:=h.pc.len
 have hple:p≤l.length:=h.le
 have q0:¬(p:Int)=(L:Int):=fun e=>hp (by show p=l.length;omega)
 have hpl:p < L:=by have:¬p=l.length:=hp;omega
 have A0:=Lib.hid (below_one w nod0)
 have H0:=Lib.hid (h.below A0.out)
 have N0:=Lib.hid (Bl.new_ w 80 #[.int .i64 0,.int .u64 0,.slice none 0 0,.slice none 0 0])
 have c5:(w.alloc nod0).cell? ⟨g,5,none⟩=some (.slice A L cp):=H0.out.row.cell_ rfl
 have c6:(w.alloc nod0).cell? ⟨g,6,none⟩=some (.int .i64 (p:Int)):=H0.out.row.cell_ rfl
 have CB:=Lib.hid (fun x=>tbegin_ok H0.out x deep hd hk k0 k1)
 have glt:g < w.heap.size:=h.row.lt
 have HP:=Lib.hid h.pc
 have HL:=Lib.hid hL
 clear h hp hL hd hk
 go_enter Try.func84,Try.ntmps84
 go_upto_region 6 with(go_at_call 91;(refine(CB.out _).mono ?_);rintro e w1 ⟨rfl,h1,q,h2⟩;have R1:=Lib.hid h1;have G1:=Lib.hid (show(w.alloc nod0).grownBy w1 (some g) from by rw[h2];exact only_set (only_drewN (World.grownBy.refl _ (some g)) q) (p:=⟨g,4,none⟩) (Or.inl rfl) _);have d6:w1.cell? ⟨g,6,none⟩=some (.int .i64 (p:Int)):=h1.row.cell_ rfl;have e6:=h1.row.frozen 6;have d5:w1.cell? ⟨g,5,none⟩=some (.slice A L cp):=h1.row.cell_ rfl;clear h1 h2)
 have R2:=Lib.hid (show Rt (w1.setCell ⟨g,6,none⟩ (.int .i64 ((p:Int)+1))) g a b c d (k+1) (A,L,cp,l) (p+1) from⟨R1.out.row.set_ 6 _,rt_pc R1.out.pc R1.out.apart _,by have:=HL.out;show p+1≤l.length;omega,R1.out.apart⟩)
 have G2:=Lib.hid (only_set G1.out (p:=⟨g,6,none⟩) (Or.inl rfl) (.int .i64 ((p:Int)+1)))
 clear R1 G1 d6 e6 d5 c5 c6 CB
 generalize w1.setCell ⟨g,6,none⟩ (.int .i64 ((p:Int)+1))=w2 at *
 clear w1
 have N2:=Lib.hid (N0.out.grown G2.out (by intro e;injection e with e;omega))
 have GW:=Lib.hid (only_trans (only_below A0.out (some g)) G2.out)
 obtain⟨ad,rfl,hc0,-, -⟩:=pc_at R2.out.pc hx
 have hc:w2.cell? (ad.add p)=some (.int .u8 3):=hc0
 have d5:w2.cell? ⟨g,5,none⟩=some (.slice (some ad) L cp):=R2.out.row.cell_ rfl
 clear hc0 hx
 have CT:=Lib.hid (tcount_bad R2.out (by show L≤1000000000;have:L≤1000000:=hl9;omega) hr he)
 clear hr he hl9
 go_wp2_with (go_at_call 96;(refine CT.out.mono ?_);rintro e w3 ⟨rfl,q2,rfl⟩)
 exact⟨rfl,rfl,only_drewN GW.out q2⟩
set_option maxHeartbeats 4000000 in
set_option maxRecDepth 100000 in
theorem tval_long{w:World}{g:Nat}{a b c d k:Int}{r:Rw}{p:Nat}(h:Rt w g a b c d k r p)(deep:Int)(hp:¬p=r.2.2.2.length)(hd:¬b < deep)(hk:¬k=c)(k0:0≤k)(k1:k≤1000000)(hl9:r.2.1≤1000000)(hx:r.2.2.2[p]?=some 2){n m:Nat}(hr:rcl (r.2.2.2.drop (p+1))=(n,m,0))(d0:0≤d)(d1:d≤9223372036854775807)(hn:d < (n:Int)) :
  Calls Try.prog 84 #[.pointer (some ⟨g,0,none⟩),.int .i64 deep] w fun e_ w'=>e_=pan ((p+1:Nat):Int) 2∧w.grownBy w' (some g):=by
 obtain⟨A,L,cp,l⟩:=r
 have hL:L=l.length:=h.pc.len
 have hple:p≤l.length:=h.le
 have q0:¬(p:Int)=(L:Int):=fun e=>hp (by show p=l.length;omega)
 have hpl:p < L:=by have:¬p=l.length:=hp;omega
 have A0:=Lib.hid (below_one w nod0)
 have H0:=Lib.hid (h.below A0.out)
 have N0:=Lib.hid (Bl.new_ w 80 #[.int .i64 0,.int .u64 0,.slice none 0 0,.slice none 0 0])
 have c5:(w.alloc nod0).cell? ⟨g,5,none⟩=some (.slice A L cp):=H0.out.row.cell_ rfl
 have c6:(w.alloc nod0).cell? ⟨g,6,none⟩=some (.int .i64 (p:Int)):=H0.out.row.cell_ rfl
 have CB:=Lib.hid (fun x=>tbegin_ok H0.out x deep hd hk k0 k1)
 have glt:g < w.heap.size:=h.row.lt
 have HP:=Lib.hid h.pc
 have HL:=Lib.hid hL
 clear h hp hL hd hk
 go_enter Try.func84,Try.ntmps84
 go_upto_region 6 with(go_at_call 91;(refine(CB.out _).mono ?_);rintro e w1 ⟨rfl,h1,q,h2⟩;have R1:=Lib.hid h1;have G1:=Lib.hid (show(w.alloc nod0).grownBy w1 (some g) from by rw[h2];exact only_set (only_drewN (World.grownBy.refl _ (some g)) q) (p:=⟨g,4,none⟩) (Or.inl rfl) _);have d6:w1.cell? ⟨g,6,none⟩=some (.int .i64 (p:Int)):=h1.row.cell_ rfl;have e6:=h1.row.frozen 6;have d5:w1.cell? ⟨g,5,none⟩=some (.slice A L cp):=h1.row.cell_ rfl;clear h1 h2)
 have R2:=Lib.hid (show Rt (w1.setCell ⟨g,6,none⟩ (.int .i64 ((p:Int)+1))) g a b c d (k+1) (A,L,cp,l) (p+1) from⟨R1.out.row.set_ 6 _,rt_pc R1.out.pc R1.out.apart _,by have:=HL.out;show p+1≤l.length;omega,R1.out.apart⟩)
 have G2:=Lib.hid (only_set G1.out (p:=⟨g,6,none⟩) (Or.inl rfl) (.int .i64 ((p:Int)+1)))
 clear R1 G1 d6 e6 d5 c5 c6 CB
 generalize w1.setCell ⟨g,6,none⟩ (.int .i64 ((p:Int)+1))=w2 at *
 clear w1
 have N2:=Lib.hid (N0.out.grown G2.out (by intro e;injection e with e;omega))
 have GW:=Lib.hid (only_trans (only_below A0.out (some g)) G2.out)
 obtain⟨ad,rfl,hc0,-, -⟩:=pc_at R2.out.pc hx
 have hc:w2.cell? (ad.add p)=some (.int .u8 2):=hc0
 have d5:w2.cell? ⟨g,5,none⟩=some (.slice (some ad) L cp):=R2.out.row.cell_ rfl
 clear hc0 hx
 have CT:=Lib.hid (tpiece_long R2.out (by show L≤1000000000;have:L≤1000000:=hl9;omega) hr d0 d1 hn)
 clear hr hn d0 d1 hl9
 go_wp2_with (go_at_call 97;(refine CT.out.mono ?_);rintro e w3 ⟨rfl,h2⟩;have G3:=Lib.hid h2;clear h2)
 exact⟨rfl,rfl,only_trans GW.out G3.out⟩
set_option maxHeartbeats 4000000 in
set_option maxRecDepth 100000 in
theorem tval_few{w:World}{g:Nat}{a b c d k:Int}{r:Rw}{p:Nat}(h:Rt w g a b c d k r p)(deep:Int)(hp:¬p=r.2.2.2.length)(hd:¬b < deep)(hk:¬k=c)(k0:0≤k)(k1:k≤1000000)(hl9:r.2.1≤1000000)(hx:r.2.2.2[p]?=some 2){n m:Nat}(hr:rcl (r.2.2.2.drop (p+1))=(n,m,0))(d0:0≤d)(d1:d≤9223372036854775807)(hn:¬d < (n:Int))(hs:r.2.2.2.length < p+1+m+n) :
  Calls Try.prog 84 #[.pointer (some ⟨g,0,none⟩),.int .i64 deep] w fun e_ w'=>e_=pan ((p+1+m:Nat):Int) 20∧w.grownBy w' (some g):=by
 obtain⟨A,L,cp,l⟩:=r
 have hL:L=l.length:=h.pc.len
 have hple:p≤l.length:=h.le
 have q0:¬(p:Int)=(L:Int):=fun e=>hp (by show p=l.length;omega)
 have hpl:p < L:=by have:¬p=l.length:=hp;omega
 have A0:=Lib.hid (below_one w nod0)
 have H0:=Lib.hid (h.below A0.out)
 have N0:=Lib.hid (Bl.new_ w 80 #[.int .i64 0,.int .u64 0,.slice none 0 0,.slice none 0 0])
 have c5:(w.alloc nod0).cell? ⟨g,5,none⟩=some (.slice A L cp):=H0.out.row.cell_ rfl
 have c6:(w.alloc nod0).cell? ⟨g,6,none⟩=some (.int .i64 (p:Int)):=H0.out.row.cell_ rfl
 have CB:=Lib.hid (fun x=>tbegin_ok H0.out x deep hd hk k0 k1)
 have glt:g < w.heap.size:=h.row.lt
 have HP:=Lib.hid h.pc
 have HL:=Lib.hid hL
 clear h hp hL hd hk
 go_enter Try.func84,Try.ntmps84
 go_upto_region 6 with(go_at_call 91;(refine(CB.out _).mono ?_);rintro e w1 ⟨rfl,h1,q,h2⟩;have R1:=Lib.hid h1;have G1:=Lib.hid (show(w.alloc nod0).grownBy w1 (some g) from by rw[h2];exact only_set (only_drewN (World.grownBy.refl _ (some g)) q) (p:=⟨g,4,none⟩) (Or.inl rfl) _);have d6:w1.cell? ⟨g,6,none⟩=some (.int .i64 (p:Int)):=h1.row.cell_ rfl;have e6:=h1.row.frozen 6;have d5:w1.cell? ⟨g,5,none⟩=some (.slice A L cp):=h1.row.cell_ rfl;clear h1 h2)
 have R2:=Lib.hid (show Rt (w1.setCell ⟨g,6,none⟩ (.int .i64 ((p:Int)+1))) g a b c d (k+1) (A,L,cp,l) (p+1) from⟨R1.out.row.set_ 6 _,rt_pc R1.out.pc R1.out.apart _,by have:=HL.out;show p+1≤l.length;omega,R1.out.apart⟩)
 have G2:=Lib.hid (only_set G1.out (p:=⟨g,6,none⟩) (Or.inl rfl) (.int .i64 ((p:Int)+1)))
 clear R1 G1 d6 e6 d5 c5 c6 CB
 generalize w1.setCell ⟨g,6,none⟩ (.int .i64 ((p:Int)+1))=w2 at *
 clear w1
 have N2:=Lib.hid (N0.out.grown G2.out (by intro e;injection e with e;omega))
 have GW:=Lib.hid (only_trans (only_below A0.out (some g)) G2.out)
 obtain⟨ad,rfl,hc0,-, -⟩:=pc_at R2.out.pc hx
 have hc:w2.cell? (ad.add p)=some (.int .u8 2):=hc0
 have d5:w2.cell? ⟨g,5,none⟩=some (.slice (some ad) L cp):=R2.out.row.cell_ rfl
 clear hc0 hx
 have CT:=Lib.hid (tpiece_short R2.out (by show L≤1000000000;have:L≤1000000:=hl9;omega) hr d0 d1 (by have h9:=hn;first|exact h9|exact Int.not_lt.2 h9) hs)
 clear hr hn d0 d1 hl9 hs
 go_wp2_with (go_at_call 97;(refine CT.out.mono ?_);rintro e w3 ⟨rfl,h2⟩;have G3:=Lib.hid h2;clear h2)
 exact⟨rfl,rfl,only_trans GW.out G3.out⟩
set_option maxHeartbeats 4000000 in
set_option maxRecDepth 100000 in
theorem tval_kind{w:World}{g:Nat}{a b c d k:Int}{r:Rw}{p:Nat}(h:Rt w g a b c d k r p)(deep:Int)(hp:¬p=r.2.2.2.length)(hd:¬b < deep)(hk:¬k=c)(k0:0≤k)(k1:k≤1000000)(hl9:r.2.1≤1000000){X:Nat}(hx:r.2.2.2[p]?=some X)(x1:¬X=1)(x2:¬X=2)(x3:¬X=3) :
  Calls Try.prog 84 #[.pointer (some ⟨g,0,none⟩),.int .i64 deep] w fun e_ w'=>e_=pan (p:Int) 21∧w.grownBy w' (some g):=by
 obtain⟨A,L,cp,l⟩:=r
 have hL:L=l.length:=h.pc.len
 have hple:p≤l.length:=h.le
 have q0:¬(p:Int)=(L:Int):=fun e=>hp (by show p=l.length;omega)
 have hpl:p < L:=by have:¬p=l.length:=hp;omega
 have A0:=Lib.hid (below_one w nod0)
 have H0:=Lib.hid (h.below A0.out)
 have N0:=Lib.hid (Bl.new_ w 80 #[.int .i64 0,.int .u64 0,.slice none 0 0,.slice none 0 0])
 have c5:(w.alloc nod0).cell? ⟨g,5,none⟩=some (.slice A L cp):=H0.out.row.cell_ rfl
 have c6:(w.alloc nod0).cell? ⟨g,6,none⟩=some (.int .i64 (p:Int)):=H0.out.row.cell_ rfl
 have CB:=Lib.hid (fun x=>tbegin_ok H0.out x deep hd hk k0 k1)
 have glt:g < w.heap.size:=h.row.lt
 have HP:=Lib.hid h.pc
 have HL:=Lib.hid hL
 clear h hp hL hd hk
 go_enter Try.func84,Try.ntmps84
 go_upto_region 6 with(go_at_call 91;(refine(CB.out _).mono ?_);rintro e w1 ⟨rfl,h1,q,h2⟩;have R1:=Lib.hid h1;have G1:=Lib.hid (show(w.alloc nod0).grownBy w1 (some g) from by rw[h2];exact only_set (only_drewN (World.grownBy.refl _ (some g)) q) (p:=⟨g,4,none⟩) (Or.inl rfl) _);have d6:w1.cell? ⟨g,6,none⟩=some (.int .i64 (p:Int)):=h1.row.cell_ rfl;have e6:=h1.row.frozen 6;have d5:w1.cell? ⟨g,5,none⟩=some (.slice A L cp):=h1.row.cell_ rfl;clear h1 h2)
 have R2:=Lib.hid (show Rt (w1.setCell ⟨g,6,none⟩ (.int .i64 ((p:Int)+1))) g a b c d (k+1) (A,L,cp,l) (p+1) from⟨R1.out.row.set_ 6 _,rt_pc R1.out.pc R1.out.apart _,by have:=HL.out;show p+1≤l.length;omega,R1.out.apart⟩)
 have G2:=Lib.hid (only_set G1.out (p:=⟨g,6,none⟩) (Or.inl rfl) (.int .i64 ((p:Int)+1)))
 clear R1 G1 d6 e6 d5 c5 c6 CB
 generalize w1.setCell ⟨g,6,none⟩ (.int .i64 ((p:Int)+1))=w2 at *
 clear w1
 have N2:=Lib.hid (N0.out.grown G2.out (by intro e;injection e with e;omega))
 have GW:=Lib.hid (only_trans (only_below A0.out (some g)) G2.out)
 obtain⟨ad,rfl,hc0,-, -⟩:=pc_at R2.out.pc hx
 have hc:w2.cell? (ad.add p)=some (.int .u8 (X:Int)):=hc0
 have d5:w2.cell? ⟨g,5,none⟩=some (.slice (some ad) L cp):=R2.out.row.cell_ rfl
 have xw:IntKind.i64.wrap (X:Int)=(X:Int):=by have:=R2.out.pc.lt X (List.mem_of_getElem? hx);simp only[IntKind.wrap_i64];omega
 have y1:¬(X:Int)=1:=by omega
 have y2:¬(X:Int)=2:=by omega
 have y3:¬(X:Int)=3:=by omega
 clear hc0 hx x1 x2 x3
 go_wp2_with fail
 exact⟨rfl,rfl,GW.out⟩
set_option maxHeartbeats 4000000 in
set_option maxRecDepth 100000 in
theorem tval_bytes{w:World}{g:Nat}{a b c d k:Int}{r:Rw}{p:Nat}(h:Rt w g a b c d k r p)(deep:Int)(hp:¬p=r.2.2.2.length)(hd:¬b < deep)(hk:¬k=c)(k0:0≤k)(k1:k≤1000000)(hl9:r.2.1≤1000000)(hx:r.2.2.2[p]?=some 2){n m:Nat}(hr:rcl (r.2.2.2.drop (p+1))=(n,m,0))(d0:0≤d)(d1:d≤9223372036854775807)(hn:¬d < (n:Int))(hs:p+1+m+n≤r.2.2.2.length) :
  Calls Try.prog 84 #[.pointer (some ⟨g,0,none⟩),.int .i64 deep] w (RgQ (.mk 2 0 ((r.2.2.2.drop (p+1+m)).take n) []) (p+1+m+n) w g a b c d (k+1) r):=by
 obtain⟨A,L,cp,l⟩:=r
 have hL:L=l.length:=h.pc.len
 have hple:p≤l.length:=h.le
 have q0:¬(p:Int)=(L:Int):=fun e=>hp (by show p=l.length;omega)
 have hpl:p < L:=by have:¬p=l.length:=hp;omega
 have A0:=Lib.hid (below_one w nod0)
 have H0:=Lib.hid (h.below A0.out)
 have N0:=Lib.hid (Bl.new_ w 80 #[.int .i64 0,.int .u64 0,.slice none 0 0,.slice none 0 0])
 have c5:(w.alloc nod0).cell? ⟨g,5,none⟩=some (.slice A L cp):=H0.out.row.cell_ rfl
 have c6:(w.alloc nod0).cell? ⟨g,6,none⟩=some (.int .i64 (p:Int)):=H0.out.row.cell_ rfl
 have CB:=Lib.hid (fun x=>tbegin_ok H0.out x deep hd hk k0 k1)
 have glt:g < w.heap.size:=h.row.lt
 have HP:=Lib.hid h.pc
 have HL:=Lib.hid hL
 clear h hp hL hd hk
 go_enter Try.func84,Try.ntmps84
 go_upto_region 6 with(go_at_call 91;(refine(CB.out _).mono ?_);rintro e w1 ⟨rfl,h1,q,h2⟩;have R1:=Lib.hid h1;have G1:=Lib.hid (show(w.alloc nod0).grownBy w1 (some g) from by rw[h2];exact only_set (only_drewN (World.grownBy.refl _ (some g)) q) (p:=⟨g,4,none⟩) (Or.inl rfl) _);have d6:w1.cell? ⟨g,6,none⟩=some (.int .i64 (p:Int)):=h1.row.cell_ rfl;have e6:=h1.row.frozen 6;have d5:w1.cell? ⟨g,5,none⟩=some (.slice A L cp):=h1.row.cell_ rfl;clear h1 h2)
 have R2:=Lib.hid (show Rt (w1.setCell ⟨g,6,none⟩ (.int .i64 ((p:Int)+1))) g a b c d (k+1) (A,L,cp,l) (p+1) from⟨R1.out.row.set_ 6 _,rt_pc R1.out.pc R1.out.apart _,by have:=HL.out;show p+1≤l.length;omega,R1.out.apart⟩)
 have G2:=Lib.hid (only_set G1.out (p:=⟨g,6,none⟩) (Or.inl rfl) (.int .i64 ((p:Int)+1)))
 clear R1 G1 d6 e6 d5 c5 c6 CB
 generalize w1.setCell ⟨g,6,none⟩ (.int .i64 ((p:Int)+1))=w2 at *
 clear w1
 have N2:=Lib.hid (N0.out.grown G2.out (by intro e;injection e with e;omega))
 have GW:=Lib.hid (only_trans (only_below A0.out (some g)) G2.out)
 obtain⟨ad,rfl,hc0,-, -⟩:=pc_at R2.out.pc hx
 have hc:w2.cell? (ad.add p)=some (.int .u8 2):=hc0
 have d5:w2.cell? ⟨g,5,none⟩=some (.slice (some ad) L cp):=R2.out.row.cell_ rfl
 clear hc0 hx
 have CT:=Lib.hid (tpiece_ok R2.out (by show L≤1000000000;have:L≤1000000:=hl9;omega) hr d0 d1 (by have h9:=hn;first|exact h9|exact Int.not_lt.2 h9) hs)
 have hn9:n≤1000000:=by have h1:p+1+m+n≤l.length:=hs;have h2:=HL.out;have h3:L≤1000000:=hl9;omega
 clear hr hn d0 d1 hl9 hs
 go_wp2_with (first
  |(go_at_call 97;(refine CT.out.mono ?_);rintro e w3 ⟨B,c',rfl,h1,h2,h3⟩;have P3:=Lib.hid h1;have R3:=Lib.hid h2;have G3:=Lib.hid h3;have CN:=Lib.hid ((Bytes_any P3.out hn9).mono fun e w' ⟨A2,c2,h⟩=>(show ∃A2 c2,e=Ending.returned (.agg #[.int .i64 2,.int .u64 0,.slice A2 n c2,.slice none 0 0])∧Ok w' (.mk 2 0 (A2,n,c2,(l.drop (p+1+m)).take n) none 0 [])∧Below w3.heap.size w3 w'∧(∀a,A2=some a→w3.heap.size < a.block) from⟨A2,c2,h.1.1,h.1.2.1,h.1.2.2,h.2⟩));clear h1 h2 h3)
  |(go_at_call 37;(refine CN.out.mono ?_);rintro e w4 ⟨A2,c2,rfl,h1,h2,h5⟩;have Q4:=Lib.hid h5;have O4:=Lib.hid h1;have B4:=Lib.hid h2;have R4:=Lib.hid (R3.out.below h2);have N4:=Lib.hid (show Bl w4 w.heap.size 80 _ from(N2.out.grown G3.out (by intro e;injection e with e;omega)).below' h2);have y0:w4.cell? ⟨w.heap.size,0,none⟩=some (.int .i64 0):=N4.out.cell_ rfl;have f0:=N4.out.frozen 0;have y1:w4.cell? ⟨w.heap.size,1,none⟩=some (.int .u64 0):=N4.out.cell_ rfl;have f1:=N4.out.frozen 1;have y2:w4.cell? ⟨w.heap.size,2,none⟩=some (.slice none 0 0):=N4.out.cell_ rfl;have f2:=N4.out.frozen 2;have y3:w4.cell? ⟨w.heap.size,3,none⟩=some (.slice none 0 0):=N4.out.cell_ rfl;have f3:=N4.out.frozen 3;clear h1 h2 h5))
 have HL:=Lib.hid (st4_bl N4.out (.int .i64 2) (.int .u64 0) (.slice A2 n c2) (.slice none 0 0))
 exact⟨rfl,_,results_c rfl _ _ _ ⟨w.heap.size,0,none⟩ _ (by kernel_rfl) (run_loadVar_row _ w.heap.size 80 80 _ (0,0) _ HL.out Try.underlying80 rfl size34),tfin (t:=.mk 2 0 (A2,n,c2,(l.drop (p+1+m)).take n) none 0 []) rfl rfl HP.out (only_then (only_trans GW.out G3.out) (B4.out.mono (only_trans GW.out G3.out).size)) R4.out O4.out (by rw[lies];exact⟨fun ad e _=>(by have h1:=Q4.out ad e;have h2:=N2.out.lt;have h3:=G3.out.size;omega),fun ad e=>(by cases e),by rw[liess];trivial⟩) glt⟩
end Go.Proofs.Yteblmphohhbgcaa.Wr
