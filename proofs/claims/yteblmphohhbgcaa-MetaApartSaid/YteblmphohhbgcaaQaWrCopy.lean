/- Joined texts. -/
import Derived.Test.YteblmphohhbgcaaQaWrValues
import Derived.Deep.LoopGhost
set_option linter.unusedVariables false
namespace Go.Proofs.Yteblmphohhbgcaa.Wr
open Go.RowKit Go.Proofs.Yteblmphohhbgcaa.Gn Go.Proofs.Yteblmphohhbgcaa.Fd Go.Deep
def OwnN(ks:List Tv)(w:World)(e:Ending)(w':World):Prop:=∃v,e=.returned v∧w'.ownsRow w.heap.size 80 4 v ks.length (flat ks)∧Below w.heap.size w w'
theorem own_new4(w:World)(t:TypeId)(n:Nat)(xs:List Value)(hl:xs.length=n*4)(hm:n≤maxLen):(w.alloc (.cells xs.toArray t)).ownsRow w.heap.size t 4 (.slice (some ⟨w.heap.size,0,none⟩) n n) n xs :=
 ⟨hl,.inr ⟨w.heap.size,n,xs.toArray,rfl,Nat.le_refl _,heap_alloc_new w _,Nat.le_refl _,hm,by simpa using hl,by rw[←hl];simp⟩⟩
theorem flat_one(ks:List Tv):∀u∈flat ks,u.oneCell'=true:=by
 intro u hu
 unfold flat at hu
 obtain⟨t,-, h⟩:=List.mem_flatMap.1 hu
 exact row_one t u h
set_option maxRecDepth 100000 in
set_option maxHeartbeats 4000000 in
theorem nClone_own{ad:Addr}{c:Nat}{ks:List Tv}{w:World}(hs:Sl w (some ad) (4*ks.length) (flat ks))(hm:ks.length≤1000000) :
  Calls Try.prog 81 #[.slice (some ad) ks.length c] w (OwnN ks w):=by
 obtain⟨i0,hi,hz0,hz1,hz2⟩:=info_parts infoN
 obtain⟨n,hn⟩:∃n,ks.length=n:=⟨_,rfl⟩
 rw[hn] at hs hm ⊢
 have HN:=Lib.hid hn
 clear hn
 go_enter Try.func81,Try.ntmps81
 go_upto_region 1 with(fail)
 refine wp_region_lit ?_
 refine sq_run (.slice (some ad) n c) rfl (by kernel_rfl) ?_
 refine sq_run (.bool false) rfl (by kernel_rfl) ?_
 refine sq_done ?_
 simp only[Act.put,List.setIfInBounds_toArray,List.set_cons_zero,List.set_cons_succ]
 go_upto_region 3 with(fail)
 refine wp_region_lit ?_
 refine sq_new (w.alloc (.cells #[] 80)) (.slice (some ⟨w.heap.size,0,none⟩) 0 0) rfl (by kernel_rfl) ?_
 refine sq_run (.slice (some ad) n c) rfl (by kernel_rfl) ?_
 refine wpList_append_at _ rfl (.tmp 5) (.tmp 6) 78 rfl w.heap.size 80 i0 _ 4 64 Try.underlying78 hi hz0 hz1 hz2 (by kernel_rfl) (by decide) (.slice (some ⟨w.heap.size,0,none⟩) 0 0) 0 [] rfl (own_new4 w 80 0 [] rfl (by decide)) (some ad) n c (flat ks) rfl (fun e=>by cases e) (by rw[Nat.mul_comm];exact hs.below (below_one w _)) (flat_one ks) (by unfold maxLen;omega) (by omega) (by simp) ?_
 intro v' w1 hown hgrow hat
 rw[Nat.zero_add,List.nil_append] at hown
 have hB:Below w.heap.size w w1:=(below_one w (.cells #[] 80)).grown hgrow (by simp) (by intro k e;simp[Value.ownBlock] at e;omega)
 obtain⟨E,cap,rfl,-, -, -, -⟩:=own_form hown
 refine sq_run (.slice E n cap) rfl (by kernel_rfl) ?_
 refine sq_done ?_
 simp only[Act.put,List.setIfInBounds_toArray,List.set_cons_zero,List.set_cons_succ]
 go_wp2_with fail
 go_ret
 exact⟨_,rfl,by rw[HN.out];exact hown,hB⟩
set_option maxRecDepth 100000 in
set_option maxHeartbeats 4000000 in
theorem nClone_nil(w:World):Calls Try.prog 81 #[.slice none 0 0] w (OwnN [] w):=by
 go_enter Try.func81,Try.ntmps81
 go_upto_region 1 with(fail)
 refine wp_region_lit ?_
 refine sq_run (.slice none 0 0) rfl (by kernel_rfl) ?_
 refine sq_run (.bool true) rfl (by kernel_rfl) ?_
 refine sq_done ?_
 simp only[Act.put,List.setIfInBounds_toArray,List.set_cons_zero,List.set_cons_succ]
 go_wp2_with fail
 go_ret
 exact⟨_,rfl,⟨rfl,.inl ⟨rfl,rfl⟩⟩,Below.refl _ _⟩
set_option maxRecDepth 100000 in
set_option maxHeartbeats 4000000 in
theorem nClone_nil2(w:World):Calls Try.prog 81 #[.slice none 0 0] w fun e w'=>e=.returned (.slice none 0 0)∧w=w':=by
 go_enter Try.func81,Try.ntmps81
 go_upto_region 1 with(fail)
 refine wp_region_lit ?_
 refine sq_run (.slice none 0 0) rfl (by kernel_rfl) ?_
 refine sq_run (.bool true) rfl (by kernel_rfl) ?_
 refine sq_done ?_
 simp only[Act.put,List.setIfInBounds_toArray,List.set_cons_zero,List.set_cons_succ]
 go_wp2_with fail
 go_ret
 exact⟨rfl,rfl⟩
theorem nClone_any{A:Option Addr}{c:Nat}{ks:List Tv}{w:World}(hs:Sl w A (4*ks.length) (flat ks))(hm:ks.length≤1000000)(hc:ks.length≤c)(h0:A=none→c=0) :
  Calls Try.prog 81 #[.slice A ks.length c] w (OwnN ks w):=by
 cases A with
 |some ad=>exact nClone_own hs hm
 |none =>
  obtain rfl:=h0 rfl
  obtain rfl:ks=[]:=List.length_eq_zero_iff.1 (by omega)
  exact nClone_nil w
theorem flat_length_get(us:List Tv)(n:Nat):(flat us)[n]?=(us[n / 4]?).bind fun t=>t.row[n%4]?:=by
 induction us generalizing n with
 |nil=>simp[flat]
 |cons t ts ih =>
  have e:flat (t :: ts)=t.row ++ flat ts:=by simp[flat]
  rw[e]
  by_cases h:n < 4
  ·rw[List.getElem?_append_left (by rw[row_len];exact h),Nat.div_eq_of_lt h,Nat.mod_eq_of_lt h];rfl
  ·rw[List.getElem?_append_right (by rw[row_len];omega),row_len,ih,show n / 4=(n - 4) / 4+1 by omega,List.getElem?_cons_succ,show(n - 4)%4=n%4 by omega]
theorem flat_set{us:List Tv}{j:Nat}{t t':Tv}(h:us[j]?=some t){v2 v3:Value}(hr:t'.row=(t.row.set 2 v2).set 3 v3):flat (us.set j t')=((flat us).set (4*j+2) v2).set (4*j+3) v3:=by
 have hj:=(List.getElem?_eq_some_iff.1 h).1
 apply List.ext_getElem?
 intro n
 rw[flat_length_get,List.getElem?_set,List.getElem?_set,List.getElem?_set]
 have hfl:=flat_len us
 by_cases h3:4*j+3=n
 ·subst h3
  rw[if_pos (by omega),if_pos (by omega),if_pos rfl,if_pos (by simp[hfl];omega)]
  show(some t').bind _=_
  rw[show(4*j+3)%4=3 by omega]
  show t'.row[3]?=_
  rw[hr,List.getElem?_set_self (by rw[List.length_set,row_len];decide)]
 ·rw[if_neg h3]
  by_cases h2:4*j+2=n
  ·subst h2
   rw[if_pos (by omega),if_pos (by omega),if_pos rfl,if_pos (by rw[hfl];omega)]
   rw[show(4*j+2)%4=2 by omega]
   show t'.row[2]?=_
   rw[hr,List.getElem?_set_ne (by decide),List.getElem?_set_self (by rw[row_len];decide)]
  ·rw[if_neg h2,flat_length_get]
   by_cases hq:j=n / 4
   ·rw[if_pos hq,if_pos (by omega),←hq,h]
    show t'.row[n%4]?=t.row[n%4]?
    rw[hr,List.getElem?_set_ne (by omega),List.getElem?_set_ne (by omega)]
   ·rw[if_neg hq]
end Go.Proofs.Yteblmphohhbgcaa.Wr
namespace Go.Proofs.Yteblmphohhbgcaa.Wr
open Go.RowKit Go.Proofs.Yteblmphohhbgcaa.Gn Go.Proofs.Yteblmphohhbgcaa.Fd Go.Deep
set_option maxHeartbeats 4000000 in
set_option maxRecDepth 100000 in
theorem tval_lbad{w:World}{g:Nat}{a b c d k:Int}{r:Rw}{p:Nat}(h:Rt w g a b c d k r p)(deep:Int)(hp:¬p=r.2.2.2.length)(hd:¬b < deep)(hk:¬k=c)(k0:0≤k)(k1:k≤1000000)(hl9:r.2.1≤1000000)(hx:r.2.2.2[p]?=some 3)(dp0:0≤deep)(dp1:deep≤3000000){n m:Nat}(hr:rcl (r.2.2.2.drop (p+1))=(n,m,0)){res:Rr (List Nd)}(hv:∀w3,Rt w3 g a b c d (k+1) r (p+1+m)→Calls Try.prog 98 #[.pointer (some ⟨g,0,none⟩),.int .u64 (n:Int),.int .i64 (deep+1)] w3 (RsQ res w3 g a b c d r)){qq en:Nat}(hres:res=.bad qq en) :
  Calls Try.prog 84 #[.pointer (some ⟨g,0,none⟩),.int .i64 deep] w fun e_ w'=>e_=pan (qq:Int) (en:Int)∧w.grownBy w' (some g):=by
 obtain⟨A,L,cp,l⟩:=r
 have hL:L=l.length:=h.pc.len
 have hple:p≤l.length:=h.le
 have q0:¬(p:Int)=(L:Int):=fun e=>hp (by show p=l.length;omega)
 have hpl:p < L:=by have:¬p=l.length:=hp;omega
 have A0:=Lib.hid (below_one w nod0)
 have H0:=Lib.hid (h.below A0.out)
 have N0:=Lib.hid (Bl.new_ w 80 #[.int .i64 0,.int .u64 0,.slice none 0 0,.slice none 0 0])
 have c5:(w.alloc nod0).cell? ⟨g,5,none⟩=some (.slice A L cp):=H0.out.row.cell_ rfl
 have c6:(w.alloc nod0).cell? ⟨g,6,none⟩=some (.int .i64 (p:Int)):=H0.out.row.cell_ rfl
 have CB:=Lib.hid (fun x=>tbegin_ok H0.out x deep hd hk k0 k1)
 have glt:g < w.heap.size:=h.row.lt
 have HP:=Lib.hid h.pc
 have HL:=Lib.hid hL
 clear h hp hL hd hk
 go_enter Try.func84,Try.ntmps84
 go_upto_region 6 with(go_at_call 91;(refine(CB.out _).mono ?_);rintro e w1 ⟨rfl,h1,q,h2⟩;have R1:=Lib.hid h1;have G1:=Lib.hid (show(w.alloc nod0).grownBy w1 (some g) from by rw[h2];exact only_set (only_drewN (World.grownBy.refl _ (some g)) q) (p:=⟨g,4,none⟩) (Or.inl rfl) _);have d6:w1.cell? ⟨g,6,none⟩=some (.int .i64 (p:Int)):=h1.row.cell_ rfl;have e6:=h1.row.frozen 6;have d5:w1.cell? ⟨g,5,none⟩=some (.slice A L cp):=h1.row.cell_ rfl;clear h1 h2)
 have R2:=Lib.hid (show Rt (w1.setCell ⟨g,6,none⟩ (.int .i64 ((p:Int)+1))) g a b c d (k+1) (A,L,cp,l) (p+1) from⟨R1.out.row.set_ 6 _,rt_pc R1.out.pc R1.out.apart _,by have:=HL.out;show p+1≤l.length;omega,R1.out.apart⟩)
 have G2:=Lib.hid (only_set G1.out (p:=⟨g,6,none⟩) (Or.inl rfl) (.int .i64 ((p:Int)+1)))
 clear R1 G1 d6 e6 d5 c5 c6 CB
 generalize w1.setCell ⟨g,6,none⟩ (.int .i64 ((p:Int)+1))=w2 at *
 clear w1
 have N2:=Lib.hid (N0.out.grown G2.out (by intro e;injection e with e;omega))
 have GW:=Lib.hid (only_trans (only_below A0.out (some g)) G2.out)
 obtain⟨ad,rfl,hc0,-, -⟩:=pc_at R2.out.pc hx
 have hc:w2.cell? (ad.add p)=some (.int .u8 3):=hc0
 have d5:w2.cell? ⟨g,5,none⟩=some (.slice (some ad) L cp):=R2.out.row.cell_ rfl
 clear hc0 hx
 have CT:=Lib.hid (tcount_good R2.out (by show L≤1000000000;have:L≤1000000:=hl9;omega) hr)
 subst hres
 have CN:=Lib.hid (fun u hu=>(show Calls _ _ _ _ (fun e_ w'=>e_=pan (qq:Int) (en:Int)∧World.grownBy u w' (some g)) from hv u hu))
 clear hr hl9 hv
 go_wp2_with (first
  |(go_at_call 96;(refine CT.out.mono ?_);rintro e w3 ⟨rfl,h1,h2⟩;have R3:=Lib.hid h1;have G3:=Lib.hid h2;clear h1 h2)
  |(go_at_call 98;(refine(CN.out _ R3.out).mono ?_);rintro e w4 ⟨rfl,h1⟩;have G4:=Lib.hid h1;clear h1))
 exact⟨rfl,rfl,only_trans (only_trans GW.out G3.out) G4.out⟩
set_option maxHeartbeats 4000000 in
set_option maxRecDepth 100000 in
theorem tval_lgood{w:World}{g:Nat}{a b c d k:Int}{r:Rw}{p:Nat}(h:Rt w g a b c d k r p)(deep:Int)(hp:¬p=r.2.2.2.length)(hd:¬b < deep)(hk:¬k=c)(k0:0≤k)(k1:k≤1000000)(hl9:r.2.1≤1000000)(hx:r.2.2.2[p]?=some 3)(dp0:0≤deep)(dp1:deep≤3000000){n m:Nat}(hr:rcl (r.2.2.2.drop (p+1))=(n,m,0)){res:Rr (List Nd)}(hv:∀w3,Rt w3 g a b c d (k+1) r (p+1+m)→Calls Try.prog 98 #[.pointer (some ⟨g,0,none⟩),.int .u64 (n:Int),.int .i64 (deep+1)] w3 (RsQ res w3 g a b c d r)){vs:List Nd}{p2:Nat}{k2:Int}(hres:res=.good vs p2 k2) :
  Calls Try.prog 84 #[.pointer (some ⟨g,0,none⟩),.int .i64 deep] w (RgQ (.mk 3 0 [] vs) p2 w g a b c d k2 r):=by
 obtain⟨A,L,cp,l⟩:=r
 have hL:L=l.length:=h.pc.len
 have hple:p≤l.length:=h.le
 have q0:¬(p:Int)=(L:Int):=fun e=>hp (by show p=l.length;omega)
 have hpl:p < L:=by have:¬p=l.length:=hp;omega
 have A0:=Lib.hid (below_one w nod0)
 have H0:=Lib.hid (h.below A0.out)
 have N0:=Lib.hid (Bl.new_ w 80 #[.int .i64 0,.int .u64 0,.slice none 0 0,.slice none 0 0])
 have c5:(w.alloc nod0).cell? ⟨g,5,none⟩=some (.slice A L cp):=H0.out.row.cell_ rfl
 have c6:(w.alloc nod0).cell? ⟨g,6,none⟩=some (.int .i64 (p:Int)):=H0.out.row.cell_ rfl
 have CB:=Lib.hid (fun x=>tbegin_ok H0.out x deep hd hk k0 k1)
 have glt:g < w.heap.size:=h.row.lt
 have HP:=Lib.hid h.pc
 have HL:=Lib.hid hL
 clear h hp hL hd hk
 go_enter Try.func84,Try.ntmps84
 go_upto_region 6 with(go_at_call 91;(refine(CB.out _).mono ?_);rintro e w1 ⟨rfl,h1,q,h2⟩;have R1:=Lib.hid h1;have G1:=Lib.hid (show(w.alloc nod0).grownBy w1 (some g) from by rw[h2];exact only_set (only_drewN (World.grownBy.refl _ (some g)) q) (p:=⟨g,4,none⟩) (Or.inl rfl) _);have d6:w1.cell? ⟨g,6,none⟩=some (.int .i64 (p:Int)):=h1.row.cell_ rfl;have e6:=h1.row.frozen 6;have d5:w1.cell? ⟨g,5,none⟩=some (.slice A L cp):=h1.row.cell_ rfl;clear h1 h2)
 have R2:=Lib.hid (show Rt (w1.setCell ⟨g,6,none⟩ (.int .i64 ((p:Int)+1))) g a b c d (k+1) (A,L,cp,l) (p+1) from⟨R1.out.row.set_ 6 _,rt_pc R1.out.pc R1.out.apart _,by have:=HL.out;show p+1≤l.length;omega,R1.out.apart⟩)
 have G2:=Lib.hid (only_set G1.out (p:=⟨g,6,none⟩) (Or.inl rfl) (.int .i64 ((p:Int)+1)))
 clear R1 G1 d6 e6 d5 c5 c6 CB
 generalize w1.setCell ⟨g,6,none⟩ (.int .i64 ((p:Int)+1))=w2 at *
 clear w1
 have N2:=Lib.hid (N0.out.grown G2.out (by intro e;injection e with e;omega))
 have GW:=Lib.hid (only_trans (only_below A0.out (some g)) G2.out)
 obtain⟨ad,rfl,hc0,-, -⟩:=pc_at R2.out.pc hx
 have hc:w2.cell? (ad.add p)=some (.int .u8 3):=hc0
 have d5:w2.cell? ⟨g,5,none⟩=some (.slice (some ad) L cp):=R2.out.row.cell_ rfl
 clear hc0 hx
 have CT:=Lib.hid (tcount_good R2.out (by show L≤1000000000;have:L≤1000000:=hl9;omega) hr)
 subst hres
 have CN:=Lib.hid (fun u hu=>(show Calls _ _ _ _ (RsQ (.good vs p2 k2) u g a b c d (some ad,L,cp,l)) from hv u hu))
 clear hr hl9 hv
 go_wp2_with (first
  |(go_at_call 96;(refine CT.out.mono ?_);rintro e w3 ⟨rfl,h1,h2⟩;have R3:=Lib.hid h1;have G3:=Lib.hid h2;clear h1 h2)
  |(go_at_call 98;(refine(CN.out _ R3.out).mono ?_);rintro e w4 ⟨h1,ks,B,cap,rfl,h2,h3,h4,h5,h6,h7,h8,h9,h10⟩;have G4:=Lib.hid h1;have V4:=Lib.hid h2;have S4:=Lib.hid h3;have C4:=Lib.hid h4;have M4:=Lib.hid h5;have X4:=Lib.hid h6;have K4:=Lib.hid h7;have I4:=Lib.hid h8;have A4:=Lib.hid h9;have R4:=Lib.hid h10;have N4:=Lib.hid (show Bl w4 w.heap.size 80 _ from(N2.out.grown G3.out (by intro e;injection e with e;omega)).grown h1 (by intro e;injection e with e;omega));have y0:w4.cell? ⟨w.heap.size,0,none⟩=some (.int .i64 0):=N4.out.cell_ rfl;have f0:=N4.out.frozen 0;have y1:w4.cell? ⟨w.heap.size,1,none⟩=some (.int .u64 0):=N4.out.cell_ rfl;have f1:=N4.out.frozen 1;have y2:w4.cell? ⟨w.heap.size,2,none⟩=some (.slice none 0 0):=N4.out.cell_ rfl;have f2:=N4.out.frozen 2;have y3:w4.cell? ⟨w.heap.size,3,none⟩=some (.slice none 0 0):=N4.out.cell_ rfl;have f3:=N4.out.frozen 3;clear h1 h2 h3 h4 h5 h6 h7 h8 h9 h10))
 have HL:=Lib.hid (st4_bl N4.out (.int .i64 3) (.int .u64 0) (.slice none 0 0) (.slice B ks.length cap))
 have gw3:=G3.out.size
 have nl2:=N2.out.lt
 exact⟨rfl,_,results_c rfl _ _ _ ⟨w.heap.size,0,none⟩ _ (by kernel_rfl) (run_loadVar_row _ w.heap.size 80 80 _ (0,0) _ HL.out Try.underlying80 rfl size34),tfin (t:=.mk 3 0 (none,0,0,[]) B cap ks) rfl (by rw[nd,V4.out]) HP.out (only_trans (only_trans GW.out G3.out) G4.out) R4.out (.mk (by decide) (nil_pc _) S4.out X4.out M4.out C4.out K4.out) (by rw[lies];exact⟨fun ad e=>(by cases e),fun ad e _=>(by have h1:=A4.out ad e;omega),liess.mono (fun k hk=>by omega) I4.out⟩) glt⟩
end Go.Proofs.Yteblmphohhbgcaa.Wr
