/- Joined texts. -/
import Derived.Test.YtnnfpmebopgogaaDoorQrMpOf
import Derived.Test.YtnnfpmebopgogaaDoorQrMkW
import Derived.LaidMore
import Derived.Lib.LaidTab
import Derived.Stop.LaidErr
import Derived.Deep.DeepHandedRow
import Derived.Test.YtnnfpmebopgogaaDoorCards
import Derived.Test.YtnnfpmebopgogaaDoorQrSaE
set_option linter.unusedVariables false
namespace Go.Proofs.YtnnfpmebopgogaaDoor.Mk
open Go.RowKit Go.Proofs.YtnnfpmebopgogaaDoor.Gn Go.Proofs.YtnnfpmebopgogaaDoor.Fd Go.Deep
theorem be_nil(k:Int)(w:World):BE [] k w (.returned (.tuple #[.slice none 0 0,.int .i64 k])) w:=⟨none,0,0,rfl,nil_pc' w,Below.refl _ _⟩
theorem leaf_both{w0:World}(ts:Sh.Tab w0){p:Int}(hp : -9223372036854775808≤p∧p≤9223372036854775807){A:Option Addr}{m c:Nat}{x:List Nat}(h:Pc w0 (A,m,c,x)) :
  ∃y k,(∀w,Below w0.heap.size w0 w→Calls Tryd.prog 9 #[.int .i64 p,.slice A m c] w (BE y k w))∧(∀w,Below w0.heap.size w0 w→Calls Tryd.prog 10 #[.int .i64 p,.slice A m c] w (BE y k w)):=by
 by_cases h0:p < 0
 ·refine⟨[],1,fun w hb=>(Leaf_below p h0 A m c w).mono ?_,fun w hb=>(RLeaf_below p h0 A m c w).mono ?_⟩ <;> (rintro e w' ⟨rfl,rfl⟩;exact be_nil 1 _)
 by_cases h1:1024 < m
 ·refine⟨[],2,fun w hb=>(Leaf_long p (by omega) A m c h1 w).mono ?_,fun w hb=>(RLeaf_long p (by omega) A m c h1 w).mono ?_⟩ <;> (rintro e w' ⟨rfl,rfl⟩;exact be_nil 2 _)
 obtain⟨n,rfl⟩:∃n:Nat,p=(n:Int):=⟨p.toNat,by omega⟩
 refine⟨Sh.dg false (0 :: (eight n ++ x)),0,fun w hb=>(Leaf_any n (by omega) (h.below hb) (by omega) (ts.below hb)).mono ?_,fun w hb=>(RLeaf_any n (by omega) (h.below hb) (by omega)).mono ?_⟩
 ·rintro e w' ⟨g,rfl,hp,-, hb⟩
  exact⟨_,32,32,rfl,hp,hb⟩
 ·rintro e w' ⟨B,d,rfl,hp,hb⟩
  exact⟨B,32,d,rfl,hp.1,hb⟩
theorem root_both{w0:World}(ts:Sh.Tab w0){B:Option Addr}{m c:Nat}{P:List Rw}(h:PAny w0 B m c P) :
  ∃y k,(∀w,Below w0.heap.size w0 w→Calls Tryd.prog 11 #[.slice B m c] w (BE y k w))∧(∀w,Below w0.heap.size w0 w→Calls Tryd.prog 12 #[.slice B m c] w (BE y k w)):=by
 cases ha:all32 P with
 |false =>
  refine⟨[],1,fun w hb=>(Root_bad (h.below hb) ha).mono ?_,fun w hb=>(RRoot_bad (h.below hb) ha).mono ?_⟩ <;> (rintro e w' ⟨rfl,hb⟩;exact⟨none,0,0,rfl,nil_pc' _,hb⟩)
 |true=>exact⟨_,0,fun w hb=>Root_be (h.below hb) ha (ts.below hb),fun w hb=>RRoot_be (h.below hb) ha⟩
set_option maxRecDepth 100000 in
theorem Of_no(A:Option Addr)(L c:Nat)(q k:Int)(hk:k=1∨k=2)(w:World)(h:∀w,Calls Tryd.prog 30 #[.int .i64 (L:Int),.int .i64 q] w fun e w'=>e=.returned (.tuple #[.int .i64 0,.int .i64 k])∧w=w') :
  Calls Tryd.prog 13 #[.slice A L c,.int .i64 q] w fun e w'=>e=.returned (.tuple #[.slice none 0 0,.int .i64 k])∧w=w':=by
 have CC:=Lib.hid (fun w=>Cut_no A L c q k hk w h)
 clear h
 rcases hk with rfl|rfl
 all_goals
  go_enter Tryd.func13,Tryd.ntmps13
  go_wp2_with (go_at_call 43;(with_reducible refine(CC.out _).mono ?_);rintro e w1 ⟨rfl,rfl⟩)
  go_ret2
  exact⟨rfl,rfl⟩
set_option maxRecDepth 100000 in
set_option maxHeartbeats 2000000 in
theorem RLeaves_no(A:Option Addr)(L c:Nat)(q k:Int)(hk:k=1∨k=2)(w:World)(h:∀w,Calls Tryd.prog 88 #[.int .i64 (L:Int),.int .i64 q] w fun e w'=>e=.returned (.tuple #[.int .i64 0,.int .i64 k])∧w=w') :
  Calls Tryd.prog 44 #[.slice A L c,.int .i64 q] w fun e w'=>e=.returned (.tuple #[.slice none 0 0,.int .i64 k])∧w=w':=by
 have CC:=Lib.hid (fun w=>RCut_no A L c q k hk w h)
 clear h
 go_enter Tryd.func44,Tryd.ntmps44
 go_wp2_with (go_at_call 71;(with_reducible refine(CC.out _).mono ?_);rintro e w1 ⟨rfl,rfl⟩)
 go_loopw [8,9] (fun v i wr=>v=.slice none 0 0∧i=.int .i64 0∧wr=w) (fun _ _ _=>0)
 case atStart=>exact⟨rfl,rfl,rfl⟩
 case round =>
  obtain⟨rfl,rfl,rfl⟩:=hrel
  go_wp2_with fail
  go_ret2
  exact⟨rfl,rfl⟩
set_option maxRecDepth 100000 in
theorem ROf_no(A:Option Addr)(L c:Nat)(q k:Int)(hk:k=1∨k=2)(w:World)(h:∀w,Calls Tryd.prog 88 #[.int .i64 (L:Int),.int .i64 q] w fun e w'=>e=.returned (.tuple #[.int .i64 0,.int .i64 k])∧w=w') :
  Calls Tryd.prog 14 #[.slice A L c,.int .i64 q] w fun e w'=>e=.returned (.tuple #[.slice none 0 0,.int .i64 k])∧w=w':=by
 have CC:=Lib.hid (fun w=>RLeaves_no A L c q k hk w h)
 clear h
 rcases hk with rfl|rfl
 all_goals
  go_enter Tryd.func14,Tryd.ntmps14
  go_wp2_with (go_at_call 44;(with_reducible refine(CC.out _).mono ?_);rintro e w1 ⟨rfl,rfl⟩)
  go_ret2
  exact⟨rfl,rfl⟩
theorem of_both{w0:World}(ts:Sh.Tab w0){q:Int}(hq : -9223372036854775808≤q∧q≤9223372036854775807){A:Option Addr}{m c:Nat}{x:List Nat}(h:Pc w0 (A,m,c,x))(hm:m≤2000) :
  ∃y k,(∀w,Below w0.heap.size w0 w→Calls Tryd.prog 13 #[.slice A m c,.int .i64 q] w (BE y k w))∧(∀w,Below w0.heap.size w0 w→Calls Tryd.prog 14 #[.slice A m c,.int .i64 q] w (BE y k w)):=by
 by_cases h0:q < 64∨1024 < q
 ·refine⟨[],1,fun w hb=>(Of_no A m c q 1 (.inl rfl) w (fun w=>Count_arg (m:Int) q (by omega) (by omega) hq w)).mono ?_,fun w hb=>(ROf_no A m c q 1 (.inl rfl) w (fun w=>RCount_arg (m:Int) q (by omega) w)).mono ?_⟩ <;> (rintro e w' ⟨rfl,rfl⟩;exact be_nil 1 _)
 ·obtain⟨n,rfl⟩:∃n:Nat,q=(n:Int):=⟨q.toNat,by omega⟩
  exact⟨_,0,fun w hb=>Of_ok (h.below hb) n (by omega) (by omega) hm _ rfl (ts.below hb),fun w hb=>ROf_ok (h.below hb) n (by omega) (by omega) hm _ rfl⟩
theorem same_self{w:World}{A B:Option Addr}{n m c d:Nat}{l:List Nat}(h1:Pc w (A,n,c,l))(h2:Pc w (B,m,d,l)) :
  Calls Tryd.prog 15 #[.slice A n c,.slice B m d] w fun e w'=>e=.returned (.bool true)∧w=w' :=
 (same_pc h1 h2).mono fun e w' h=>⟨by rw[h.1,decide_eq_true rfl],h.2⟩
set_option maxHeartbeats 4000000 in
set_option maxRecDepth 100000 in
theorem walk_merkleRoots{w:World}(ts:Sh.Tab w)(p:Int)(wp:(Lit.int .i64 p).wf)(A1:Option Addr)(m1 c1:Nat)(l1:List Nat)(hl1:BL w A1 m1 c1 l1)(B:Option Addr)(m c:Nat)(P:List Rw)(hP:LL w B m P∧m≤9223372036854775807∧m≤c)(A2:Option Addr)(m2 c2:Nat)(l2:List Nat)(hl2:BL w A2 m2 c2 l2)(q:Int)(wq:(Lit.int .i64 q).wf) :
  Calls Tryd.prog 3 #[.int .i64 p,.slice A1 m1 c1,.slice B m c,.slice A2 m2 c2,.int .i64 q] w fun e w'=>e=.returned (.bool true)∧Below w.heap.size w w':=by
 have KN:=Lib.hid (fun(w1:World) (hb:Below w.heap.size w w1)=>known_any w1 (ts.below hb))
 have SZ:=Lib.hid (rsize_any (c:=c) hP.1.1 (fun r hr=>(hP.1.2 r hr).2) hP.2.1 1500 (Nat.le_refl _))
 have PP:=Lib.hid (show ∀S,S≤1500→(m≤S∧∀r∈P,r.2.1≤S)→PAny w B m c P from fun S h h2=>⟨hP.1.1,fun r hr=>⟨bl_pc2 (hP.1.2 r hr).1,by have:=h2.2 r hr;omega⟩,by omega,hP.2.2⟩)
 have LB:=Lib.hid (leaf_both ts (wf_i64 wp) (bl_pc2 hl1))
 have OB:=Lib.hid (fun hm=>of_both ts (wf_i64 wq) (bl_pc2 hl2) (c:=c2) (m:=m2) hm)
 have TS:=Lib.hid ts
 have n1:=hl1.2.1
 have n2:=hl2.2.1
 clear hP ts wp wq hl1 hl2
 by_cases hb1:1100 < m1
 ·have q3:(1100:Int) < (m1:Int):=by omega
  go_enter Tryd.func3,Tryd.ntmps3
  go_wp2_with fail
  refine(KN.out _ (Below.refl _ _)).mono ?_
  rintro e w1 ⟨rfl,b1⟩
  have B1:=Lib.hid b1
  clear b1
  go_wp2_with fail
  go_ret
  exact⟨rfl,B1.out⟩
 have q3:¬(1100:Int) < (m1:Int):=by omega
 go_enter Tryd.func3,Tryd.ntmps3
 go_wp2_with fail
 refine SZ.out.mono ?_
 rintro e w1 ⟨S,rfl,hS,hSm,rfl⟩
 by_cases hbig:1500 < S
 ·have q4:(1500:Int) < (S:Int):=by omega
  clear hS
  go_wp2_with fail
  refine(KN.out _ (Below.refl _ _)).mono ?_
  rintro e w1 ⟨rfl,b1⟩
  have B1:=Lib.hid b1
  clear b1
  go_wp2_with fail
  go_ret
  exact⟨rfl,B1.out⟩
 have q4:¬(1500:Int) < (S:Int):=by omega
 have RB:=Lib.hid (root_both TS.out (PP.out S (by omega) (hS (by omega))))
 clear hS hSm PP
 by_cases hb2:2000 < m2
 ·have q5:(2000:Int) < (m2:Int):=by omega
  go_wp2_with fail
  refine(KN.out _ (Below.refl _ _)).mono ?_
  rintro e w1 ⟨rfl,b1⟩
  have B1:=Lib.hid b1
  clear b1
  go_wp2_with fail
  go_ret
  exact⟨rfl,B1.out⟩
 have q5:¬(2000:Int) < (m2:Int):=by omega
 obtain⟨y1,k1,x1,x2⟩:=LB.out
 obtain⟨y2,k2,x3,x4⟩:=RB.out
 obtain⟨y3,k3,x5,x6⟩:=OB.out (by omega)
 have X1:=Lib.hid x1
 have X2:=Lib.hid x2
 have X3:=Lib.hid x3
 have X4:=Lib.hid x4
 have X5:=Lib.hid x5
 have X6:=Lib.hid x6
 clear x1 x2 x3 x4 x5 x6 LB RB OB
 go_wp2_with fail
 refine(X1.out _ (Below.refl _ _)).mono ?_
 rintro e w1 ⟨E1,f1,g1,rfl,p1,b1⟩
 have P1:=Lib.hid p1
 have B1:=Lib.hid b1
 clear p1 b1
 go_wp2_with fail
 refine(X2.out _ B1.out).mono ?_
 rintro e w2 ⟨E2,f2,g2,rfl,p2,b2⟩
 have P2:=Lib.hid p2
 have B2:=Lib.hid (B1.out.trans (b2.mono B1.out.size))
 have D2:=Lib.hid (P1.out.below b2)
 clear p2 b2 P1
 go_wp2_with fail
 refine(X3.out _ B2.out).mono ?_
 rintro e w3 ⟨E3,f3,g3,rfl,p3,b3⟩
 have P3:=Lib.hid p3
 have B3:=Lib.hid (B2.out.trans (b3.mono B2.out.size))
 have D3:=Lib.hid (D2.out.below b3)
 have F3:=Lib.hid (P2.out.below b3)
 clear p3 b3 P2 D2
 go_wp2_with fail
 refine(X4.out _ B3.out).mono ?_
 rintro e w4 ⟨E4,f4,g4,rfl,p4,b4⟩
 have P4:=Lib.hid p4
 have B4:=Lib.hid (B3.out.trans (b4.mono B3.out.size))
 have D4:=Lib.hid (D3.out.below b4)
 have F4:=Lib.hid (F3.out.below b4)
 have G4:=Lib.hid (P3.out.below b4)
 clear p4 b4 D3 F3 P3
 go_wp2_with fail
 refine(X5.out _ B4.out).mono ?_
 rintro e w5 ⟨E5,f5,g5,rfl,p5,b5⟩
 have P5:=Lib.hid p5
 have B5:=Lib.hid (B4.out.trans (b5.mono B4.out.size))
 have D5:=Lib.hid (D4.out.below b5)
 have F5:=Lib.hid (F4.out.below b5)
 have G5:=Lib.hid (G4.out.below b5)
 have H5:=Lib.hid (P4.out.below b5)
 clear p5 b5 D4 F4 G4 P4
 go_wp2_with fail
 refine(X6.out _ B5.out).mono ?_
 rintro e w6 ⟨E6,f6,g6,rfl,p6,b6⟩
 have B6:=Lib.hid (B5.out.trans (b6.mono B5.out.size))
 have S1:=Lib.hid (same_self (D5.out.below b6) (F5.out.below b6))
 have S2:=Lib.hid (same_self (G5.out.below b6) (H5.out.below b6))
 have S3:=Lib.hid (same_self (P5.out.below b6) p6)
 clear p6 b6 D5 F5 G5 H5 P5
 go_wp2_with fail
 refine S1.out.mono ?_
 rintro e w7 ⟨rfl,rfl⟩
 go_wp2_with fail
 refine S2.out.mono ?_
 rintro e w7 ⟨rfl,rfl⟩
 go_wp2_with fail
 refine S3.out.mono ?_
 rintro e w7 ⟨rfl,rfl⟩
 go_wp2_with fail
 refine(KN.out _ B6.out).mono ?_
 rintro e w8 ⟨rfl,b8⟩
 have B8:=Lib.hid (B6.out.trans (b8.mono B6.out.size))
 clear b8
 go_wp2_with fail
 go_ret
 exact⟨rfl,B8.out⟩
end Go.Proofs.YtnnfpmebopgogaaDoor.Mk
namespace Go.Proofs.YtnnfpmebopgogaaDoor.Sh
open Go.RowKit Go.Proofs.YtnnfpmebopgogaaDoor.Gn Go.Deep Go.Proofs.YtnnfpmebopgogaaDoor
theorem gSt : Tryd.prog.globalNamed "imprimatur/sha2.starts" = some 0 := by kernel_rfl
theorem gCo : Tryd.prog.globalNamed "imprimatur/sha2.constants" = some 1 := by kernel_rfl
theorem tSt:(Tryd.prog.globals[0]?).map (·.type)=some 118:=by kernel_rfl
theorem tCo:(Tryd.prog.globals[1]?).map (·.type)=some 136:=by kernel_rfl
theorem c64:Tryd.prog.cellsOf 97=1:=by kernel_rfl
theorem c8:Tryd.prog.cellsOf 118=8:=by kernel_rfl
theorem c80:Tryd.prog.cellsOf 136=80:=by kernel_rfl
def ints(l:List Nat):List Int:=l.map fun(x:Nat)=>(x:Int)
theorem ints_length(l:List Nat):(ints l).length=l.length:=by simp[ints]
theorem laid_st:(Rows.laid_imprimatur_sha2_starts:DataW Unit)=Lib.tabData .u64 (ints sc):=by kernel_rfl
theorem laid_co:(Rows.laid_imprimatur_sha2_constants:DataW Unit)=Lib.tabData .u64 (ints kc):=by kernel_rfl
theorem ints_getD(l:List Nat)(i:Nat):(ints l).getD i 0=((l.getD i 0:Nat):Int):=by
 simp only[ints,List.getD_eq_getElem?_getD,List.getElem?_map]
 cases l[i]? <;> rfl
theorem tab_of_laid {W : World} (h : laidMetH Tryd.prog [("imprimatur/sha2.starts", Rows.laid_imprimatur_sha2_starts), ("imprimatur/sha2.constants", Rows.laid_imprimatur_sha2_constants)] W) : Tab W := by
 rw[MakeChecks.laidMetH_plain _ _ _ (by kernel_rfl),laid_st,laid_co] at h
 have h1:=Lib.tabIs_of_head gSt tSt Tryd.underlying118 Tryd.underlying97 c64 c8 h
 have h2:=Lib.tabIs_of_head gCo tCo Tryd.underlying136 Tryd.underlying97 c64 c80 h.tail
 exact⟨fun t ht=>by rw[h2.cell gCo t (by rw[ints_length];exact ht),ints_getD],fun t ht=>by rw[h1.cell gSt t (by rw[ints_length];exact ht),ints_getD]⟩
end Go.Proofs.YtnnfpmebopgogaaDoor.Sh
