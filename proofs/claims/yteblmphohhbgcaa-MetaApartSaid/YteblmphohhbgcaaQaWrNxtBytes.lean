/- Joined texts. -/
import Derived.Test.YteblmphohhbgcaaQaScBytes
set_option linter.unusedVariables false
namespace Go.Proofs.Yteblmphohhbgcaa.Wr
open Go.RowKit Go.Proofs.Yteblmphohhbgcaa.Gn Go.Proofs.Yteblmphohhbgcaa.Fd Go.Deep
set_option maxRecDepth 100000
set_option maxHeartbeats 4000000 in
theorem next_Bytes_no{w:World}{g:Nat}{wh:Bool}{K:Int}{N:Nat}{r:Rw}{B:Option Addr}{cc:Nat}{us ks:List Tv}(h:Fl w g wh ((.mk K N r B cc us) :: ks))(pa pb:Nat)(hf:∀u,Below w.heap.size w u→Calls Try.prog 88 #[.agg #[.int .i64 K,.int .u64 (N:Int),.slice r.1 r.2.1 r.2.2.1,.slice B us.length cc],.pointer (some ⟨pa,0,none⟩),.pointer (some ⟨pb,0,none⟩)] u fun e w'=>e=.returned (.bool false)∧Below u.heap.size u w'):Calls Try.prog 85 #[.pointer (some ⟨g,0,none⟩),.int .i64 K,.func (.func 88) #[] #[.pointer (some ⟨pa,0,none⟩),.pointer (some ⟨pb,0,none⟩)]] w ((NxQ tv0 false [] g w)):=by
 have CF:=Lib.hid (hf _ (below_one w nodo))
 have H:=Lib.hid h
 obtain⟨A,c,hr,hs,h0,hc,hA⟩:=h.row
 obtain⟨ad,rfl,k0,k1,k2,k3⟩:=head_cells (hs.below (below_one w nodo))
 obtain⟨m,hm⟩:∃m,(Tv.mk K N r B cc us :: ks).length=m:=⟨_,rfl⟩
 have m1:1≤m:=by rw[←hm];simp
 have m0:¬(m:Int)=0:=by omega
 have m2:0 < (m:Int):=by omega
 have glt:=hr.lt
 have RG:=hr.alloc nodo
 rw[hm] at RG
 have r0:(w.alloc nodo).cell? ⟨g,0,none⟩=some (.bool wh):=RG.cell_ rfl
 have r1:(w.alloc nodo).cell? ⟨g,1,none⟩=some (.slice (some ad) m c):=RG.cell_ rfl
 have RG0:=Lib.hid RG
 have HM:=Lib.hid (show(Tv.mk K N r B cc us :: ks).length=m from hm)
 have HSL:=Lib.hid (And.intro hs (And.intro h0 (And.intro hc hA)))
 have e0:((m:Int) == 0)=false:=by simp;omega
 have LG0:=Lib.hid (Bl.new_ w 80 #[.int .i64 0,.int .u64 0,.slice none 0 0,.slice none 0 0])
 clear h hf hr hs h0 hc hA hm RG glt
 go_enter Try.func85,Try.ntmps85
 go_upto_region 4 with(go_at_call 88;(refine CF.out.mono ?_);rintro e w1 ⟨rfl,hb1⟩;have B1:=Lib.hid (show Below (w.heap.size+1) (w.alloc nodo) w1 from by rw[show(w.alloc nodo).heap.size=w.heap.size+1 by simp] at hb1;exact hb1);have RG1:=Lib.hid (RG0.out.below' hb1);have LG1:=Lib.hid (LG0.out.below' hb1);have j0:=(hb1.cell (cell_lt k0)).trans k0;have j1:=(hb1.cell (cell_lt k1)).trans k1;have j2:=(hb1.cell (cell_lt k2)).trans k2;have j3:=(hb1.cell (cell_lt k3)).trans k3;clear hb1)
 obtain⟨U,hU⟩:∃U,(w1.setCell ⟨g,0,none⟩ (.bool false)).setCell ⟨g,1,none⟩ (.slice none 0 0)=U:=⟨_,rfl⟩
 obtain⟨RU,LU,GU⟩:=miss_on H.out B1.out U hU.symm
 have x0:w1.cell? ⟨g,0,none⟩=some (.bool wh):=RG1.out.cell_ rfl
 have x1:w1.cell? ⟨g,1,none⟩=some (.slice (some ad) m c):=RG1.out.cell_ rfl
 have f0:=RG1.out.frozen 0
 have f1:=RG1.out.frozen 1
 have c0:U.cell? ⟨w.heap.size,0,none⟩=some (.int .i64 0):=LU.cell_ rfl
 have c1:U.cell? ⟨w.heap.size,1,none⟩=some (.int .u64 0):=LU.cell_ rfl
 have c2:U.cell? ⟨w.heap.size,2,none⟩=some (.slice none 0 0):=LU.cell_ rfl
 have c3:U.cell? ⟨w.heap.size,3,none⟩=some (.slice none 0 0):=LU.cell_ rfl
 have z0:=LU.frozen 0
 have z1:=LU.frozen 1
 have z2:=LU.frozen 2
 have z3:=LU.frozen 3
 have HZ:=Lib.hid (And.intro H.out.lt (And.intro RU (And.intro LU GU)))
 clear RU LU GU
 go_wp2_with fail
 obtain⟨glt,RU,LU,GU⟩:=HZ.out
 exact⟨rfl,_,results_c rfl _ _ _ ⟨w.heap.size,0,none⟩ _ (by kernel_rfl) (run_loadVar_row _ w.heap.size 80 80 #[.int .i64 0,.int .u64 0,.slice none 0 0,.slice none 0 0] (0,0) _ (st4_bl LU _ _ _ _) Try.underlying80 rfl size34),rfl,st4_fl (fl_nil RU) glt _ _ _ _,st4_only GU (Nat.le_refl _) _ _ _ _,ok_tv0 _⟩
set_option maxHeartbeats 4000000 in
theorem next_Bytes_yes{w:World}{g:Nat}{wh:Bool}{K:Int}{N:Nat}{r:Rw}{B:Option Addr}{cc:Nat}{us ks:List Tv}(h:Fl w g wh ((.mk K N r B cc us) :: ks))(pa pb:Nat)(hf:∀u,Below w.heap.size w u→Calls Try.prog 88 #[.agg #[.int .i64 K,.int .u64 (N:Int),.slice r.1 r.2.1 r.2.2.1,.slice B us.length cc],.pointer (some ⟨pa,0,none⟩),.pointer (some ⟨pb,0,none⟩)] u fun e w'=>e=.returned (.bool true)∧Below u.heap.size u w'):Calls Try.prog 85 #[.pointer (some ⟨g,0,none⟩),.int .i64 K,.func (.func 88) #[] #[.pointer (some ⟨pa,0,none⟩),.pointer (some ⟨pb,0,none⟩)]] w (NxQ (.mk K N r B cc us) wh ks g w):=by
 have CF:=Lib.hid (hf _ (below_one w nodo))
 have H:=Lib.hid h
 obtain⟨A,c,hr,hs,h0,hc,hA⟩:=h.row
 obtain⟨ad,rfl,k0,k1,k2,k3⟩:=head_cells (hs.below (below_one w nodo))
 obtain⟨m,hm⟩:∃m,(Tv.mk K N r B cc us :: ks).length=m:=⟨_,rfl⟩
 have m1:1≤m:=by rw[←hm];simp
 have m0:¬(m:Int)=0:=by omega
 have m2:0 < (m:Int):=by omega
 have glt:=hr.lt
 have RG:=hr.alloc nodo
 rw[hm] at RG
 have r0:(w.alloc nodo).cell? ⟨g,0,none⟩=some (.bool wh):=RG.cell_ rfl
 have r1:(w.alloc nodo).cell? ⟨g,1,none⟩=some (.slice (some ad) m c):=RG.cell_ rfl
 have RG0:=Lib.hid RG
 have HM:=Lib.hid (show(Tv.mk K N r B cc us :: ks).length=m from hm)
 have HSL:=Lib.hid (And.intro hs (And.intro h0 (And.intro hc hA)))
 have e0:((m:Int) == 0)=false:=by simp;omega
 have LG0:=Lib.hid (Bl.new_ w 80 #[.int .i64 0,.int .u64 0,.slice none 0 0,.slice none 0 0])
 clear h hf hr hs h0 hc hA hm RG glt
 go_enter Try.func85,Try.ntmps85
 go_upto_region 6 with(go_at_call 88;(refine CF.out.mono ?_);rintro e w1 ⟨rfl,hb1⟩;have B1:=Lib.hid (show Below (w.heap.size+1) (w.alloc nodo) w1 from by rw[show(w.alloc nodo).heap.size=w.heap.size+1 by simp] at hb1;exact hb1);have RG1:=Lib.hid (RG0.out.below' hb1);have LG1:=Lib.hid (LG0.out.below' hb1);have j0:=(hb1.cell (cell_lt k0)).trans k0;have j1:=(hb1.cell (cell_lt k1)).trans k1;have j2:=(hb1.cell (cell_lt k2)).trans k2;have j3:=(hb1.cell (cell_lt k3)).trans k3;clear hb1)
 have x0:w1.cell? ⟨g,0,none⟩=some (.bool wh):=RG1.out.cell_ rfl
 have x1:w1.cell? ⟨g,1,none⟩=some (.slice (some ad) m c):=RG1.out.cell_ rfl
 obtain⟨w2,hw2⟩:∃w2,w1.alloc (.cells #[.int .i64 K,.int .u64 (N:Int),.slice r.1 r.2.1 r.2.2.1,.slice B us.length cc] 80)=w2:=⟨_,rfl⟩
 have RG2:=Lib.hid (show Bl w2 g 146 _ from by rw[←hw2];exact RG1.out.alloc _)
 have LG2:=Lib.hid (show Bl w2 w.heap.size 80 _ from by rw[←hw2];exact LG1.out.alloc _)
 have NG2:=Lib.hid (show Bl w2 w1.heap.size 80 #[.int .i64 K,.int .u64 (N:Int),.slice r.1 r.2.1 r.2.2.1,.slice B us.length cc] from by rw[←hw2];exact Bl.new_ _ _ _)
 have B2:=Lib.hid (show Below (w.heap.size+1) (w.alloc nodo) w2 from by rw[←hw2];exact B1.out.alloc (by have:=B1.out.size;simpa using this) _)
 have y1:w2.cell? ⟨g,1,none⟩=some (.slice (some ad) m c):=RG2.out.cell_ rfl
 have f1:=RG2.out.frozen 1
 obtain⟨A',hA'⟩:∃A',(if c=1 then some ad else some ⟨ad.block,ad.off+4,none⟩)=A':=⟨_,rfl⟩
 obtain⟨w3,hw3⟩:∃w3,w2.setCell ⟨g,1,none⟩ (.slice A' (m - 1) (c - 1))=w3:=⟨_,rfl⟩
 have glt:=H.out.lt
 have s1:w.heap.size+1≤w1.heap.size:=by have:=B1.out.size;simpa using this
 have RG3:=Lib.hid (show Bl w3 g 146 #[.bool wh,.slice A' (m - 1) (c - 1)] from by rw[←hw3];exact RG2.out.set_ 1 _)
 have LG3:=Lib.hid (show Bl w3 w.heap.size 80 #[.int .i64 0,.int .u64 0,.slice none 0 0,.slice none 0 0] from by rw[←hw3];exact LG2.out.other (p:=⟨g,1,none⟩) (by show w.heap.size≠g;omega) _)
 have NG3:=Lib.hid (show Bl w3 w1.heap.size 80 #[.int .i64 K,.int .u64 (N:Int),.slice r.1 r.2.1 r.2.2.1,.slice B us.length cc] from by rw[←hw3];exact NG2.out.other (p:=⟨g,1,none⟩) (by show w1.heap.size≠g;omega) _)
 have B3:=Lib.hid (show Below g w w3 from by rw[←hw3];exact((((below_one w nodo).trans (B2.out.mono (Nat.le_succ _))).mono (Nat.le_of_lt glt)).setCell (p:=⟨g,1,none⟩) (Nat.le_refl _) _))
 have G3:=Lib.hid (show w.grownBy w3 (some g) from by rw[←hw3];exact only_set (only_below ((below_one w nodo).trans (B2.out.mono (Nat.le_succ _))) (some g)) (p:=⟨g,1,none⟩) (Or.inl rfl) _)
 have c0:w3.cell? ⟨w.heap.size,0,none⟩=some (.int .i64 0):=LG3.out.cell_ rfl
 have c1:w3.cell? ⟨w.heap.size,1,none⟩=some (.int .u64 0):=LG3.out.cell_ rfl
 have c2:w3.cell? ⟨w.heap.size,2,none⟩=some (.slice none 0 0):=LG3.out.cell_ rfl
 have c3:w3.cell? ⟨w.heap.size,3,none⟩=some (.slice none 0 0):=LG3.out.cell_ rfl
 have z0:=LG3.out.frozen 0
 have z1:=LG3.out.frozen 1
 have z2:=LG3.out.frozen 2
 have z3:=LG3.out.frozen 3
 have n0:w3.cell? ⟨w1.heap.size,0,none⟩=some (.int .i64 K):=NG3.out.cell_ rfl
 have n1:w3.cell? ⟨w1.heap.size,1,none⟩=some (.int .u64 (N:Int)):=NG3.out.cell_ rfl
 have n2:w3.cell? ⟨w1.heap.size,2,none⟩=some (.slice r.1 r.2.1 r.2.2.1):=NG3.out.cell_ rfl
 have n3:w3.cell? ⟨w1.heap.size,3,none⟩=some (.slice B us.length cc):=NG3.out.cell_ rfl
 clear glt s1
 go_upto_region 8 with fail
 try rw[hA']
 try rw[hw3]
 go_wp2_with fail
 have glt:=H.out.lt
 have e1:ks.length=m - 1:=by have:=HM.out;simp at this;omega
 have hmem:(.mk K N r B cc us)∈(.mk K N r B cc us) :: ks:=List.mem_cons_self
 obtain⟨hs,h0,hc,hA⟩:=HSL.out
 have BF:Below g w (st4 w3 w.heap.size (.int .i64 K) (.int .u64 (N:Int)) (.slice r.1 r.2.1 r.2.2.1) (.slice B us.length cc)):=below_st4' B3.out (Nat.le_of_lt glt) _ _ _ _
 have FL3:Fl w3 g wh ks:=by
  refine H.out.kept (fun t ht=>List.mem_cons_of_mem _ ht) B3.out (A:=A') (c:=c - 1) (by rw[e1];exact RG3.out) ?_ (fun e=>by rw[←hA'] at e;split at e <;> cases e) (by rw[e1];have:=HM.out;omega) (fun ad' e hp=>?_)
  ·rw[←hA']
   split
   ·rename_i e;have hk:ks=[]:=List.length_eq_zero_iff.1 (by have:=HM.out;omega);subst hk;exact Sl.nil_ w _
   ·rw[←ad_pos ad (show 4≠0 by decide)];exact sl_tail4 hs
  ·have hb:ad'.block=ad.block:=by rw[←hA'] at e;split at e <;> (cases e;rfl)
   rw[hb];exact hA ad rfl (by simp)
 exact⟨rfl,_,results_c rfl _ _ _ ⟨w.heap.size,0,none⟩ _ (by kernel_rfl) (run_loadVar_row _ w.heap.size 80 80 #[.int .i64 K,.int .u64 (N:Int),.slice r.1 r.2.1 r.2.2.1,.slice B us.length cc] (0,0) _ (st4_bl LG3.out _ _ _ _) Try.underlying80 rfl size34),rfl,st4_fl FL3 glt _ _ _ _,st4_only G3.out (Nat.le_refl _) _ _ _ _,(H.out.ok _ hmem).kept (liess_mem.1 H.out.away _ hmem) (fun k hk _=>BF.block k hk)⟩
end Go.Proofs.Yteblmphohhbgcaa.Wr
