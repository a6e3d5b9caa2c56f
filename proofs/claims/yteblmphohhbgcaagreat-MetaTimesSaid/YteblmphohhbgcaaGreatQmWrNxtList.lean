/- Joined texts. -/
import Derived.Test.YteblmphohhbgcaaGreatQmWrNext
import Derived.Test.YteblmphohhbgcaaGreatQmWrNxtInt
set_option linter.unusedVariables false
namespace Go.Proofs.YteblmphohhbgcaaGreat.Wr
open Go.RowKit Go.Proofs.YteblmphohhbgcaaGreat.Gn Go.Proofs.YteblmphohhbgcaaGreat.Fd Go.Deep
set_option maxRecDepth 100000
set_option maxHeartbeats 4000000 in
theorem next_List_no{w:World}{g:Nat}{wh:Bool}{K:Int}{N:Nat}{r:Rw}{B:Option Addr}{cc:Nat}{us ks:List Tv}(h:Fl w g wh ((.mk K N r B cc us) :: ks))(pa pb:Nat)(hf:∀u,Below w.heap.size w u→Calls Tryz.prog 136 #[.agg #[.int .i64 K,.int .u64 (N:Int),.slice r.1 r.2.1 r.2.2.1,.slice B us.length cc],.pointer (some ⟨pa,0,none⟩),.pointer (some ⟨pb,0,none⟩)] u fun e w'=>e=.returned (.bool false)∧Below u.heap.size u w'):Calls Tryz.prog 126 #[.pointer (some ⟨g,0,none⟩),.int .i64 K,.func (.func 136) #[] #[.pointer (some ⟨pa,0,none⟩),.pointer (some ⟨pb,0,none⟩)]] w ((NxQ tv0 false [] g w)):=by
 have CF:=Lib.hid (hf _ (below_one w nodo))
 have H:=Lib.hid h
 obtain⟨A,c,hr,hs,h0,hc,hA⟩:=h.row
 obtain⟨ad,rfl,k0,k1,k2,k3⟩:=head_cells (hs.below (below_one w nodo))
 obtain⟨m,hm⟩:∃m,(Tv.mk K N r B cc us :: ks).length=m:=⟨_,rfl⟩
 have m1:1≤m:=by rw[←hm];simp
 have m0:¬(m:Int)=0:=by omega
 have m2:0 < (m:Int):=by omega
 have glt:=hr.lt
 have RG:=hr.alloc nodo
 rw[hm] at RG
 have r0:(w.alloc nodo).cell? ⟨g,0,none⟩=some (.bool wh):=RG.cell_ rfl
 have r1:(w.alloc nodo).cell? ⟨g,1,none⟩=some (.slice (some ad) m c):=RG.cell_ rfl
 have RG0:=Lib.hid RG
 have HM:=Lib.hid (show(Tv.mk K N r B cc us :: ks).length=m from hm)
 have HSL:=Lib.hid (And.intro hs (And.intro h0 (And.intro hc hA)))
 have e0:((m:Int) == 0)=false:=by simp;omega
 have LG0:=Lib.hid (Bl.new_ w 75 #[.int .i64 0,.int .u64 0,.slice none 0 0,.slice none 0 0])
 clear h hf hr hs h0 hc hA hm RG glt
 go_enter Tryz.func126,Tryz.ntmps126
 go_upto_region 4 with(go_at_call 136;(refine CF.out.mono ?_);rintro e w1 ⟨rfl,hb1⟩;have B1:=Lib.hid (show Below (w.heap.size+1) (w.alloc nodo) w1 from by rw[show(w.alloc nodo).heap.size=w.heap.size+1 by simp] at hb1;exact hb1);have RG1:=Lib.hid (RG0.out.below' hb1);have LG1:=Lib.hid (LG0.out.below' hb1);have j0:=(hb1.cell (cell_lt k0)).trans k0;have j1:=(hb1.cell (cell_lt k1)).trans k1;have j2:=(hb1.cell (cell_lt k2)).trans k2;have j3:=(hb1.cell (cell_lt k3)).trans k3;clear hb1)
 obtain⟨U,hU⟩:∃U,(w1.setCell ⟨g,0,none⟩ (.bool false)).setCell ⟨g,1,none⟩ (.slice none 0 0)=U:=⟨_,rfl⟩
 obtain⟨RU,LU,GU⟩:=miss_on H.out B1.out U hU.symm
 have x0:w1.cell? ⟨g,0,none⟩=some (.bool wh):=RG1.out.cell_ rfl
 have x1:w1.cell? ⟨g,1,none⟩=some (.slice (some ad) m c):=RG1.out.cell_ rfl
 have f0:=RG1.out.frozen 0
 have f1:=RG1.out.frozen 1
 have c0:U.cell? ⟨w.heap.size,0,none⟩=some (.int .i64 0):=LU.cell_ rfl
 have c1:U.cell? ⟨w.heap.size,1,none⟩=some (.int .u64 0):=LU.cell_ rfl
 have c2:U.cell? ⟨w.heap.size,2,none⟩=some (.slice none 0 0):=LU.cell_ rfl
 have c3:U.cell? ⟨w.heap.size,3,none⟩=some (.slice none 0 0):=LU.cell_ rfl
 have z0:=LU.frozen 0
 have z1:=LU.frozen 1
 have z2:=LU.frozen 2
 have z3:=LU.frozen 3
 have HZ:=Lib.hid (And.intro H.out.lt (And.intro RU (And.intro LU GU)))
 clear RU LU GU
 go_wp2_with fail
 obtain⟨glt,RU,LU,GU⟩:=HZ.out
 exact⟨rfl,_,results_c rfl _ _ _ ⟨w.heap.size,0,none⟩ _ (by kernel_rfl) (run_loadVar_row _ w.heap.size 75 75 #[.int .i64 0,.int .u64 0,.slice none 0 0,.slice none 0 0] (0,0) _ (st4_bl LU _ _ _ _) Tryz.underlying75 rfl size34),rfl,st4_fl (fl_nil RU) glt _ _ _ _,st4_only GU (Nat.le_refl _) _ _ _ _,ok_tv0 _⟩
set_option maxHeartbeats 4000000 in
theorem next_List_yes{w:World}{g:Nat}{wh:Bool}{K:Int}{N:Nat}{r:Rw}{B:Option Addr}{cc:Nat}{us ks:List Tv}(h:Fl w g wh ((.mk K N r B cc us) :: ks))(pa pb:Nat)(hf:∀u,Below w.heap.size w u→Calls Tryz.prog 136 #[.agg #[.int .i64 K,.int .u64 (N:Int),.slice r.1 r.2.1 r.2.2.1,.slice B us.length cc],.pointer (some ⟨pa,0,none⟩),.pointer (some ⟨pb,0,none⟩)] u fun e w'=>e=.returned (.bool true)∧Below u.heap.size u w'):Calls Tryz.prog 126 #[.pointer (some ⟨g,0,none⟩),.int .i64 K,.func (.func 136) #[] #[.pointer (some ⟨pa,0,none⟩),.pointer (some ⟨pb,0,none⟩)]] w (NxQ (.mk K N r B cc us) wh ks g w):=by
 have CF:=Lib.hid (hf _ (below_one w nodo))
 have H:=Lib.hid h
 obtain⟨A,c,hr,hs,h0,hc,hA⟩:=h.row
 obtain⟨ad,rfl,k0,k1,k2,k3⟩:=head_cells (hs.below (below_one w nodo))
 obtain⟨m,hm⟩:∃m,(Tv.mk K N r B cc us :: ks).length=m:=⟨_,rfl⟩
 have m1:1≤m:=by rw[←hm];simp
 have m0:¬(m:Int)=0:=by omega
 have m2:0 < (m:Int):=by omega
 have glt:=hr.lt
 have RG:=hr.alloc nodo
 rw[hm] at RG
 have r0:(w.alloc nodo).cell? ⟨g,0,none⟩=some (.bool wh):=RG.cell_ rfl
 have r1:(w.alloc nodo).cell? ⟨g,1,none⟩=some (.slice (some ad) m c):=RG.cell_ rfl
 have RG0:=Lib.hid RG
 have HM:=Lib.hid (show(Tv.mk K N r B cc us :: ks).length=m from hm)
 have HSL:=Lib.hid (And.intro hs (And.intro h0 (And.intro hc hA)))
 have e0:((m:Int) == 0)=false:=by simp;omega
 have LG0:=Lib.hid (Bl.new_ w 75 #[.int .i64 0,.int .u64 0,.slice none 0 0,.slice none 0 0])
 clear h hf hr hs h0 hc hA hm RG glt
 go_enter Tryz.func126,Tryz.ntmps126
 go_upto_region 6 with(go_at_call 136;(refine CF.out.mono ?_);rintro e w1 ⟨rfl,hb1⟩;have B1:=Lib.hid (show Below (w.heap.size+1) (w.alloc nodo) w1 from by rw[show(w.alloc nodo).heap.size=w.heap.size+1 by simp] at hb1;exact hb1);have RG1:=Lib.hid (RG0.out.below' hb1);have LG1:=Lib.hid (LG0.out.below' hb1);have j0:=(hb1.cell (cell_lt k0)).trans k0;have j1:=(hb1.cell (cell_lt k1)).trans k1;have j2:=(hb1.cell (cell_lt k2)).trans k2;have j3:=(hb1.cell (cell_lt k3)).trans k3;clear hb1)
 have x0:w1.cell? ⟨g,0,none⟩=some (.bool wh):=RG1.out.cell_ rfl
 have x1:w1.cell? ⟨g,1,none⟩=some (.slice (some ad) m c):=RG1.out.cell_ rfl
 obtain⟨w2,hw2⟩:∃w2,w1.alloc (.cells #[.int .i64 K,.int .u64 (N:Int),.slice r.1 r.2.1 r.2.2.1,.slice B us.length cc] 75)=w2:=⟨_,rfl⟩
 have RG2:=Lib.hid (show Bl w2 g 188 _ from by rw[←hw2];exact RG1.out.alloc _)
 have LG2:=Lib.hid (show Bl w2 w.heap.size 75 _ from by rw[←hw2];exact LG1.out.alloc _)
 have NG2:=Lib.hid (show Bl w2 w1.heap.size 75 #[.int .i64 K,.int .u64 (N:Int),.slice r.1 r.2.1 r.2.2.1,.slice B us.length cc] from by rw[←hw2];exact Bl.new_ _ _ _)
 have B2:=Lib.hid (show Below (w.heap.size+1) (w.alloc nodo) w2 from by rw[←hw2];exact B1.out.alloc (by have:=B1.out.size;simpa using this) _)
 have y1:w2.cell? ⟨g,1,none⟩=some (.slice (some ad) m c):=RG2.out.cell_ rfl
 have f1:=RG2.out.frozen 1
 obtain⟨A',hA'⟩:∃A',(if c=1 then some ad else some ⟨ad.block,ad.off+4,none⟩)=A':=⟨_,rfl⟩
 obtain⟨w3,hw3⟩:∃w3,w2.setCell ⟨g,1,none⟩ (.slice A' (m - 1) (c - 1))=w3:=⟨_,rfl⟩
 have glt:=H.out.lt
 have s1:w.heap.size+1≤w1.heap.size:=by have:=B1.out.size;simpa using this
 have RG3:=Lib.hid (show Bl w3 g 188 #[.bool wh,.slice A' (m - 1) (c - 1)] from by rw[←hw3];exact RG2.out.set_ 1 _)
 have LG3:=Lib.hid (show Bl w3 w.heap.size 75 #[.int .i64 0,.int .u64 0,.slice none 0 0,.slice none 0 0] from by rw[←hw3];exact LG2.out.other (p:=⟨g,1,none⟩) (by show w.heap.size≠g;omega) _)
 have NG3:=Lib.hid (show Bl w3 w1.heap.size 75 #[.int .i64 K,.int .u64 (N:Int),.slice r.1 r.2.1 r.2.2.1,.slice B us.length cc] from by rw[←hw3];exact NG2.out.other (p:=⟨g,1,none⟩) (by show w1.heap.size≠g;omega) _)
 have B3:=Lib.hid (show Below g w w3 from by rw[←hw3];exact((((below_one w nodo).trans (B2.out.mono (Nat.le_succ _))).mono (Nat.le_of_lt glt)).setCell (p:=⟨g,1,none⟩) (Nat.le_refl _) _))
 have G3:=Lib.hid (show w.grownBy w3 (some g) from by rw[←hw3];exact only_set (only_below ((below_one w nodo).trans (B2.out.mono (Nat.le_succ _))) (some g)) (p:=⟨g,1,none⟩) (Or.inl rfl) _)
 have c0:w3.cell? ⟨w.heap.size,0,none⟩=some (.int .i64 0):=LG3.out.cell_ rfl
 have c1:w3.cell? ⟨w.heap.size,1,none⟩=some (.int .u64 0):=LG3.out.cell_ rfl
 have c2:w3.cell? ⟨w.heap.size,2,none⟩=some (.slice none 0 0):=LG3.out.cell_ rfl
 have c3:w3.cell? ⟨w.heap.size,3,none⟩=some (.slice none 0 0):=LG3.out.cell_ rfl
 have z0:=LG3.out.frozen 0
 have z1:=LG3.out.frozen 1
 have z2:=LG3.out.frozen 2
 have z3:=LG3.out.frozen 3
 have n0:w3.cell? ⟨w1.heap.size,0,none⟩=some (.int .i64 K):=NG3.out.cell_ rfl
 have n1:w3.cell? ⟨w1.heap.size,1,none⟩=some (.int .u64 (N:Int)):=NG3.out.cell_ rfl
 have n2:w3.cell? ⟨w1.heap.size,2,none⟩=some (.slice r.1 r.2.1 r.2.2.1):=NG3.out.cell_ rfl
 have n3:w3.cell? ⟨w1.heap.size,3,none⟩=some (.slice B us.length cc):=NG3.out.cell_ rfl
 clear glt s1
 go_upto_region 8 with fail
 try rw[hA']
 try rw[hw3]
 go_wp2_with fail
 have glt:=H.out.lt
 have e1:ks.length=m - 1:=by have:=HM.out;simp at this;omega
 have hmem:(.mk K N r B cc us)∈(.mk K N r B cc us) :: ks:=List.mem_cons_self
 obtain⟨hs,h0,hc,hA⟩:=HSL.out
 have BF:Below g w (st4 w3 w.heap.size (.int .i64 K) (.int .u64 (N:Int)) (.slice r.1 r.2.1 r.2.2.1) (.slice B us.length cc)):=below_st4' B3.out (Nat.le_of_lt glt) _ _ _ _
 have FL3:Fl w3 g wh ks:=by
  refine H.out.kept (fun t ht=>List.mem_cons_of_mem _ ht) B3.out (A:=A') (c:=c - 1) (by rw[e1];exact RG3.out) ?_ (fun e=>by rw[←hA'] at e;split at e <;> cases e) (by rw[e1];have:=HM.out;omega) (fun ad' e hp=>?_)
  ·rw[←hA']
   split
   ·rename_i e;have hk:ks=[]:=List.length_eq_zero_iff.1 (by have:=HM.out;omega);subst hk;exact Sl.nil_ w _
   ·rw[←ad_pos ad (show 4≠0 by decide)];exact sl_tail4 hs
  ·have hb:ad'.block=ad.block:=by rw[←hA'] at e;split at e <;> (cases e;rfl)
   rw[hb];exact hA ad rfl (by simp)
 exact⟨rfl,_,results_c rfl _ _ _ ⟨w.heap.size,0,none⟩ _ (by kernel_rfl) (run_loadVar_row _ w.heap.size 75 75 #[.int .i64 K,.int .u64 (N:Int),.slice r.1 r.2.1 r.2.2.1,.slice B us.length cc] (0,0) _ (st4_bl LG3.out _ _ _ _) Tryz.underlying75 rfl size34),rfl,st4_fl FL3 glt _ _ _ _,st4_only G3.out (Nat.le_refl _) _ _ _ _,(H.out.ok _ hmem).kept (liess_mem.1 H.out.away _ hmem) (fun k hk _=>BF.block k hk)⟩
end Go.Proofs.YteblmphohhbgcaaGreat.Wr
namespace Go.Proofs.YteblmphohhbgcaaGreat.Wr
open Go.RowKit Go.Proofs.YteblmphohhbgcaaGreat.Gn Go.Proofs.YteblmphohhbgcaaGreat.Fd Go.Deep
set_option maxRecDepth 100000
def kd:Tv→Int
 |.mk K _ _ _ _ _=>K
def nm:Tv→Nat
 |.mk _ N _ _ _ _=>N
def rw_:Tv→Rw
 |.mk _ _ r _ _ _=>r
def kids:Tv→List Tv
 |.mk _ _ _ _ _ us=>us
def nxt(F:Tv→Bool)(k:Int)(wh:Bool):List Tv→Tv × Bool × List Tv
 | []=>(tv0,false,[])
 |t :: ts=>if kd t=k then(if F t=true then(t,wh,ts) else(tv0,false,[])) else(tv0,false,[])
theorem nxt_is(F:Tv→Bool)(k:Int)(wh:Bool)(ks:List Tv):((nxt F k wh ks).1=tv0∧(nxt F k wh ks).2=(false,[]))∨∃t ts,ks=t :: ts∧kd t=k∧F t=true∧nxt F k wh ks=(t,wh,ts):=by
 cases ks with
 |nil=>exact .inl ⟨rfl,rfl⟩
 |cons t ts =>
  rw[nxt]
  split
  ·split
   ·rename_i h1 h2;exact .inr ⟨t,ts,rfl,h1,h2,rfl⟩
   ·exact .inl ⟨rfl,rfl⟩
  ·exact .inl ⟨rfl,rfl⟩
abbrev fInt(pa pb:Nat):Value:=.func (.func 127) #[] #[.pointer (some ⟨pa,0,none⟩),.pointer (some ⟨pb,0,none⟩)]
abbrev fBytes(pa pb:Nat):Value:=.func (.func 129) #[] #[.pointer (some ⟨pa,0,none⟩),.pointer (some ⟨pb,0,none⟩)]
abbrev fList(pa pb:Nat):Value:=.func (.func 136) #[] #[.pointer (some ⟨pa,0,none⟩),.pointer (some ⟨pb,0,none⟩)]
def FI(a b:Int)(t:Tv):Bool:=isI (nm t) && inB (nm t:Int) a b
def FB(a b:Int)(t:Tv):Bool:=inB ((rw_ t).2.1:Int) a b
def FL(a b:Int)(t:Tv):Bool:=inB ((kids t).length:Int) a b
def N3(x:Tv × Bool × List Tv)(g:Nat)(w:World)(e:Ending)(w':World):Prop:=NxQ x.1 x.2.1 x.2.2 g w e w'
theorem n3_empty{w:World}{g:Nat}{wh:Bool}(h:Fl w g wh [])(F:Tv→Bool)(k:Int)(fv:Value):Calls Tryz.prog 126 #[.pointer (some ⟨g,0,none⟩),.int .i64 k,fv] w (N3 (nxt F k wh []) g w):=next_empty h k fv
theorem n3_kind{w:World}{g:Nat}{wh:Bool}{t:Tv}{ks:List Tv}(h:Fl w g wh (t :: ks))(F:Tv→Bool)(k:Int)(hk:¬kd t=k)(fv:Value):Calls Tryz.prog 126 #[.pointer (some ⟨g,0,none⟩),.int .i64 k,fv] w (N3 (nxt F k wh (t :: ks)) g w):=by
 obtain⟨K,N,r,B,cc,us⟩:=t
 rw[nxt,if_neg hk]
 exact next_kind h k hk fv
theorem nextI{w:World}{g:Nat}{wh:Bool}{ks:List Tv}(h:Fl w g wh ks)(k:Int)(pa pb:Nat)(a b:Int)(ha:w.cell? ⟨pa,0,none⟩=some (.int .i64 a))(hb:w.cell? ⟨pb,0,none⟩=some (.int .i64 b)):Calls Tryz.prog 126 #[.pointer (some ⟨g,0,none⟩),.int .i64 k,fInt pa pb] w (N3 (nxt (FI a b) k wh ks) g w):=by
 cases ks with
 |nil=>exact n3_empty h _ k _
 |cons t ts =>
  by_cases hk:kd t=k
  ·have hok:=h.ok t List.mem_cons_self
   skip
   obtain⟨K,N,r,B,cc,us⟩:=t
   subst hk
   have hpc:Pc w r:=by cases hok with|mk hn hr hs hm hc h0 hk=>exact hr
   cases hF:FI a b (.mk K N r B cc us) with
   |true =>
    rw[nxt,if_pos rfl,if_pos hF]
    exact next_Int_yes h pa pb fun u hu=>by
     have e:=cl_Int (K:=K) (N:=N) (r:=r) (B:=B) (cc:=cc) (us:=us) pa pb a b u ((hu.cell (cell_lt ha)).trans ha) ((hu.cell (cell_lt hb)).trans hb)
     rw[show(isI N && inB (N:Int) a b)=true from hF] at e
     exact e
   |false =>
    rw[nxt,if_pos rfl,if_neg (by rw[hF];decide)]
    exact next_Int_no h pa pb fun u hu=>by
     have e:=cl_Int (K:=K) (N:=N) (r:=r) (B:=B) (cc:=cc) (us:=us) pa pb a b u ((hu.cell (cell_lt ha)).trans ha) ((hu.cell (cell_lt hb)).trans hb)
     rw[show(isI N && inB (N:Int) a b)=false from hF] at e
     exact e
  ·exact n3_kind h _ k hk _
theorem nextB{w:World}{g:Nat}{wh:Bool}{ks:List Tv}(h:Fl w g wh ks)(k:Int)(pa pb:Nat)(a b:Int)(ha:w.cell? ⟨pa,0,none⟩=some (.int .i64 a))(hb:w.cell? ⟨pb,0,none⟩=some (.int .i64 b)):Calls Tryz.prog 126 #[.pointer (some ⟨g,0,none⟩),.int .i64 k,fBytes pa pb] w (N3 (nxt (FB a b) k wh ks) g w):=by
 cases ks with
 |nil=>exact n3_empty h _ k _
 |cons t ts =>
  by_cases hk:kd t=k
  ·have hok:=h.ok t List.mem_cons_self
   skip
   obtain⟨K,N,r,B,cc,us⟩:=t
   subst hk
   have hpc:Pc w r:=by cases hok with|mk hn hr hs hm hc h0 hk=>exact hr
   cases hF:FB a b (.mk K N r B cc us) with
   |true =>
    rw[nxt,if_pos rfl,if_pos hF]
    exact next_Bytes_yes h pa pb fun u hu=>by
     have e:=cl_Bytes (K:=K) (N:=N) (r:=r) (B:=B) (cc:=cc) (us:=us) pa pb a b u ((hu.cell (cell_lt ha)).trans ha) ((hu.cell (cell_lt hb)).trans hb)
     rw[show inB (r.2.1:Int) a b=true from hF] at e
     exact e
   |false =>
    rw[nxt,if_pos rfl,if_neg (by rw[hF];decide)]
    exact next_Bytes_no h pa pb fun u hu=>by
     have e:=cl_Bytes (K:=K) (N:=N) (r:=r) (B:=B) (cc:=cc) (us:=us) pa pb a b u ((hu.cell (cell_lt ha)).trans ha) ((hu.cell (cell_lt hb)).trans hb)
     rw[show inB (r.2.1:Int) a b=false from hF] at e
     exact e
  ·exact n3_kind h _ k hk _
theorem nextL{w:World}{g:Nat}{wh:Bool}{ks:List Tv}(h:Fl w g wh ks)(k:Int)(pa pb:Nat)(a b:Int)(ha:w.cell? ⟨pa,0,none⟩=some (.int .i64 a))(hb:w.cell? ⟨pb,0,none⟩=some (.int .i64 b)):Calls Tryz.prog 126 #[.pointer (some ⟨g,0,none⟩),.int .i64 k,fList pa pb] w (N3 (nxt (FL a b) k wh ks) g w):=by
 cases ks with
 |nil=>exact n3_empty h _ k _
 |cons t ts =>
  by_cases hk:kd t=k
  ·have hok:=h.ok t List.mem_cons_self
   skip
   obtain⟨K,N,r,B,cc,us⟩:=t
   subst hk
   have hpc:Pc w r:=by cases hok with|mk hn hr hs hm hc h0 hk=>exact hr
   cases hF:FL a b (.mk K N r B cc us) with
   |true =>
    rw[nxt,if_pos rfl,if_pos hF]
    exact next_List_yes h pa pb fun u hu=>by
     have e:=cl_List (K:=K) (N:=N) (r:=r) (B:=B) (cc:=cc) (us:=us) pa pb a b u ((hu.cell (cell_lt ha)).trans ha) ((hu.cell (cell_lt hb)).trans hb)
     rw[show inB (us.length:Int) a b=true from hF] at e
     exact e
   |false =>
    rw[nxt,if_pos rfl,if_neg (by rw[hF];decide)]
    exact next_List_no h pa pb fun u hu=>by
     have e:=cl_List (K:=K) (N:=N) (r:=r) (B:=B) (cc:=cc) (us:=us) pa pb a b u ((hu.cell (cell_lt ha)).trans ha) ((hu.cell (cell_lt hb)).trans hb)
     rw[show inB (us.length:Int) a b=false from hF] at e
     exact e
  ·exact n3_kind h _ k hk _
end Go.Proofs.YteblmphohhbgcaaGreat.Wr
namespace Go.Proofs.YteblmphohhbgcaaGreat.Wr
open Go.RowKit Go.Proofs.YteblmphohhbgcaaGreat.Gn Go.Proofs.YteblmphohhbgcaaGreat.Fd Go.Deep
set_option maxRecDepth 100000
theorem grown_trans{w a b:World}{g:Nat}(h:w.grownBy a (some g))(k:a.grownBy b (some g)):w.grownBy b (some g) :=
 ⟨k.os.trans h.os,k.tape.trans h.tape,k.output.trans h.output,Nat.le_trans h.size k.size,fun i hi hn=>(k.block i (Nat.lt_of_lt_of_le hi h.size) hn).trans (h.block i hi hn)⟩
theorem grown_more{w a b:World}{g:Nat}(h:w.grownBy a (some g))(k:Below a.heap.size a b):w.grownBy b (some g):=grown_trans h (only_below k (some g))
theorem nxt_sz{F:Tv→Bool}{k:Int}{wh:Bool}{ks:List Tv}(hz:∀t∈ks,sz t≤1000000):sz (nxt F k wh ks).1≤1000000∧∀t∈(nxt F k wh ks).2.2,sz t≤1000000:=by
 rcases nxt_is F k wh ks with⟨h1,h2⟩|⟨t,ts,rfl,-, -, h⟩
 ·rw[h1,h2];exact⟨by decide,fun t ht=>(List.not_mem_nil ht).elim⟩
 ·rw[h];exact⟨hz t List.mem_cons_self,fun x hx=>hz x (List.mem_cons_of_mem _ hx)⟩
theorem rw_sz(t:Tv):(rw_ t).2.1≤sz t:=by cases t;rw[sz];show _≤1+_+_;simp only[rw_];omega
theorem nxt_I{a b:Int}{wh:Bool}{ks:List Tv}:(nm (nxt (FI a b) 1 wh ks).1:Int)≤9223372036854775807:=by
 rcases nxt_is (FI a b) 1 wh ks with⟨h1,h2⟩|⟨t,ts,rfl,-, h2,h⟩
 ·rw[h1];decide
 ·rw[h];unfold FI at h2;rw[Bool.and_eq_true] at h2;exact of_decide_eq_true h2.1
structure Lf (w:World) (g:Nat) (wh:Bool) (ks:List Tv) (w0:World):Prop where
 fl:Fl w g wh ks
 grown:w0.grownBy w (some g)
set_option maxHeartbeats 4000000 in
theorem Int_any_{w:World}{g:Nat}{wh:Bool}{ks:List Tv}(h:Fl w g wh ks)(hz:∀t∈ks,sz t≤1000000)(a b:Int):Calls Tryz.prog 111 #[.pointer (some ⟨g,0,none⟩),.int .i64 a,.int .i64 b] w fun e w'=>e=.returned (.int .i64 (nm (nxt (FI a b) 1 wh ks).1:Int))∧Lf w' g (nxt (FI a b) 1 wh ks).2.1 (nxt (FI a b) 1 wh ks).2.2 w:=by
 obtain⟨U,hU⟩:∃U,((w.alloc (.cells #[.int .i64 a] 2)).alloc (.cells #[.int .i64 b] 2))=U:=⟨_,rfl⟩
 have BU:=Lib.hid (show Below w.heap.size w U from by rw[←hU];exact((Below.refl _ w).alloc (Nat.le_refl _) _).alloc (by simp) _)
 have FU:=h.below BU.out
 have CA:U.cell? ⟨w.heap.size,0,none⟩=some (.int .i64 a):=Bl.cell_ (show Bl U w.heap.size 2 #[.int .i64 a] from by rw[←hU];exact(Bl.new_ w _ _).alloc _) rfl
 have CB:U.cell? ⟨w.heap.size+1,0,none⟩=some (.int .i64 b):=Bl.cell_ (show Bl U (w.heap.size+1) 2 #[.int .i64 b] from by rw[←hU];exact Bl.new' _ _ (by simp)) rfl
 have CN:=Lib.hid (nextI FU 1 w.heap.size (w.heap.size+1) a b CA CB)
 have HZ:=Lib.hid (nxt_sz (F:=(FI a b)) (k:=1) (wh:=wh) hz)
 have e1:IntKind.i64.wrap (nm (nxt (FI a b) 1 wh ks).1:Int)=(nm (nxt (FI a b) 1 wh ks).1:Int):=_root_.Go.IntWalk.i64_in _ (by have:=nxt_I (a:=a) (b:=b) (wh:=wh) (ks:=ks);omega)
 obtain⟨x,hx⟩:∃x,nxt (FI a b) 1 wh ks=x:=⟨_,rfl⟩
 rw[hx] at CN HZ ⊢
 rw[hx] at e1
 clear hx h FU CA CB hz
 obtain⟨⟨K,N,r,B,cc,us⟩,wh',ks'⟩:=x
 have e2:IntKind.i64.wrap (N:Int)=(N:Int):=e1
 clear e1
 go_enter Tryz.func111,Tryz.ntmps111
 go_wp2_with (first|(go_at_call 126;(refine CN.out.mono ?_);rintro e w1 ⟨rfl,hf,hg,hok⟩;simp only[Tv.val,Tv.row];have X1:=Lib.hid (below_one w1 (.cells #[.int .i64 K,.int .u64 (N:Int),.slice r.1 r.2.1 r.2.2.1,.slice B us.length cc] 75));have O1:=Lib.hid (hok.keep X1.out);have L1:=Lib.hid (Lf.mk (hf.below X1.out) (grown_more (grown_trans (only_below BU.out (some g)) hg) X1.out));clear hf hg hok))
 go_ret
 exact⟨rfl,L1.out⟩
set_option maxHeartbeats 4000000 in
theorem Bytes_any_{w:World}{g:Nat}{wh:Bool}{ks:List Tv}(h:Fl w g wh ks)(hz:∀t∈ks,sz t≤1000000)(a b:Int):Calls Tryz.prog 113 #[.pointer (some ⟨g,0,none⟩),.int .i64 a,.int .i64 b] w fun e w'=>(∃A c,e=.returned (.slice A (rw_ (nxt (FB a b) 2 wh ks).1).2.1 c)∧Pc w' (A,(rw_ (nxt (FB a b) 2 wh ks).1).2.1,c,(rw_ (nxt (FB a b) 2 wh ks).1).2.2.2))∧Lf w' g (nxt (FB a b) 2 wh ks).2.1 (nxt (FB a b) 2 wh ks).2.2 w:=by
 obtain⟨U,hU⟩:∃U,((w.alloc (.cells #[.int .i64 a] 3)).alloc (.cells #[.int .i64 b] 3))=U:=⟨_,rfl⟩
 have BU:=Lib.hid (show Below w.heap.size w U from by rw[←hU];exact((Below.refl _ w).alloc (Nat.le_refl _) _).alloc (by simp) _)
 have FU:=h.below BU.out
 have CA:U.cell? ⟨w.heap.size,0,none⟩=some (.int .i64 a):=Bl.cell_ (show Bl U w.heap.size 3 #[.int .i64 a] from by rw[←hU];exact(Bl.new_ w _ _).alloc _) rfl
 have CB:U.cell? ⟨w.heap.size+1,0,none⟩=some (.int .i64 b):=Bl.cell_ (show Bl U (w.heap.size+1) 3 #[.int .i64 b] from by rw[←hU];exact Bl.new' _ _ (by simp)) rfl
 have CN:=Lib.hid (nextB FU 2 w.heap.size (w.heap.size+1) a b CA CB)
 have HZ:=Lib.hid (nxt_sz (F:=(FB a b)) (k:=2) (wh:=wh) hz)
 obtain⟨x,hx⟩:∃x,nxt (FB a b) 2 wh ks=x:=⟨_,rfl⟩
 rw[hx] at CN HZ ⊢
 clear hx h FU CA CB hz
 obtain⟨⟨K,N,r,B,cc,us⟩,wh',ks'⟩:=x
 go_enter Tryz.func113,Tryz.ntmps113
 go_wp2_with (first|(go_at_call 126;(refine CN.out.mono ?_);rintro e w1 ⟨rfl,hf,hg,hok⟩;simp only[Tv.val,Tv.row];have X1:=Lib.hid (below_one w1 (.cells #[.int .i64 K,.int .u64 (N:Int),.slice r.1 r.2.1 r.2.2.1,.slice B us.length cc] 75));have O1:=Lib.hid (hok.keep X1.out);have L1:=Lib.hid (Lf.mk (hf.below X1.out) (grown_more (grown_trans (only_below BU.out (some g)) hg) X1.out));clear hf hg hok)|(go_at_call 121;(refine(Clone_pc (r:=r) (by have h:=O1.out;cases h with|mk hn hr hs hm hc h0 hk=>exact hr) (by have h:=HZ.out.1;have h2:=rw_sz (.mk K N r B cc us);exact Nat.le_trans h2 h)).mono ?_);rintro e w2 ⟨A2,c2,rfl,hp,-, hb⟩;have P2:=Lib.hid hp;have L2:=Lib.hid (Lf.mk (L1.out.fl.below hb) (grown_more L1.out.grown hb));clear hp hb))
 go_ret
 exact⟨⟨_,_,rfl,P2.out⟩,L2.out⟩
set_option maxHeartbeats 4000000 in
theorem List_any_{w:World}{g:Nat}{wh:Bool}{ks:List Tv}(h:Fl w g wh ks)(hz:∀t∈ks,sz t≤1000000)(a b:Int):Calls Tryz.prog 122 #[.pointer (some ⟨g,0,none⟩),.int .i64 a,.int .i64 b] w fun e w'=>(∃us A c,e=.returned (.slice A us.length c)∧nds us=nds (kids (nxt (FL a b) 3 wh ks).1)∧Sl w' A (4*us.length) (flat us)∧(A=none→c=0)∧us.length≤c∧(∀t∈us,Ok w' t))∧Lf w' g (nxt (FL a b) 3 wh ks).2.1 (nxt (FL a b) 3 wh ks).2.2 w:=by
 obtain⟨U,hU⟩:∃U,((w.alloc (.cells #[.int .i64 a] 3)).alloc (.cells #[.int .i64 b] 3))=U:=⟨_,rfl⟩
 have BU:=Lib.hid (show Below w.heap.size w U from by rw[←hU];exact((Below.refl _ w).alloc (Nat.le_refl _) _).alloc (by simp) _)
 have FU:=h.below BU.out
 have CA:U.cell? ⟨w.heap.size,0,none⟩=some (.int .i64 a):=Bl.cell_ (show Bl U w.heap.size 3 #[.int .i64 a] from by rw[←hU];exact(Bl.new_ w _ _).alloc _) rfl
 have CB:U.cell? ⟨w.heap.size+1,0,none⟩=some (.int .i64 b):=Bl.cell_ (show Bl U (w.heap.size+1) 3 #[.int .i64 b] from by rw[←hU];exact Bl.new' _ _ (by simp)) rfl
 have CN:=Lib.hid (nextL FU 3 w.heap.size (w.heap.size+1) a b CA CB)
 have HZ:=Lib.hid (nxt_sz (F:=(FL a b)) (k:=3) (wh:=wh) hz)
 obtain⟨x,hx⟩:∃x,nxt (FL a b) 3 wh ks=x:=⟨_,rfl⟩
 rw[hx] at CN HZ ⊢
 clear hx h FU CA CB hz
 obtain⟨⟨K,N,r,B,cc,us⟩,wh',ks'⟩:=x
 go_enter Tryz.func122,Tryz.ntmps122
 go_wp2_with (first|(go_at_call 126;(refine CN.out.mono ?_);rintro e w1 ⟨rfl,hf,hg,hok⟩;simp only[Tv.val,Tv.row];have X1:=Lib.hid (below_one w1 (.cells #[.int .i64 K,.int .u64 (N:Int),.slice r.1 r.2.1 r.2.2.1,.slice B us.length cc] 75));have O1:=Lib.hid (hok.keep X1.out);have L1:=Lib.hid (Lf.mk (hf.below X1.out) (grown_more (grown_trans (only_below BU.out (some g)) hg) X1.out));clear hf hg hok)|(go_at_call 97;(refine(copies_any O1.out K N r B cc us rfl HZ.out.1 _ (Below.refl _ _)).mono ?_);rintro e w2 ⟨us2,A2,c2,rfl,h1,h2,h3,h4,h5,h6,h7,h8,hb⟩;have P2:=Lib.hid (And.intro h1 (And.intro h3 (And.intro h4 (And.intro h5 h6))));have L2:=Lib.hid (Lf.mk (L1.out.fl.below hb) (grown_more L1.out.grown hb));clear h1 h2 h3 h4 h5 h6 h7 h8 hb))
 go_ret
 exact⟨⟨_,_,_,rfl,P2.out⟩,L2.out⟩
set_option maxHeartbeats 4000000 in
theorem Done_any_{w:World}{g:Nat}{wh:Bool}{ks:List Tv}(h:Fl w g wh ks):Calls Tryz.prog 92 #[.pointer (some ⟨g,0,none⟩)] w fun e w'=>e=.returned (.bool (wh && decide (ks.length=0)))∧w=w':=by
 obtain⟨A,c,h1,-⟩:=h.row
 obtain⟨m,hm⟩:∃m,ks.length=m:=⟨_,rfl⟩
 rw[hm] at h1 ⊢
 have r0:w.cell? ⟨g,0,none⟩=some (.bool wh):=h1.cell_ rfl
 have r1:w.cell? ⟨g,1,none⟩=some (.slice A m c):=h1.cell_ rfl
 clear h1 h hm
 cases wh with
 |false =>
  rw[Bool.false_and]
  go_enter Tryz.func92,Tryz.ntmps92
  go_wp2_with fail
  go_ret
  exact⟨rfl,rfl⟩
 |true =>
  rw[Bool.true_and]
  by_cases hm0:m=0
  ·subst hm0
   go_enter Tryz.func92,Tryz.ntmps92
   go_wp2_with fail
   go_ret
   exact⟨rfl,rfl⟩
  ·have e1:¬(m:Int)=0:=by omega
   have e2:decide (m=0)=false:=decide_eq_false hm0
   have e3:((m:Int) == 0)=false:=by simp;omega
   rw[e2]
   clear e2 hm0
   go_enter Tryz.func92,Tryz.ntmps92
   go_wp2_with fail
   go_ret
   exact⟨rfl,rfl⟩
end Go.Proofs.YteblmphohhbgcaaGreat.Wr
