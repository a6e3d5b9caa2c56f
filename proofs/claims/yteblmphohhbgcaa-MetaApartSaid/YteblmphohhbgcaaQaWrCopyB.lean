/- Joined texts. -/
import Derived.Deep.LoopGhost
import Derived.Test.YteblmphohhbgcaaQaWrCopy
import Derived.Test.YteblmphohhbgcaaQaWrTreadB
set_option linter.unusedVariables false
namespace Go.Proofs.Yteblmphohhbgcaa.Wr
open Go.RowKit Go.Proofs.Yteblmphohhbgcaa.Gn Go.Proofs.Yteblmphohhbgcaa.Fd Go.Deep
def CpQ(ks:List Tv)(u:World)(e:Ending)(w':World):Prop :=
 ∃us A' c',e=.returned (.slice A' us.length c')∧nds us=nds ks∧us.length=ks.length∧Sl w' A' (4*us.length) (flat us)∧(A'=none→c'=0)∧us.length≤c'∧(∀t∈us,Ok w' t)∧liess (fun k=>u.heap.size≤k) us∧(∀ad,A'=some ad→u.heap.size≤ad.block)∧Below u.heap.size u w'
theorem nds_len(ks:List Tv):(nds ks).length=ks.length:=by rw[nds_map,List.length_map]
theorem row_of{w:World}{base:Nat}{v:Value}{n:Nat}{ks:List Tv}(h:w.ownsRow base 80 4 v n (flat ks))(hn:ks.length=n) :
  (v=.slice none 0 0∧ks=[])∨∃B cap sp,v=.slice (some ⟨B,0,none⟩) n cap∧base≤B∧n≤cap∧Bl w B 80 (flat ks ++ sp).toArray:=by
 obtain⟨hl,h2⟩:=h
 rcases h2 with⟨rfl,rfl⟩|⟨g,cap,cur,rfl,hb,hh,hn',hm,hc,hx⟩
 ·exact .inl ⟨rfl,List.length_eq_zero_iff.1 hn⟩
 ·refine .inr ⟨g,cap,cur.toList.drop (n*4),rfl,hb,hn',?_⟩
  have e:(flat ks ++ cur.toList.drop (n*4)).toArray=cur:=by rw[←hx,List.take_append_drop]
  rw[e];exact hh
set_option maxHeartbeats 4000000 in
set_option maxRecDepth 100000 in
theorem copies_nil(w:World):Calls Try.prog 61 #[.slice none 0 0] w (CpQ [] w):=by
 have CX:=Lib.hid (nClone_nil2 w)
 go_enter Try.func61,Try.ntmps61
 go_wp2_with (go_at_call 81;(refine CX.out.mono ?_);rintro e w1 ⟨rfl,rfl⟩)
 go_loopg [10] 0 (fun g1 vi wr=>vi=.int .i64 0∧wr=w)
 case atStart=>exact⟨rfl,rfl⟩
 case round =>
  obtain⟨rfl,rfl⟩:=hrel
  go_wp2_with fail
  go_ret
  exact⟨[],none,0,rfl,rfl,rfl,Sl.nil_ _ _,fun _=>rfl,Nat.le_refl _,(fun t ht=>(List.not_mem_nil ht).elim),by rw[liess];trivial,(fun ad e=>by cases e),Below.refl _ _⟩
set_option maxHeartbeats 4000000 in
set_option maxRecDepth 100000 in
theorem copies_own{w0:World}{ks:List Tv}{A:Option Addr}{c:Nat}(hs:Sl w0 A (4*ks.length) (flat ks))(hc:ks.length≤c)(h0:A=none→c=0)(hk:∀t∈ks,Ok w0 t)(hz:szs ks≤1000000)
  (ih:∀(K:Int) (N:Nat) (r:Rw) (B:Option Addr) (cc:Nat) (us:List Tv),.mk K N r B cc us∈ks→∀u',Below w0.heap.size w0 u'→Calls Try.prog 61 #[.slice B us.length cc] u' (CpQ us u')) (u:World) (hbu:Below w0.heap.size w0 u) (hnx:ks≠[]) :
  Calls Try.prog 61 #[.slice A ks.length c] u (CpQ ks u):=by
 obtain⟨m,hm⟩:∃m,ks.length=m:=⟨_,rfl⟩
 have hm9:m≤1000000:=by have:=szs_len ks;omega
 have CX:=Lib.hid (nClone_any (w:=u) (hs.below hbu) (by omega) hc h0)
 have HM:=Lib.hid hm
 have IH:=Lib.hid ih
 have HS:=Lib.hid hs
 have HK:=Lib.hid hk
 have HZ:=Lib.hid hz
 have HU:=Lib.hid hbu
 rw[hm] at CX ⊢
 clear ih hs hm hk hz hbu hc h0
 go_enter Try.func61,Try.ntmps61
 go_upto_region 2 with(go_at_call 81;(refine CX.out.mono ?_);rintro e w1 ⟨v,rfl,hv,hb⟩;rw[HM.out] at hv;have V1:=Lib.hid hv;have B1:=Lib.hid hb;clear hv hb)
 have hrow:=row_of (V1.out) HM.out
 rcases hrow with⟨rfl,hks⟩|⟨Bc,cap,sp,rfl,hB,hmc,hR⟩
 ·exact(hnx hks).elim
 have R1:=Lib.hid hR
 have L1:=Lib.hid hB
 clear hR hB CX V1
 go_wp2_with fail
 go_loopg [10] m (fun g1 vi wr=>∃(j:Nat) (ds:List Tv),vi=.int .i64 (j:Int)∧j≤m∧m - j≤g1∧Hid (ds.length=j)∧Hid (nds ds=nds (ks.take j))∧Hid (Bl wr Bc 80 (flat (ds ++ ks.drop j) ++ sp).toArray)∧Hid (∀t∈ds,Ok wr t)∧Hid (liess (fun k=>u.heap.size≤k∧k≠Bc) ds)∧Hid (Below u.heap.size u wr))
 case atStart=>exact⟨0,[],rfl,Nat.zero_le _,Nat.le_refl _,Lib.hid rfl,Lib.hid rfl,R1,Lib.hid (fun t ht=>(List.not_mem_nil ht).elim),Lib.hid (by rw[liess];trivial),B1⟩
 case round =>
  obtain⟨j,ds,rfl,hj,hg,HD,ND,RJ,OJ,LJ,BJ⟩:=hrel
  by_cases hlt:j < m
  ·obtain⟨t,ht⟩:∃t,ks[j]?=some t:=⟨_,List.getElem?_eq_getElem (by have:=HM.out;omega)⟩
   have q0:(j:Int) < (m:Int):=by omega
   have hat:(ds ++ ks.drop j)[j]?=some t:=by rw[List.getElem?_append_right (by have:=HD.out;omega),HD.out,Nat.sub_self,List.getElem?_drop,Nat.add_zero];exact ht
   have KT:=Lib.hid (HK.out t (List.mem_of_getElem? ht))
   have ZT:=Lib.hid (show sz t≤szs ks from sz_mem (List.mem_of_getElem? ht))
   obtain⟨K,N,r,B,cc,us⟩:=t
   have IT:=Lib.hid (IH.out K N r B cc us (List.mem_of_getElem? ht))
   have cl:∀i v,(Tv.mk K N r B cc us).row[i]?=some v→wr.cell? ⟨Bc,j*4+i,none⟩=some v:=fun i v hv=>RJ.out.cell_ (by rw[List.getElem?_toArray,List.getElem?_append_left (by rw[flat_len];have h1:=(List.getElem?_eq_some_iff.1 hv).1;rw[row_len] at h1;have h2:=(List.getElem?_eq_some_iff.1 hat).1;omega),Nat.mul_comm];exact flat_get _ j i _ _ hat hv)
   have c0:wr.cell? ⟨Bc,j*4,none⟩=some (.int .i64 K):=cl 0 _ rfl
   have c1:wr.cell? ⟨Bc,j*4+1,none⟩=some (.int .u64 N):=cl 1 _ rfl
   have c2:wr.cell? ⟨Bc,j*4+2,none⟩=some (.slice r.1 r.2.1 r.2.2.1):=cl 2 _ rfl
   have c3:wr.cell? ⟨Bc,j*4+3,none⟩=some (.slice B us.length cc):=cl 3 _ rfl
   clear cl
   have A5:=Lib.hid (below_one wr (.cells #[.int .i64 K,.int .u64 (N:Int),.slice r.1 r.2.1 r.2.2.1,.slice B us.length cc] 80))
   have N5:=Lib.hid (Bl.new_ wr 80 #[.int .i64 K,.int .u64 (N:Int),.slice r.1 r.2.1 r.2.2.1,.slice B us.length cc])
   go_upto_region 5 with fail
   obtain⟨wa,hwa⟩:∃wa,wr.alloc (.cells #[.int .i64 K,.int .u64 (N:Int),.slice r.1 r.2.1 r.2.2.1,.slice B us.length cc] 80)=wa:=⟨_,rfl⟩
   rw[hwa] at A5 N5 ⊢
   clear hwa
   have lu:u.heap.size≤wr.heap.size:=BJ.out.size
   have BU:=Lib.hid (show Below u.heap.size u wa from BJ.out.trans (A5.out.mono lu))
   have BW:=Lib.hid (show Below w0.heap.size w0 wa from HU.out.trans (BU.out.mono HU.out.size))
   have lB:Bc < wr.heap.size:=RJ.out.lt
   have RA:=Lib.hid (RJ.out.below' A5.out)
   have hr9:r.2.1≤1000000:=by have h1:=ZT.out;rw[sz] at h1;have h2:=HZ.out;omega
   have hrp:Pc w0 r:=by cases KT.out;assumption
   have CC:=Lib.hid (fun x (hx:Below wa.heap.size wa x)=>Clone_pc ((hrp.below BW.out).below hx) hr9)
   have CK:=Lib.hid (fun x (hx:Below wa.heap.size wa x)=>IT.out x (BW.out.trans (hx.mono BW.out.size)))
   have s2:wa.cell? ⟨wr.heap.size,2,none⟩=some (.slice r.1 r.2.1 r.2.2.1):=N5.out.cell_ rfl
   have s3:wa.cell? ⟨wr.heap.size,3,none⟩=some (.slice B us.length cc):=N5.out.cell_ rfl
   have D1:=Lib.hid (show Below wa.heap.size wa wa.drew from below_drewN (Below.refl _ wa) 1)
   have HAT:=Lib.hid hat
   have HT:=Lib.hid ht
   clear c0 c1 c2 c3 hat hrp ht
   refine wp_region_held_drew (S:=fun w'=>w'.cell? ⟨wr.heap.size,2,none⟩=some (.slice r.1 r.2.1 r.2.2.1)∧w'.cell? ⟨wr.heap.size,3,none⟩=some (.slice B us.length cc)) (by kernel_rfl) (by exact⟨s2,s3⟩) (fun _=>?_)
   refine take_l 0 (v:=?_) rfl (by kernel_rfl) (by kernel_rfl) (by kernel_rfl) (fun _ _ _ h=>h) (Or.inl ⟨by rfl,?_⟩) (by show World.cell? _ _=_∧World.cell? _ _=_;first|exact⟨s2,s3⟩|exact⟨t2,t3⟩|exact⟨u2,u3⟩|exact⟨v2,v3⟩|exact⟨x2,x3⟩) ?_;rotate_left
   ·intro w' hSw
    have hS2:w'.cell? ⟨wr.heap.size,2,none⟩=some (.slice r.1 r.2.1 r.2.2.1):=hSw.1
    have hS3:w'.cell? ⟨wr.heap.size,3,none⟩=some (.slice B us.length cc):=hSw.2
    clear hSw
    go_simp
    all_goals with_reducible rfl
   try simp only[Act.put,List.setIfInBounds_toArray,List.set_cons_zero,List.set_cons_succ]
   refine take_l 1 (v:=?_) rfl (by kernel_rfl) (by kernel_rfl) (by kernel_rfl) (fun _ _ _ h=>h) (Or.inl ⟨by rfl,?_⟩) (by show World.cell? _ _=_∧World.cell? _ _=_;first|exact⟨s2,s3⟩|exact⟨t2,t3⟩|exact⟨u2,u3⟩|exact⟨v2,v3⟩|exact⟨x2,x3⟩) ?_;rotate_left
   ·intro w' hSw
    have hS2:w'.cell? ⟨wr.heap.size,2,none⟩=some (.slice r.1 r.2.1 r.2.2.1):=hSw.1
    have hS3:w'.cell? ⟨wr.heap.size,3,none⟩=some (.slice B us.length cc):=hSw.2
    clear hSw
    go_simp
    all_goals with_reducible rfl
   try simp only[Act.put,List.setIfInBounds_toArray,List.set_cons_zero,List.set_cons_succ]
   refine take_l 2 (v:=?_) rfl (by kernel_rfl) (by kernel_rfl) (by kernel_rfl) (fun _ _ _ h=>h) (Or.inl ⟨by rfl,?_⟩) (by show World.cell? _ _=_∧World.cell? _ _=_;first|exact⟨s2,s3⟩|exact⟨t2,t3⟩|exact⟨u2,u3⟩|exact⟨v2,v3⟩|exact⟨x2,x3⟩) ?_;rotate_left
   ·intro w' hSw
    have hS2:w'.cell? ⟨wr.heap.size,2,none⟩=some (.slice r.1 r.2.1 r.2.2.1):=hSw.1
    have hS3:w'.cell? ⟨wr.heap.size,3,none⟩=some (.slice B us.length cc):=hSw.2
    clear hSw
    go_simp
    all_goals with_reducible rfl
   try simp only[Act.put,List.setIfInBounds_toArray,List.set_cons_zero,List.set_cons_succ]
   refine take_l 3 (v:=?_) rfl (by kernel_rfl) (by kernel_rfl) (by kernel_rfl) (fun _ _ _ h=>h) (Or.inl ⟨by rfl,?_⟩) (by show World.cell? _ _=_∧World.cell? _ _=_;first|exact⟨s2,s3⟩|exact⟨t2,t3⟩|exact⟨u2,u3⟩|exact⟨v2,v3⟩|exact⟨x2,x3⟩) ?_;rotate_left
   ·intro w' hSw
    have hS2:w'.cell? ⟨wr.heap.size,2,none⟩=some (.slice r.1 r.2.1 r.2.2.1):=hSw.1
    have hS3:w'.cell? ⟨wr.heap.size,3,none⟩=some (.slice B us.length cc):=hSw.2
    clear hSw
    go_simp
    all_goals with_reducible rfl
   try simp only[Act.put,List.setIfInBounds_toArray,List.set_cons_zero,List.set_cons_succ]
   refine take_l 4 (v:=?_) rfl (by kernel_rfl) (by kernel_rfl) (by kernel_rfl) (fun _ _ _ h=>h) (Or.inl ⟨by rfl,?_⟩) (by show World.cell? _ _=_∧World.cell? _ _=_;first|exact⟨s2,s3⟩|exact⟨t2,t3⟩|exact⟨u2,u3⟩|exact⟨v2,v3⟩|exact⟨x2,x3⟩) ?_;rotate_left
   ·intro w' hSw
    have hS2:w'.cell? ⟨wr.heap.size,2,none⟩=some (.slice r.1 r.2.1 r.2.2.1):=hSw.1
    have hS3:w'.cell? ⟨wr.heap.size,3,none⟩=some (.slice B us.length cc):=hSw.2
    clear hSw
    go_simp
    all_goals with_reducible rfl
   try simp only[Act.put,List.setIfInBounds_toArray,List.set_cons_zero,List.set_cons_succ]
   refine take_l 5 (v:=?_) rfl (by kernel_rfl) (by kernel_rfl) (by kernel_rfl) (fun _ _ _ h=>h) (Or.inl ⟨by rfl,?_⟩) (by show World.cell? _ _=_∧World.cell? _ _=_;first|exact⟨s2,s3⟩|exact⟨t2,t3⟩|exact⟨u2,u3⟩|exact⟨v2,v3⟩|exact⟨x2,x3⟩) ?_;rotate_left
   ·intro w' hSw
    have hS2:w'.cell? ⟨wr.heap.size,2,none⟩=some (.slice r.1 r.2.1 r.2.2.1):=hSw.1
    have hS3:w'.cell? ⟨wr.heap.size,3,none⟩=some (.slice B us.length cc):=hSw.2
    clear hSw
    go_simp
    all_goals with_reducible rfl
   try simp only[Act.put,List.setIfInBounds_toArray,List.set_cons_zero,List.set_cons_succ]
   refine take_l 7 (v:=?_) rfl (by kernel_rfl) (by kernel_rfl) (by kernel_rfl) (fun _ _ _ h=>h) (Or.inl ⟨by rfl,?_⟩) (by show World.cell? _ _=_∧World.cell? _ _=_;first|exact⟨s2,s3⟩|exact⟨t2,t3⟩|exact⟨u2,u3⟩|exact⟨v2,v3⟩|exact⟨x2,x3⟩) ?_;rotate_left
   ·intro w' hSw
    have hS2:w'.cell? ⟨wr.heap.size,2,none⟩=some (.slice r.1 r.2.1 r.2.2.1):=hSw.1
    have hS3:w'.cell? ⟨wr.heap.size,3,none⟩=some (.slice B us.length cc):=hSw.2
    clear hSw
    go_simp
    all_goals with_reducible rfl
   try simp only[Act.put,List.setIfInBounds_toArray,List.set_cons_zero,List.set_cons_succ]
   refine take_l 8 (v:=?_) rfl (by kernel_rfl) (by kernel_rfl) (by kernel_rfl) (fun _ _ _ h=>h) (Or.inl ⟨by rfl,?_⟩) (by show World.cell? _ _=_∧World.cell? _ _=_;first|exact⟨s2,s3⟩|exact⟨t2,t3⟩|exact⟨u2,u3⟩|exact⟨v2,v3⟩|exact⟨x2,x3⟩) ?_;rotate_left
   ·intro w' hSw
    have hS2:w'.cell? ⟨wr.heap.size,2,none⟩=some (.slice r.1 r.2.1 r.2.2.1):=hSw.1
    have hS3:w'.cell? ⟨wr.heap.size,3,none⟩=some (.slice B us.length cc):=hSw.2
    clear hSw
    go_simp
    all_goals with_reducible rfl
   try simp only[Act.put,List.setIfInBounds_toArray,List.set_cons_zero,List.set_cons_succ]
   refine wpAnyH_ready (rs:=[6]) (by kernel_rfl) (by simp) ?_
   refine cons_l rfl (fun K0 hK=>?_) AllReadyH.nil
   go_simp
   (go_at_call 62;(refine(CC.out _ D1.out).mono ?_);rintro e w2 ⟨A2,c2,rfl,hp2,hq2,hb2⟩)
   have B2:=Lib.hid (show Below wa.heap.size wa w2 from D1.out.trans (hb2.mono D1.out.size))
   have P2:=Lib.hid hp2
   have Q2:=Lib.hid hq2
   have N2:=Lib.hid (N5.out.below' B2.out)
   have t2:w2.cell? ⟨wr.heap.size,2,none⟩=some (.slice r.1 r.2.1 r.2.2.1):=N2.out.cell_ rfl
   have t3:w2.cell? ⟨wr.heap.size,3,none⟩=some (.slice B us.length cc):=N2.out.cell_ rfl
   clear hp2 hq2 hb2
   refine hK.out _ _ (by show World.cell? _ _=_∧World.cell? _ _=_;first|exact⟨s2,s3⟩|exact⟨t2,t3⟩|exact⟨u2,u3⟩|exact⟨v2,v3⟩|exact⟨x2,x3⟩) (fun _=>?_)
   clear hK K0
   try simp only[Act.put,List.setIfInBounds_toArray,List.set_cons_zero,List.set_cons_succ]
   refine wpAnyH_ready (rs:=[9]) (by kernel_rfl) (by simp) ?_
   refine cons_l rfl (fun K0 hK=>?_) AllReadyH.nil
   go_simp
   (go_at_call 61;(refine(CK.out _ B2.out).mono ?_);rintro e w3 ⟨vs,A3,c3,rfl,h1,h2,h3,h4,h5,h6,h7,h8,h9⟩)
   have Y1:=Lib.hid h1
   have Y2:=Lib.hid h2
   have Y3:=Lib.hid h3
   have Y4:=Lib.hid h4
   have Y5:=Lib.hid h5
   have Y6:=Lib.hid h6
   have Y7:=Lib.hid h7
   have Y8:=Lib.hid h8
   have Y9:=Lib.hid h9
   have N3:=Lib.hid (N2.out.below' h9)
   have u2:w3.cell? ⟨wr.heap.size,2,none⟩=some (.slice r.1 r.2.1 r.2.2.1):=N3.out.cell_ rfl
   have u3:w3.cell? ⟨wr.heap.size,3,none⟩=some (.slice B us.length cc):=N3.out.cell_ rfl
   have B3:=Lib.hid (show Below wa.heap.size wa w3 from B2.out.trans (h9.mono B2.out.size))
   have R3:=Lib.hid (RA.out.below' B3.out)
   have hcl:∀i v,(Tv.mk K N r B cc us).row[i]?=some v→(flat (ds ++ ks.drop j) ++ sp).toArray[j*4+i]?=some v:=fun i v hv=>by rw[List.getElem?_toArray,List.getElem?_append_left (by rw[flat_len];have h1:=(List.getElem?_eq_some_iff.1 hv).1;rw[row_len] at h1;have h2:=(List.getElem?_eq_some_iff.1 HAT.out).1;omega),Nat.mul_comm];exact flat_get _ j i _ _ HAT.out hv
   have d2:w3.cell? ⟨Bc,j*4+2,none⟩=some (.slice r.1 r.2.1 r.2.2.1):=R3.out.cell_ (hcl 2 _ rfl)
   have d3:w3.cell? ⟨Bc,j*4+3,none⟩=some (.slice B us.length cc):=R3.out.cell_ (hcl 3 _ rfl)
   have fd2:=R3.out.frozen (j*4+2)
   have fd3:=R3.out.frozen (j*4+3)
   have v2:(w3.setCell ⟨Bc,j*4+2,none⟩ (.slice A2 r.2.1 c2)).cell? ⟨wr.heap.size,2,none⟩=some (.slice r.1 r.2.1 r.2.2.1):=(N3.out.other (p:=⟨Bc,j*4+2,none⟩) (by show wr.heap.size≠Bc;omega) _).cell_ rfl
   have v3:(w3.setCell ⟨Bc,j*4+2,none⟩ (.slice A2 r.2.1 c2)).cell? ⟨wr.heap.size,3,none⟩=some (.slice B us.length cc):=(N3.out.other (p:=⟨Bc,j*4+2,none⟩) (by show wr.heap.size≠Bc;omega) _).cell_ rfl
   have x2:((w3.setCell ⟨Bc,j*4+2,none⟩ (.slice A2 r.2.1 c2)).setCell ⟨Bc,j*4+3,none⟩ (.slice A3 vs.length c3)).cell? ⟨wr.heap.size,2,none⟩=some (.slice r.1 r.2.1 r.2.2.1):=((N3.out.other (p:=⟨Bc,j*4+2,none⟩) (by show wr.heap.size≠Bc;omega) _).other (p:=⟨Bc,j*4+3,none⟩) (by show wr.heap.size≠Bc;omega) _).cell_ rfl
   have x3:((w3.setCell ⟨Bc,j*4+2,none⟩ (.slice A2 r.2.1 c2)).setCell ⟨Bc,j*4+3,none⟩ (.slice A3 vs.length c3)).cell? ⟨wr.heap.size,3,none⟩=some (.slice B us.length cc):=((N3.out.other (p:=⟨Bc,j*4+2,none⟩) (by show wr.heap.size≠Bc;omega) _).other (p:=⟨Bc,j*4+3,none⟩) (by show wr.heap.size≠Bc;omega) _).cell_ rfl
   clear hcl h1 h2 h3 h4 h5 h6 h7 h8 h9
   refine hK.out _ _ (by show World.cell? _ _=_∧World.cell? _ _=_;first|exact⟨s2,s3⟩|exact⟨t2,t3⟩|exact⟨u2,u3⟩|exact⟨v2,v3⟩|exact⟨x2,x3⟩) (fun _=>?_)
   clear hK K0
   try simp only[Act.put,List.setIfInBounds_toArray,List.set_cons_zero,List.set_cons_succ]
   refine wpAnyH_ready (rs:=[10]) (by kernel_rfl) (by simp) ?_
   refine cons_l rfl (fun K0 hK=>?_) AllReadyH.nil
   go_simp
   refine hK.out _ _ (by show World.cell? _ _=_∧World.cell? _ _=_;first|exact⟨s2,s3⟩|exact⟨t2,t3⟩|exact⟨u2,u3⟩|exact⟨v2,v3⟩|exact⟨x2,x3⟩) (fun _=>?_)
   clear hK K0
   try simp only[Act.put,List.setIfInBounds_toArray,List.set_cons_zero,List.set_cons_succ]
   refine wpAnyH_ready (rs:=[11]) (by kernel_rfl) (by simp) ?_
   refine cons_l rfl (fun K0 hK=>?_) AllReadyH.nil
   go_simp
   refine hK.out _ _ (by show World.cell? _ _=_∧World.cell? _ _=_;first|exact⟨s2,s3⟩|exact⟨t2,t3⟩|exact⟨u2,u3⟩|exact⟨v2,v3⟩|exact⟨x2,x3⟩) (fun _=>?_)
   clear hK K0
   try simp only[Act.put,List.setIfInBounds_toArray,List.set_cons_zero,List.set_cons_succ]
   refine wpAnyH_ready (rs:=[12]) (by kernel_rfl) (by simp) ?_
   refine cons_l rfl (fun K0 hK=>?_) AllReadyH.nil
   go_simp
   refine hK.out _ _ (by show World.cell? _ _=_∧World.cell? _ _=_;first|exact⟨s2,s3⟩|exact⟨t2,t3⟩|exact⟨u2,u3⟩|exact⟨v2,v3⟩|exact⟨x2,x3⟩) (fun _=>?_)
   clear hK K0
   try simp only[Act.put,List.setIfInBounds_toArray,List.set_cons_zero,List.set_cons_succ]
   refine wpAnyH_ready (rs:=[13]) (by kernel_rfl) (by simp) ?_
   refine cons_l rfl (fun K0 hK=>?_) AllReadyH.nil
   go_simp
   refine hK.out _ _ (by show World.cell? _ _=_∧World.cell? _ _=_;first|exact⟨s2,s3⟩|exact⟨t2,t3⟩|exact⟨u2,u3⟩|exact⟨v2,v3⟩|exact⟨x2,x3⟩) (fun _=>?_)
   clear hK K0
   try simp only[Act.put,List.setIfInBounds_toArray,List.set_cons_zero,List.set_cons_succ]
   refine wpAnyH_ready (rs:=[14]) (by kernel_rfl) (by simp) ?_
   refine cons_l rfl (fun K0 hK=>?_) AllReadyH.nil
   go_simp
   refine hK.out _ _ (by show World.cell? _ _=_∧World.cell? _ _=_;first|exact⟨s2,s3⟩|exact⟨t2,t3⟩|exact⟨u2,u3⟩|exact⟨v2,v3⟩|exact⟨x2,x3⟩) (fun _=>?_)
   clear hK K0
   try simp only[Act.put,List.setIfInBounds_toArray,List.set_cons_zero,List.set_cons_succ]
   refine wpAnyH_ready (rs:=[15]) (by kernel_rfl) (by simp) ?_
   refine cons_l rfl (fun K0 hK=>?_) AllReadyH.nil
   go_simp
   refine hK.out _ _ (by show World.cell? _ _=_∧World.cell? _ _=_;first|exact⟨s2,s3⟩|exact⟨t2,t3⟩|exact⟨u2,u3⟩|exact⟨v2,v3⟩|exact⟨x2,x3⟩) (fun _=>?_)
   clear hK K0
   try simp only[Act.put,List.setIfInBounds_toArray,List.set_cons_zero,List.set_cons_succ]
   refine wpAnyH_done (by kernel_rfl) ?_ _
   go_wp2_with fail
   go_roundg (m - (j+1))
   case measure=>omega
   case rel =>
    have l1:=A5.out.size
    have l2:=B2.out.size
    have l3:=B3.out.size
    have hN:N < 18446744073709551616:=by cases KT.out;assumption
    have hU9:us.length≤1000000:=by cases KT.out;assumption
    have hY2:=Y2.out
    have OT3:Ok w3 (.mk K N (A2,r.2.1,c2,r.2.2.2) A3 c3 vs):=.mk hN (P2.out.below Y9.out) Y3.out (by omega) Y5.out Y4.out Y6.out
    have LT3:lies (fun k=>u.heap.size≤k∧k≠Bc) (.mk K N (A2,r.2.1,c2,r.2.2.2) A3 c3 vs):=by
     rw[lies]
     refine⟨fun ad e _=>?_,fun ad e _=>?_,liess.mono (fun k hk=>⟨by omega,by omega⟩) Y7.out⟩
     ·have h:=Q2.out ad e
      have h2:wa.heap.size≤ad.block:=h
      exact⟨by omega,by omega⟩
     ·have h:=Y8.out ad e;exact⟨by omega,by omega⟩
    have keep:∀k,(u.heap.size≤k∧k≠Bc)→k < w3.heap.size→((w3.setCell ⟨Bc,j*4+2,none⟩ (.slice A2 r.2.1 c2)).setCell ⟨Bc,j*4+3,none⟩ (.slice A3 vs.length c3)).heap[k]?=w3.heap[k]?:=fun k hk _=>(Below.heap_setCell _ ⟨Bc,j*4+3,none⟩ _ k hk.2).trans (Below.heap_setCell _ ⟨Bc,j*4+2,none⟩ _ k hk.2)
    have LL:liess (fun k=>u.heap.size≤k∧k≠Bc) (ds ++ [.mk K N (A2,r.2.1,c2,r.2.2.2) A3 c3 vs]):=by
     rw[liess_mem]
     intro t ht
     rcases List.mem_append.1 ht with ht|ht
     ·exact liess_mem.1 LJ.out t ht
     ·rw[List.mem_singleton.1 ht];exact LT3
    refine⟨j+1,ds ++ [.mk K N (A2,r.2.1,c2,r.2.2.2) A3 c3 vs],by go_num,by omega,Nat.le_refl _,Lib.hid (by rw[List.length_append,HD.out];rfl),Lib.hid ?_,Lib.hid ?_,Lib.hid ?_,Lib.hid LL,Lib.hid ?_⟩
    ·have e:=ND.out
     rw[nds_map,nds_map] at e
     rw[nds_map,nds_map,List.take_add_one,HT.out,List.map_append,List.map_append,e]
     show List.map nd (ks.take j) ++ [nd (.mk K N (A2,r.2.1,c2,r.2.2.2) A3 c3 vs)]=List.map nd (ks.take j) ++ [nd (.mk K N r B cc us)]
     rw[nd,nd,Y1.out]
    ·have h:=(R3.out.set_ (j*4+2) (.slice A2 r.2.1 c2)).set_ (j*4+3) (.slice A3 vs.length c3)
     have e1:(ds ++ ks.drop j).set j (.mk K N (A2,r.2.1,c2,r.2.2.2) A3 c3 vs)=ds ++ [.mk K N (A2,r.2.1,c2,r.2.2.2) A3 c3 vs] ++ ks.drop (j+1):=by
      rw[List.set_append_right _ _ (by have:=HD.out;omega),HD.out,Nat.sub_self,List.drop_eq_getElem_cons (by have:=HM.out;omega),List.set_cons_zero,List.append_assoc];rfl
     have fl:4*j+3 < (flat (ds ++ ks.drop j)).length:=by rw[flat_len];have h2:=(List.getElem?_eq_some_iff.1 HAT.out).1;omega
     have e2:=flat_set HAT.out (t':=.mk K N (A2,r.2.1,c2,r.2.2.2) A3 c3 vs) (v2:=.slice A2 r.2.1 c2) (v3:=.slice A3 vs.length c3) rfl
     rw[e1] at e2
     rw[List.setIfInBounds_toArray,List.setIfInBounds_toArray,List.set_append_left _ _ (by omega),List.set_append_left _ _ (by rw[List.length_set];omega),Nat.mul_comm j 4,←e2] at h
     rw[Nat.mul_comm j 4]
     exact h
    ·intro t ht
     rcases List.mem_append.1 ht with h|h
     ·exact(((OJ.out t h).keep A5.out).keep B3.out).kept (liess_mem.1 LJ.out t h) keep
     ·rw[List.mem_singleton.1 h];exact OT3.kept LT3 keep
    ·exact((BU.out.trans (B3.out.mono BU.out.size)).setCell (p:=⟨Bc,j*4+2,none⟩) L1.out _).setCell (p:=⟨Bc,j*4+3,none⟩) L1.out _
  ·obtain rfl:j=m:=by omega
   have q0:¬(j:Int) < (j:Int):=by omega
   have e:ks.take j=ks:=List.take_of_length_le (by have:=HM.out;omega)
   have e2:ds ++ ks.drop j=ds:=by rw[List.drop_eq_nil_of_le (by have:=HM.out;omega),List.append_nil]
   rw[e] at ND
   rw[e2] at RJ
   clear e e2
   go_wp2_with fail
   go_ret
   refine⟨ds,some ⟨Bc,0,none⟩,cap,by rw[HD.out];rfl,ND.out,by rw[HD.out,HM.out],?_,(fun e=>by cases e),by have:=HD.out;omega,OJ.out,liess.mono (fun k hk=>hk.1) LJ.out,(fun ad e=>by cases e;exact L1.out),BJ.out⟩
   exact Sl.of_bl RJ.out 0 _ _ (by rw[flat_len]) (fun k v hv=>by rw[Nat.zero_add,List.getElem?_toArray,List.getElem?_append_left (List.getElem?_eq_some_iff.1 hv).1];exact hv)
set_option maxHeartbeats 4000000 in
set_option maxRecDepth 100000 in
theorem copies_empty{A:Option Addr}{c:Nat}(h0:A=none→c=0)(w:World):Calls Try.prog 61 #[.slice A 0 c] w (CpQ [] w):=by
 cases A with
 |none=>obtain rfl:=h0 rfl;exact copies_nil w
 |some ad =>
 have CX:=Lib.hid (nClone_any (ks:=[]) (w:=w) (A:=some ad) (c:=c) (Sl.nil_ _ _) (Nat.zero_le _) (Nat.zero_le _) h0)
 clear h0
 go_enter Try.func61,Try.ntmps61
 go_upto_region 2 with(go_at_call 81;(refine CX.out.mono ?_);rintro e w1 ⟨v,rfl,hv,hb⟩;obtain⟨A1,c1,rfl,s1,s2,s3,s4⟩:=own_form hv;have S1:=Lib.hid s1;have S2:=Lib.hid s2;have S4:=Lib.hid s4;have B1:=Lib.hid hb;clear hv hb s1 s2 s3 s4)
 go_wp2_with fail
 go_loopg [10] 0 (fun g1 vi wr=>vi=.int .i64 0∧wr=w1)
 case atStart=>exact⟨rfl,rfl⟩
 case round =>
  obtain⟨rfl,rfl⟩:=hrel
  go_wp2_with fail
  go_ret
  exact⟨[],A1,c1,rfl,rfl,rfl,Sl.nil_ _ _,S2.out,Nat.zero_le _,(fun t ht=>(List.not_mem_nil ht).elim),by rw[liess];trivial,(fun ad e=>(S4.out ad e).1),B1.out⟩
theorem copies_any{w0:World}{v:Tv}(hv:Ok w0 v):∀(K:Int) (N:Nat) (r:Rw) (A:Option Addr) (c:Nat) (ks:List Tv),v=.mk K N r A c ks→sz v≤1000000→∀u,Below w0.heap.size w0 u→Calls Try.prog 61 #[.slice A ks.length c] u (CpQ ks u):=by
 induction hv with
 | @mk K n r A c ks hn hr hs hm hc h0 hk ih =>
 intro K' N' r' A' c' ks' e hz u hu
 cases e
 rw[sz] at hz
 by_cases hnx:ks=[]
 ·subst hnx;exact copies_empty h0 u
 ·exact copies_own hs hc h0 hk (by omega) (fun K N r B cc us ht u' hu'=>ih _ ht K N r B cc us rfl (by have:=sz_mem ht;omega) u' hu') u hu hnx
theorem copies_list{w0:World}{A:Option Addr}{c:Nat}{ks:List Tv}(hs:Sl w0 A (4*ks.length) (flat ks))(hc:ks.length≤c)(h0:A=none→c=0)(hk:∀t∈ks,Ok w0 t)(hz:szs ks≤900000)(u:World)(hu:Below w0.heap.size w0 u):Calls Try.prog 61 #[.slice A ks.length c] u (CpQ ks u) :=
 copies_any (v:=.mk 0 0 (none,0,0,[]) A c ks) (.mk (by decide) (nil_pc _) hs (by have:=szs_len ks;omega) hc h0 hk) 0 0 _ A c ks rfl (by rw[sz];show 1+0+szs ks≤1000000;omega) u hu
set_option maxHeartbeats 4000000 in
set_option maxRecDepth 100000 in
theorem List_any{w0:World}{A:Option Addr}{c:Nat}{ks:List Tv}(hs:Sl w0 A (4*ks.length) (flat ks))(hc:ks.length≤c)(h0:A=none→c=0)(hk:∀t∈ks,Ok w0 t)(hz:szs ks≤900000)(w:World)(hu:Below w0.heap.size w0 w) :
  Calls Try.prog 34 #[.slice A ks.length c] w fun e w'=>∃us A' c',MkQ (.mk 3 0 (none,0,0,[]) A' c' us) w e w'∧nds us=nds ks∧lies (fun k=>w.heap.size≤k) (.mk 3 0 (none,0,0,[]) A' c' us):=by
 obtain⟨m,hm⟩:∃m,ks.length=m:=⟨_,rfl⟩
 have B0:=Lib.hid (below_one w nod0)
 have N0:=Lib.hid (Bl.new_ w 80 #[.int .i64 0,.int .u64 0,.slice none 0 0,.slice none 0 0])
 have CC:=Lib.hid (copies_list hs hc h0 hk hz (w.alloc nod0) (hu.trans (B0.out.mono hu.size)))
 have KL:=Lib.hid (show ks.length≤900000 from by have:=szs_len ks;omega)
 have HM:=Lib.hid hm
 rw[hm] at CC KL ⊢
 clear hs hc h0 hk hz hu hm
 go_enter Try.func34,Try.ntmps34
 go_wp2_with (go_at_call 61;(refine CC.out.mono ?_);rintro e w1 ⟨us,A',c',rfl,h1,h2,h3,h4,h5,h6,h7,h8,h9⟩;have Y1:=Lib.hid h1;have Y2:=Lib.hid h2;have Y3:=Lib.hid h3;have Y4:=Lib.hid h4;have Y5:=Lib.hid h5;have Y6:=Lib.hid h6;have Y7:=Lib.hid h7;have Y8:=Lib.hid h8;have Y9:=Lib.hid h9;have N1:=Lib.hid (N0.out.below' h9);have y0:w1.cell? ⟨w.heap.size,0,none⟩=some (.int .i64 0):=N1.out.cell_ rfl;have y1:w1.cell? ⟨w.heap.size,1,none⟩=some (.int .u64 0):=N1.out.cell_ rfl;have y2:w1.cell? ⟨w.heap.size,2,none⟩=some (.slice none 0 0):=N1.out.cell_ rfl;have y3:w1.cell? ⟨w.heap.size,3,none⟩=some (.slice none 0 0):=N1.out.cell_ rfl;have f0:=N1.out.frozen 0;have f1:=N1.out.frozen 1;have f2:=N1.out.frozen 2;have f3:=N1.out.frozen 3;clear h1 h2 h3 h4 h5 h6 h7 h8 h9)
 have HL:=st4_bl N1.out (.int .i64 3) (.int .u64 0) (.slice none 0 0) (.slice A' us.length c')
 have sz1:(w.alloc nod0).heap.size=w.heap.size+1:=by simp
 have hy2:=Y2.out
 have L1:lies (fun k=>w.heap.size < k) (.mk 3 0 (none,0,0,[]) A' c' us):=by
  rw[lies];exact⟨fun ad e=>(by cases e),fun ad e _=>(by have:=Y8.out ad e;omega),liess.mono (fun k hk=>by omega) Y7.out⟩
 have O1:Ok w1 (.mk 3 0 (none,0,0,[]) A' c' us):=.mk (by decide) (nil_pc _) Y3.out (by have:=KL.out;have:=HM.out;omega) Y5.out Y4.out Y6.out
 exact⟨rfl,_,results_c rfl _ _ _ ⟨w.heap.size,0,none⟩ _ (by kernel_rfl) (run_loadVar_row _ w.heap.size 80 80 _ (0,0) _ HL Try.underlying80 rfl size34),us,A',c',⟨rfl,O1.kept L1 (fun k hk _=>st4_keep w1 _ _ _ _ (by omega)),below_st4' (B0.out.trans (Y9.out.mono B0.out.size)) (Nat.le_refl _) _ _ _ _⟩,Y1.out,lies.mono (fun k h=>Nat.le_of_lt h) L1⟩
end Go.Proofs.Yteblmphohhbgcaa.Wr
