/- Joined texts. -/
import Derived.Test.YteblmphohhbgcaaQaWrCopyB
import Derived.Test.YteblmphohhbgcaaQaMkSeq
import Derived.Test.YteblmphohhbgcaaQaWrTreadB
set_option linter.unusedVariables false
namespace Go.Proofs.Yteblmphohhbgcaa.Wr
open Go.RowKit Go.Proofs.Yteblmphohhbgcaa.Gn Go.Proofs.Yteblmphohhbgcaa.Fd Go.Deep
abbrev nodo:Obj:=.cells #[.int .i64 0,.int .u64 0,.slice none 0 0,.slice none 0 0] 80
abbrev Rz(w:World)(g:Nat):Prop:=Bl w g 146 #[.bool false,.slice none 0 0]
set_option maxHeartbeats 4000000 in
set_option maxRecDepth 100000 in
theorem Open_no(K:Int)(hK:¬K=3)(N:Nat)(r:Rw)(A:Option Addr)(n c:Nat)(w:World):Calls Try.prog 50 #[.agg #[.int .i64 K,.int .u64 (N:Int),.slice r.1 r.2.1 r.2.2.1,.slice A n c]] w fun e w'=>∃g,e=.returned (.pointer (some ⟨g,0,none⟩))∧Rz w' g∧w.heap.size≤g∧Below w.heap.size w w':=by
 have BW:=Lib.hid (((Below.refl _ w).alloc (Nat.le_refl _) (.cells #[.int .i64 K,.int .u64 (N:Int),.slice r.1 r.2.1 r.2.2.1,.slice A n c] 80)).alloc (by simp) (.cells #[.bool false,.slice none 0 0] 146))
 go_enter Try.func50,Try.ntmps50
 go_wp2_with fail
 go_ret
 exact⟨_,rfl,Bl.new' _ _ (by simp),by simp,BW.out⟩
end Go.Proofs.Yteblmphohhbgcaa.Wr
namespace Go.Proofs.Yteblmphohhbgcaa.Wr
open Go.RowKit Go.Proofs.Yteblmphohhbgcaa.Gn Go.Proofs.Yteblmphohhbgcaa.Fd Go.Deep
structure Fl (w:World) (g:Nat) (wh:Bool) (ks:List Tv):Prop where
 mk' ::
 row:∃A c,Bl w g 146 #[.bool wh,.slice A ks.length c]∧Sl w A (4*ks.length) (flat ks)∧(A=none→c=0)∧ks.length≤c∧(∀ad,A=some ad→0 < ks.length→ad.block < g)
 ok:∀t∈ks,Ok w t
 away:liess (fun k=>k < g) ks
set_option maxHeartbeats 4000000 in
set_option maxRecDepth 100000 in
theorem Open_list{w0:World}{N:Nat}{r:Rw}{A:Option Addr}{c:Nat}{ks:List Tv}(hv:Ok w0 (.mk 3 N r A c ks))(hz:sz (.mk 3 N r A c ks)≤1000000)(w:World)(hu:Below w0.heap.size w0 w) :
  Calls Try.prog 50 #[.agg #[.int .i64 3,.int .u64 (N:Int),.slice r.1 r.2.1 r.2.2.1,.slice A ks.length c]] w fun e w'=>∃g us,e=.returned (.pointer (some ⟨g,0,none⟩))∧nds us=nds ks∧Fl w' g true us∧w.heap.size≤g∧g < w'.heap.size∧Below w.heap.size w w':=by
 have B0:=Lib.hid (below_one w (.cells #[.int .i64 3,.int .u64 (N:Int),.slice r.1 r.2.1 r.2.2.1,.slice A ks.length c] 80))
 have CC:=Lib.hid (copies_any hv 3 N r A c ks rfl hz _ (hu.trans (B0.out.mono hu.size)))
 clear hv hz hu
 go_enter Try.func50,Try.ntmps50
 go_wp2_with (go_at_call 61;(refine CC.out.mono ?_);rintro e w1 ⟨us,A',c',rfl,h1,h2,h3,h4,h5,h6,h7,h8,h9⟩;have Y:=Lib.hid (And.intro h1 (And.intro h3 (And.intro h4 (And.intro h5 (And.intro h6 (And.intro h7 h9))))));clear h1 h2 h3 h4 h5 h6 h7 h8 h9)
 go_ret
 obtain⟨h1,h3,h4,h5,h6,h7,h9⟩:=Y.out
 have hb:=below_one w1 (.cells #[.bool true,.slice A' us.length c'] 146)
 refine⟨_,us,rfl,h1,⟨⟨A',c',Bl.new_ w1 _ _,h3.below hb,h4,h5,fun ad e hp=>?_⟩,fun t ht=>(h6 t ht).keep hb,?_⟩,?_,by simp,B0.out.trans ((h9.trans (hb.mono h9.size)).mono B0.out.size)⟩
 ·obtain⟨ad',e',hc⟩:=h3.at_ (show 0 < 4*us.length by omega)
  rw[e] at e';cases e'
  have:=cell_lt (v:=(flat us)[0]'(by rw[flat_len];omega)) (by rw[hc];exact List.getElem?_eq_getElem _)
  rwa [add_block] at this
 ·exact liess.mono (fun k h=>h.2) (liess.lt h6 h7)
 ·have h:=h9.size;simp at h;omega
end Go.Proofs.Yteblmphohhbgcaa.Wr
namespace Go.Proofs.Yteblmphohhbgcaa.Wr
open Go.RowKit Go.Proofs.Yteblmphohhbgcaa.Gn Go.Proofs.Yteblmphohhbgcaa.Fd Go.Deep
set_option maxRecDepth 100000
theorem sl_tail4{w:World}{ad:Addr}{t:Tv}{ks:List Tv}(h:Sl w (some ad) (4*(t :: ks).length) (flat (t :: ks))):Sl w (some (ad.add 4)) (4*ks.length) (flat ks):=by
 refine⟨flat_len ks,fun k v hk=>⟨_,rfl,?_⟩⟩
 obtain⟨ad',e,hc⟩:=h.2 (4+k) v (by
  show(t.row ++ flat ks)[4+k]?=some v
  rw[List.getElem?_append_right (by rw[row_len];omega),row_len,show 4+k - 4=k by omega]
  exact hk)
 cases e
 rw[ad_add]
 exact hc
theorem head_cells{w:World}{A:Option Addr}{K:Int}{N:Nat}{r:Rw}{B:Option Addr}{cc:Nat}{us ks:List Tv}(h:Sl w A (4*(Tv.mk K N r B cc us :: ks).length) (flat (.mk K N r B cc us :: ks))):∃ad,A=some ad∧w.cell? ad=some (.int .i64 K)∧w.cell? ⟨ad.block,ad.off+1,none⟩=some (.int .u64 (N:Int))∧w.cell? ⟨ad.block,ad.off+2,none⟩=some (.slice r.1 r.2.1 r.2.2.1)∧w.cell? ⟨ad.block,ad.off+3,none⟩=some (.slice B us.length cc):=by
 have g:∀k v,(flat (.mk K N r B cc us :: ks))[k]?=some v→∃ad,A=some ad∧w.cell? (ad.add k)=some v:=h.2
 obtain⟨ad,rfl,h0⟩:=g 0 _ rfl
 refine⟨ad,rfl,by rwa [ad_zero] at h0,?_,?_,?_⟩
 ·obtain⟨ad',e,h1⟩:=g 1 _ rfl;cases e;rwa [ad_pos _ (by decide)] at h1
 ·obtain⟨ad',e,h1⟩:=g 2 _ rfl;cases e;rwa [ad_pos _ (by decide)] at h1
 ·obtain⟨ad',e,h1⟩:=g 3 _ rfl;cases e;rwa [ad_pos _ (by decide)] at h1
theorem Fl.lt{w:World}{g:Nat}{wh:Bool}{ks:List Tv}(h:Fl w g wh ks):g < w.heap.size:=by
 obtain⟨A,c,h1,-⟩:=h.row
 exact h1.lt
theorem Fl.kept{w w':World}{g:Nat}{wh wh':Bool}{ks ks':List Tv}{A:Option Addr}{c:Nat}(h:Fl w g wh ks)(hs:∀t∈ks',t∈ks)(hb:Below g w w')(hr:Bl w' g 146 #[.bool wh',.slice A ks'.length c])(hsl:Sl w A (4*ks'.length) (flat ks'))(h0:A=none→c=0)(hc:ks'.length≤c)(hA:∀ad,A=some ad→0 < ks'.length→ad.block < g):Fl w' g wh' ks':=by
 have hl:liess (fun k=>k < g) ks':=liess_mem.2 fun t ht=>liess_mem.1 h.away t (hs t ht)
 refine⟨⟨A,c,hr,Sl.kept hsl (fun ad e hp _=>hb.block _ (hA ad e (by omega))),h0,hc,hA⟩,fun t ht=>?_,hl⟩
 exact(h.ok t (hs t ht)).kept (liess_mem.1 hl t ht) (fun k hk _=>hb.block k hk)
theorem Fl.below{w w':World}{g:Nat}{wh:Bool}{ks:List Tv}(h:Fl w g wh ks)(hb:Below w.heap.size w w'):Fl w' g wh ks:=by
 obtain⟨A,c,h1,h2,h3,h4,h5⟩:=h.row
 exact⟨⟨A,c,h1.below' hb,h2.below hb,h3,h4,h5⟩,fun t ht=>(h.ok t ht).keep hb,h.away⟩
theorem miss_end{w:World}{g:Nat}{wh:Bool}{ks:List Tv}(h:Fl w g wh ks)(U:World)(hU:U=((w.alloc nodo).setCell ⟨g,0,none⟩ (.bool false)).setCell ⟨g,1,none⟩ (.slice none 0 0)) :
  Bl U g 146 #[.bool false,.slice none 0 0]∧Bl U w.heap.size 80 #[.int .i64 0,.int .u64 0,.slice none 0 0,.slice none 0 0]∧w.grownBy U (some g)∧U.heap.size=w.heap.size+1:=by
 obtain⟨A,c,hr,-⟩:=h.row
 have glt:=hr.lt
 have RG:=hr.alloc nodo
 have HL:=Bl.new_ w 80 #[.int .i64 0,.int .u64 0,.slice none 0 0,.slice none 0 0]
 subst hU
 refine⟨(RG.set_ 0 _).set_ 1 _,(HL.other (p:=⟨g,0,none⟩) (by show w.heap.size≠g;omega) _).other (p:=⟨g,1,none⟩) (by show w.heap.size≠g;omega) _,only_set (only_set (only_below (below_one w nodo) (some g)) (p:=⟨g,0,none⟩) (Or.inl rfl) _) (p:=⟨g,1,none⟩) (Or.inl rfl) _,by rw[setc_size,setc_size];simp⟩
theorem st4_fl{a:World}{g:Nat}{wh:Bool}{ks:List Tv}(h:Fl a g wh ks){q:Nat}(hq:g < q)(v0 v1 v2 v3:Value):Fl (st4 a q v0 v1 v2 v3) g wh ks:=by
 obtain⟨A,c,h1,h2,h3,h4,h5⟩:=h.row
 have hb:Below g a (st4 a q v0 v1 v2 v3):=below_st4' (Below.refl g a) (Nat.le_of_lt hq) _ _ _ _
 exact h.kept (fun t ht=>ht) hb ((((h1.other (p:=⟨q,0,none⟩) (by show g≠q;omega) _).other (p:=⟨q,1,none⟩) (by show g≠q;omega) _).other (p:=⟨q,2,none⟩) (by show g≠q;omega) _).other (p:=⟨q,3,none⟩) (by show g≠q;omega) _) h2 h3 h4 h5
theorem fl_nil{w:World}{g:Nat}(h:Bl w g 146 #[.bool false,.slice none 0 0]):Fl w g false [] :=
 ⟨⟨none,0,h,Sl.nil_ w none,fun _=>rfl,Nat.le_refl _,fun ad e=>by cases e⟩,fun t ht=>(List.not_mem_nil ht).elim,by rw[liess];trivial⟩
def NxQ(t:Tv)(wh:Bool)(ks:List Tv)(g:Nat)(w:World)(e:Ending)(w':World):Prop:=e=.returned t.val∧Fl w' g wh ks∧w.grownBy w' (some g)∧Ok w' t
abbrev tv0:Tv:=.mk 0 0 (none,0,0,[]) none 0 []
theorem ok_tv0(w:World):Ok w tv0:=ok_leaf (by decide) (nil_pc w)
set_option maxHeartbeats 4000000 in
theorem next_empty{w:World}{g:Nat}{wh:Bool}(h:Fl w g wh [])(k:Int)(fv:Value):Calls Try.prog 85 #[.pointer (some ⟨g,0,none⟩),.int .i64 k,fv] w (NxQ tv0 false [] g w):=by
 obtain⟨U,hU⟩:∃U,((w.alloc nodo).setCell ⟨g,0,none⟩ (.bool false)).setCell ⟨g,1,none⟩ (.slice none 0 0)=U:=⟨_,rfl⟩
 obtain⟨RU,LU,GU,SU⟩:=miss_end h U hU.symm
 obtain⟨A,c,hr,-⟩:=h.row
 have glt:=hr.lt
 have RG:=hr.alloc nodo
 have r0:(w.alloc nodo).cell? ⟨g,0,none⟩=some (.bool wh):=RG.cell_ rfl
 have r1:(w.alloc nodo).cell? ⟨g,1,none⟩=some (.slice A 0 c):=RG.cell_ rfl
 have f0:=RG.frozen 0
 have f1:=RG.frozen 1
 have c0:U.cell? ⟨w.heap.size,0,none⟩=some (.int .i64 0):=LU.cell_ rfl
 have c1:U.cell? ⟨w.heap.size,1,none⟩=some (.int .u64 0):=LU.cell_ rfl
 have c2:U.cell? ⟨w.heap.size,2,none⟩=some (.slice none 0 0):=LU.cell_ rfl
 have c3:U.cell? ⟨w.heap.size,3,none⟩=some (.slice none 0 0):=LU.cell_ rfl
 have z0:=LU.frozen 0
 have z1:=LU.frozen 1
 have z2:=LU.frozen 2
 have z3:=LU.frozen 3
 have HZ:=Lib.hid (And.intro glt (And.intro RU (And.intro LU (And.intro GU SU))))
 clear h hr RG glt RU LU GU SU
 go_enter Try.func85,Try.ntmps85
 go_wp2_with fail
 obtain⟨glt,RU,LU,GU,SU⟩:=HZ.out
 exact⟨rfl,_,results_c rfl _ _ _ ⟨w.heap.size,0,none⟩ _ (by kernel_rfl) (run_loadVar_row _ w.heap.size 80 80 #[.int .i64 0,.int .u64 0,.slice none 0 0,.slice none 0 0] (0,0) _ (st4_bl LU _ _ _ _) Try.underlying80 rfl size34),rfl,st4_fl (fl_nil RU) glt _ _ _ _,st4_only GU (Nat.le_refl _) _ _ _ _,ok_tv0 _⟩
end Go.Proofs.Yteblmphohhbgcaa.Wr
