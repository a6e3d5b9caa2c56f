/- Joined texts. -/
import Derived.Test.YtbgkdbjineennaaQcDkC
set_option linter.unusedVariables false
namespace Go.Proofs.Ytbgkdbjineennaa.Dk
open Go.IntWalk Go.RowKit Go.Proofs.Ytbgkdbjineennaa.Gn Go.Proofs.Ytbgkdbjineennaa.Fd Go.Deep
structure Gx (S:List Nat) (w w':World):Prop where
 os:w'.os=w.os
 tape:w'.tape=w.tape
 output:w'.output=w.output
 size:w.heap.size≤w'.heap.size
 block:∀k,k < w.heap.size→k∉S→w'.heap[k]?=w.heap[k]?
theorem Gx.refl(S:List Nat)(w:World):Gx S w w:=⟨rfl,rfl,rfl,Nat.le_refl _,fun _ _ _=>rfl⟩
theorem Gx.trans{S:List Nat}{a b c:World}(h:Gx S a b)(k:Gx S b c):Gx S a c :=
 ⟨k.os.trans h.os,k.tape.trans h.tape,k.output.trans h.output,Nat.le_trans h.size k.size,fun i hi hn=>(k.block i (Nat.lt_of_lt_of_le hi h.size) hn).trans (h.block i hi hn)⟩
theorem Gx.mono{S T:List Nat}{w w':World}(h:Gx S w w')(hs:∀k∈S,k∈T):Gx T w w':=⟨h.os,h.tape,h.output,h.size,fun k hk hn=>h.block k hk fun e=>hn (hs k e)⟩
theorem Gx.of_below{S:List Nat}{w w':World}(h:Below w.heap.size w w'):Gx S w w':=⟨h.os,h.tape,h.output,h.size,fun k hk _=>h.block k hk⟩
theorem Gx.of_grown{S:List Nat}{w w':World}{o:Option Nat}(h:w.grownBy w' o)(ho:∀k,o=some k→k∈S):Gx S w w':=⟨h.os,h.tape,h.output,h.size,fun k hk hn=>h.block k hk fun e=>hn (ho k e.symm)⟩
theorem Gx.alloc{S:List Nat}{a w:World}(h:Gx S a w)(o:Obj):Gx S a (w.alloc o):=h.trans (Gx.of_grown (World.grownBy_alloc w o none) (fun _ e=>by cases e))
theorem Gx.set{S:List Nat}{a w:World}(h:Gx S a w){p:Addr}(hp:p.block∈S)(v:Value):Gx S a (w.setCell p v):=by
 refine h.trans ⟨rfl,rfl,rfl,by simp,fun k hk hn=>?_⟩
 exact Below.heap_setCell w p v k (fun e=>hn (by rw[e];exact hp))
theorem Gx.below{S:List Nat}{w w':World}(h:Gx S w w'){n:Nat}(hn:n≤w.heap.size)(hS:∀k∈S,n≤k):Below n w w' :=
 ⟨h.os,h.tape,h.output,h.size,fun k hk=>h.block k (by omega) fun e=>by have:=hS k e;omega⟩
theorem Gx.bl{S:List Nat}{w w':World}(h:Gx S w w'){g:Nat}(hg:g∉S){t:TypeId}{cs:Array Value}(hb:Bl w g t cs):Bl w' g t cs:=(h.block g (Array.getElem?_eq_some_iff.1 hb).1 hg).trans hb
set_option maxRecDepth 100000 in
set_option maxHeartbeats 4000000 in
theorem CloneB_any(ad:Addr)(w:World)(hs:Sl w (some ad) 1 [.bool true]) :
  Calls Try.prog 40 #[.slice (some ad) 1 1] w fun e w'=>∃g cap,e=.returned (.slice (some ⟨g,0,none⟩) 1 cap)∧w'.cell? ⟨g,0,none⟩=some (.bool true)∧1≤cap∧w.heap.size≤g∧g < w'.heap.size∧Below w.heap.size w w':=by
 obtain⟨i0,hi,hz0,hz1,hz2⟩:=info_parts (show(Try.prog.info? 4).map (fun i=>(i.zero,i.size,i.bytes))=some (some (.bool false),1,1) by kernel_rfl)
 go_enter Try.func40,Try.ntmps40
 have hne:∀w,Sem.run Try.prog (binOp .eql 24 (.slice (some ad) 1 1) (.slice none 0 0)) w=.ok (.bool false) w:=fun w=>by kernel_rfl
 go_upto_region 3 with(fail)
 refine wp_region_lit ?_
 refine sq_new (w.alloc (.cells #[] 4)) (.slice (some ⟨w.heap.size,0,none⟩) 0 0) rfl (by kernel_rfl) ?_
 refine sq_run (.slice (some ad) 1 1) rfl (by kernel_rfl) ?_
 refine wpList_append_sl rfl (.tmp 5) (.tmp 6) 24 rfl w.heap.size 4 i0 _ 1 Try.underlying24 hi hz0 hz1 hz2 rfl (.slice (some ⟨w.heap.size,0,none⟩) 0 0) 0 [] rfl (own_new w 4 [] (by decide)) (some ad) 1 1 [.bool true] rfl (by simp) (hs.below ((Below.refl _ _).alloc (Nat.le_refl _) _)) (by simp[Value.oneCell']) (by unfold maxLen;omega) (by omega) (by simp) ?_
 intro v' w1 hown hgrow
 rw[Nat.zero_add,List.nil_append] at hown
 obtain⟨g,cap,cur,rfl,hb,h1,h2,h3,h4⟩:=own_cur hown (by decide)
 have hB:Below w.heap.size w w1:=((Below.refl w.heap.size w).alloc (Nat.le_refl _) (.cells #[] 4)).grown hgrow (by simp) (by intro k e;simp[Value.ownBlock] at e;omega)
 have hcell:cur[0]?=some (.bool true):=by
  rw[←Array.getElem?_toList]
  have:=congrArg (·[0]?) h3
  simpa[List.getElem?_take] using this
 have hgl:=(Array.getElem?_eq_some_iff.1 hb).1
 refine sq_run (.slice (some ⟨g,0,none⟩) 1 cap) rfl (by kernel_rfl) ?_
 refine sq_done ?_
 simp only[Act.put,List.setIfInBounds_toArray,List.set_cons_zero,List.set_cons_succ]
 go_wp2_with fail
 go_ret
 exact⟨g,cap,rfl,hb.cell_ hcell,h1,h4,hgl,hB⟩
section
variable {w:World} {g gb n cp:Nat} {H:Value} {up:Bool} {st:Int} {cs:Bool} {cw:Int} {ch:Value}
theorem DB.set3(h:DB w g gb n cp H up st cs cw ch)(v:Int):DB (w.setCell ⟨g,3,none⟩ (.int .i64 v)) g gb n cp H up v cs cw ch:=Bl.set_ h 3 (.int .i64 v)
theorem DB.set2(h:DB w g gb n cp H up st cs cw ch)(v:Bool):DB (w.setCell ⟨g,2,none⟩ (.bool v)) g gb n cp H v st cs cw ch:=Bl.set_ h 2 (.bool v)
theorem DB.set1(h:DB w g gb n cp H up st cs cw ch)(v:Value):DB (w.setCell ⟨g,1,none⟩ v) g gb n cp v up st cs cw ch:=Bl.set_ h 1 v
theorem DB.kept(h:DB w g gb n cp H up st cs cw ch){S:List Nat}{w':World}(k:Gx S w w')(hg:g∉S):DB w' g gb n cp H up st cs cw ch:=k.bl hg h
set_option maxRecDepth 100000 in
theorem stroke_free(h:DB w g gb n cp H up st false cw ch)(hst:0≤st∧st < 1000):Calls Try.prog 32 #[.pointer (some ⟨g,0,none⟩)] w fun e w'=>e=.returned (.int .i64 0)∧w'=w.setCell ⟨g,3,none⟩ (.int .i64 (st+1)):=by
 have h2:=Lib.hid (h.set3 (st+1))
 have c3:=h.c3
 have c4:=h2.out.c4
 have f3:=h.fz 3
 obtain⟨w2,hw2⟩:∃w2,w.setCell ⟨g,3,none⟩ (.int .i64 (st+1))=w2:=⟨_,rfl⟩
 obtain⟨s0,s1⟩:=hst
 have e1:IntKind.i64.wrap (st+1)=st+1:=i64_in _ (by omega)
 rw[hw2] at c4
 clear h h2
 go_enter Try.func32,Try.ntmps32
 go_wp2_with fail
 go_ret
 exact⟨rfl,hw2.symm⟩
set_option maxRecDepth 100000 in
theorem Set_true(h:DB w g gb n cp H up st cs cw ch)(hn:0 < n)(ad:Addr)(hs:Sl w (some ad) 1 [.bool true]):Calls Try.prog 28 #[.pointer (some ⟨g,0,none⟩),.int .i64 0,.slice (some ad) 1 1] w fun e w'=>∃p cap,e=.returned (.int .i64 0)∧DB w' g gb n cp H up st true 0 (.slice (some ⟨p,0,none⟩) 1 cap)∧1≤cap∧w'.cell? ⟨p,0,none⟩=some (.bool true)∧w.heap.size≤p∧p < w'.heap.size∧Gx [g] w w':=by
 have C:=Lib.hid (none_any h hn)
 have C2:=Lib.hid (CloneB_any ad w hs)
 have H:=Lib.hid h
 clear h hs
 go_enter Try.func28,Try.ntmps28
 go_wp2_with (first|(go_at_call 30;(with_reducible refine C.out.mono ?_);rintro e w1 ⟨rfl,rfl⟩)|(go_at_call 40;(with_reducible refine C2.out.mono ?_);rintro e w2 ⟨p,cap,rfl,k1,k2,k3,k4,k5⟩;have K1:=Lib.hid k1;have K2:=Lib.hid k2;have K3:=Lib.hid k3;have K4:=Lib.hid k4;have K5:=Lib.hid k5;have DD:=H.out.below k5;have c4:=DD.c4;have c5:=DD.c5;have c6:=DD.c6;have f4:=DD.fz 4;have f5:=DD.fz 5;have f6:=DD.fz 6;clear DD k1 k2 k3 k4 k5))
 go_ret
 have DD:=H.out.below K5.out
 have hg:g < w.heap.size:=(Array.getElem?_eq_some_iff.1 H.out).1
 have K3':=K3.out
 have hpg:p≠g:=by omega
 refine⟨p,cap,rfl,Bl.set_ (Bl.set_ (Bl.set_ DD 4 _) 5 _) 6 _,K2.out,?_,K3.out,by simpa using K4.out,(((Gx.of_below K5.out).set (by simp) _).set (by simp) _).set (by simp) _⟩
 refine(World.cell?_of_block (w:=w2) ?_).trans K1.out
 rw[Below.heap_setCell _ _ _ _ hpg,Below.heap_setCell _ _ _ _ hpg,Below.heap_setCell _ _ _ _ hpg]
end
end Go.Proofs.Ytbgkdbjineennaa.Dk
