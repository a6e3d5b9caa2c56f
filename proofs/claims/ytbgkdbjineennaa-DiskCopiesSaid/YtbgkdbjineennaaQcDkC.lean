/- Joined texts. -/
import Derived.Deep.RegionWith
import Derived.Deep.RegionHeld3
import Derived.Test.YtbgkdbjineennaaQcDkB
set_option linter.unusedVariables false
namespace Go.Proofs.Ytbgkdbjineennaa.Dk
open Go.RowKit Go.Proofs.Ytbgkdbjineennaa.Gn Go.Proofs.Ytbgkdbjineennaa.Fd Go.Deep
def CloneQ(l:List Nat)(w:World)(e:Ending)(w':World):Prop :=
 ∃(g cap:Nat) (cur:Array Value),e=.returned (.slice (some ⟨g,0,none⟩) l.length cap)∧Bl w' g 5 cur∧l.length≤cap∧l.length≤cur.size∧cur.toList.take l.length=bl l∧w.heap.size≤g∧Below w.heap.size w w'
theorem own_cur{w:World}{base:Nat}{e:TypeId}{v:Value}{n:Nat}{xs:List Value}(h:w.ownsRow base e 1 v n xs)(hn:0 < n) :
  ∃g cap cur,v=.slice (some ⟨g,0,none⟩) n cap∧Bl w g e cur∧n≤cap∧n≤cur.size∧cur.toList.take n=xs∧base≤g:=by
 obtain⟨hl,h2⟩:=h
 rcases h2 with⟨rfl,rfl⟩|⟨g,cap,cur,rfl,hb,hh,hn2,hm,hc,hx⟩
 ·simp at hl;omega
 ·exact⟨g,cap,cur,rfl,hh,by omega,by omega,(by rw[Nat.mul_one] at hx;exact hx),hb⟩
set_option maxRecDepth 100000 in
set_option maxHeartbeats 4000000 in
theorem Clone_any(A:Option Addr)(n c:Nat)(l:List Nat)(w:World)(h0:0 < n)(hn:n≤100000)(hc:n≤c)(hs:Sl w A n (bl l)) :
  Calls Try.prog 35 #[.slice A n c] w (CloneQ l w):=by
 have hln:l.length=n:=by simpa[bl] using hs.1
 obtain⟨ad,hA,-⟩:=hs.at_ h0
 subst hA
 obtain⟨i0,hi,hz0,hz1,hz2⟩:=info_parts infob
 go_enter Try.func35,Try.ntmps35
 go_upto_region 1 with(fail)
 refine wp_region_lit ?_
 refine sq_run (.slice (some ad) n c) rfl (by kernel_rfl) ?_
 refine sq_run (.bool false) rfl (by kernel_rfl) ?_
 refine sq_done ?_
 simp only[Act.put,List.setIfInBounds_toArray,List.set_cons_zero,List.set_cons_succ]
 go_upto_region 3 with(fail)
 refine wp_region_lit ?_
 refine sq_new (w.alloc (.cells #[] 5)) (.slice (some ⟨w.heap.size,0,none⟩) 0 0) rfl (by kernel_rfl) ?_
 refine sq_run (.slice (some ad) n c) rfl (by kernel_rfl) ?_
 refine wpList_append_sl rfl (.tmp 5) (.tmp 6) 22 rfl w.heap.size 5 i0 _ (8 / 8) Try.underlying22 hi hz0 hz1 hz2 rfl (.slice (some ⟨w.heap.size,0,none⟩) 0 0) 0 [] rfl (own_new w 5 [] (by decide)) (some ad) n c (bl l) rfl (by simp) (hs.below ((Below.refl _ _).alloc (Nat.le_refl _) _)) (bl_one _) (by unfold maxLen;omega) (by omega) (by simp) ?_
 intro v' w1 hown hgrow
 rw[Nat.zero_add,List.nil_append] at hown
 obtain⟨g,cap,cur,rfl,hb,h1,h2,h3,h4⟩:=own_cur hown h0
 have hB:Below w.heap.size w w1:=((Below.refl w.heap.size w).alloc (Nat.le_refl _) (.cells #[] 5)).grown hgrow (by simp) (by intro k e;simp[Value.ownBlock] at e;omega)
 refine sq_run (.slice (some ⟨g,0,none⟩) n cap) rfl (by kernel_rfl) ?_
 refine sq_done ?_
 simp only[Act.put,List.setIfInBounds_toArray,List.set_cons_zero,List.set_cons_succ]
 go_wp2_with fail
 go_ret
 exact⟨g,cap,cur,by rw[hln];rfl,hb,by omega,by omega,by rw[hln];exact h3,h4,hB⟩
def RB(w:World)(gb:Nat)(bs:List Nat):Prop:=Bl w gb 5 (bl bs).toArray
set_option maxRecDepth 100000 in
set_option maxHeartbeats 4000000 in
theorem New_nil(w:World)(Z:List Nat)(hZ:Z=List.replicate 128 0):Calls Try.prog 29 #[.slice none 0 0,.int .i64 2] w fun e w'=>∃g gb,e=.returned (.tuple #[.pointer (some ⟨g,0,none⟩),.int .i64 0])∧DB w' g gb 128 128 (.slice none 0 0) true 0 false 0 (.slice none 0 0)∧RB w' gb Z∧w.heap.size≤g∧w.heap.size≤gb∧Below w.heap.size w w':=by
 have hmk:∀w,(Instr.makeSlice 22 (.int .i64 128) (.int .i64 128)).run Try.prog w=.ok (.slice (some ⟨w.heap.size,0,none⟩) 128 128) (w.alloc (.cells (madeCells #[.int .u8 0] 128) 5)) :=
  fun w=>run_make_row' (P:=Try.prog) 22 5 (.int .u8 0) 1 Try.underlying22 infob rfl .i64 .i64 128 (by omega) (by omega) w
 have hz:madeCells #[Value.int .u8 0] 128=(bl Z).toArray:=by
  apply Array.toList_inj.1
  rw[toList_madeCells_one,hZ];unfold bl;simp
 rw[hz] at hmk
 have hcp:∀(w:World) (g:Nat),(Builtin.copy_ #[22,22] 3 #[.slice (some ⟨g,0,none⟩) 128 128,.slice none 0 0]).run Try.prog w=.ok (goInt 0) w:=fun w g =>
  run_copy_none (P:=Try.prog) w 22 22 3 5 _ _ 128 128 0 0 Try.underlying22 (by kernel_rfl) rfl
 have RR:=Lib.hid (show RB ((w.alloc (.cells (bl Z).toArray 5)).alloc (.cells (dsk w.heap.size 128 128 (.slice none 0 0) true 0 false 0 (.slice none 0 0)) 60)) w.heap.size Z from Bl.alloc (Bl.new_ w _ _) _)
 have RD:=Lib.hid (show DB ((w.alloc (.cells (bl Z).toArray 5)).alloc (.cells (dsk w.heap.size 128 128 (.slice none 0 0) true 0 false 0 (.slice none 0 0)) 60)) (w.heap.size+1) w.heap.size 128 128 (.slice none 0 0) true 0 false 0 (.slice none 0 0) from by have:=Bl.new_ (w.alloc (.cells (bl Z).toArray 5)) 60 (dsk w.heap.size 128 128 (.slice none 0 0) true 0 false 0 (.slice none 0 0));rwa [World.size_alloc] at this)
 have RW:=Lib.hid (show Below w.heap.size w ((w.alloc (.cells (bl Z).toArray 5)).alloc (.cells (dsk w.heap.size 128 128 (.slice none 0 0) true 0 false 0 (.slice none 0 0)) 60)) from((Below.refl _ w).alloc (Nat.le_refl _) _).alloc (by simp) _)
 obtain⟨ZC,hZC⟩:∃ZC,(bl Z).toArray=ZC:=⟨_,rfl⟩
 rw[hZC] at hmk RR RD RW
 clear hz hZ hZC
 go_enter Try.func29,Try.ntmps29
 go_wp2_with fail
 go_ret2
 exact⟨_,_,rfl,RD.out,RR.out,by omega,Nat.le_refl _,RW.out⟩
theorem RB.sl{w:World}{gb:Nat}{bs:List Nat}(h:RB w gb bs):Sl w (some ⟨gb,0,none⟩) bs.length (bl bs):=Sl.of_bl h 0 _ _ (by rw[bl_length]) fun k v hk=>by rw[Nat.zero_add];simpa using hk
section
variable {w:World} {g gb n cp:Nat} {H:Value} {up:Bool} {st:Int} {cs:Bool} {cw:Int} {ch:Value}
set_option maxRecDepth 100000 in
theorem sector_any{bs:List Nat}(h:DB w g gb n cp H up st cs cw ch)(m p:Nat)(hm:n=64*m)(hp:p < m)(hm9:m≤100000)(hcp:n≤cp):Calls Try.prog 41 #[.pointer (some ⟨g,0,none⟩),.int .i64 (p:Int)] w fun e w'=>e=.returned (.slice (some ⟨gb,64*p,none⟩) 64 (cp - 64*p))∧w=w':=by
 have c0:=h.c0
 obtain⟨a,ha⟩:∃a,a=p*64:=⟨_,rfl⟩
 have e1:(p:Int)*64=(a:Int):=by omega
 have e2:((p:Int)+1)*64=((a+64:Nat):Int):=by omega
 have han:a+64≤cp:=by omega
 have hn9:n≤6400000:=by omega
 rw[show 64*p=a by omega]
 clear h hm ha
 go_enter Try.func41,Try.ntmps41
 go_wp2_with fail
 rw[Nat.add_sub_cancel_left]
 go_ret
 exact⟨rfl,rfl⟩
end
end Go.Proofs.Ytbgkdbjineennaa.Dk
