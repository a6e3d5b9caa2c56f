/- Joined texts. -/
import Derived.Test.YteblmphohhbgcaaQaWrMth
set_option linter.unusedVariables false
namespace Go.Proofs.Yteblmphohhbgcaa.Mt
open Go.RowKit Go.Proofs.Yteblmphohhbgcaa.Gn Go.Proofs.Yteblmphohhbgcaa.Fd Go.Proofs.Yteblmphohhbgcaa.Wr Go.Deep
def pl:Value→Bool
 |.int .u64 _=>false
 |.int .u8 _=>false
 |_=>true
def Pn(w:World)(k:Nat):Prop:=∀ad v,ad.block=k→w.cell? ad=some v→pl v=true
theorem Pn.of{w:World}{k:Nat}{t:TypeId}{cs:Array Value}(h:Bl w k t cs)(hp:∀(i:Nat) v,cs[i]?=some v→pl v=true):Pn w k:=by
 rintro⟨b,o,s⟩ v rfl hc
 unfold Bl at h
 unfold World.cell? at hc
 rw[h] at hc
 simp only at hc
 split at hc
 ·cases hc
 ·exact hp o v hc
theorem flat_mid(t:Tv)(ts:List Tv):∃n,(flat (t :: ts))[1]?=some (.int .u64 n):=by
 cases t;exact⟨_,rfl⟩
mutual
theorem lies_pn {w : World} {S : Nat → Prop} (hS : ∀ k, S k → Pn w k) : ∀ {v : Tv}, Ok w v → lies (fun k => ¬ S k) v
  | .mk k n r A c ks, .mk hn hr hs hm hc h0 hks => by
    rw [lies]
    refine ⟨fun ad e hp hk => ?_, fun ad e hp hk => ?_, liess_pn hS hks⟩
    · obtain ⟨x, xs, hx⟩ : ∃ x xs, r.2.2.2 = x :: xs := by
        cases h : r.2.2.2 with
        | nil => rw [h] at hp; exact absurd hp (by simp)
        | cons x xs => exact ⟨x, xs, rfl⟩
      obtain ⟨ad', e', hc⟩ := hr.row.2 0 (.int .u8 (x : Int)) (by rw [hx]; rfl)
      rw [e] at e'; cases e'
      have := hS _ hk _ _ (Gn.add_block ad 0) hc
      cases this
    · cases ks with
      | nil => exact absurd hp (by simp)
      | cons t ts =>
        obtain ⟨m, hm'⟩ := flat_mid t ts
        obtain ⟨ad', e', hc⟩ := hs.2 1 _ hm'
        rw [e] at e'; cases e'
        have := hS _ hk _ _ (Gn.add_block ad 1) hc
        cases this
theorem liess_pn{w:World}{S:Nat→Prop}(hS:∀k,S k→Pn w k):∀ {ks:List Tv},(∀t∈ks,Ok w t)→liess (fun k=>¬S k) ks
 | [],_=>by rw[liess];trivial
 |x :: xs,h=>by
  rw[liess]
  exact⟨lies_pn hS (h x List.mem_cons_self),liess_pn hS (fun t ht=>h t (List.mem_cons_of_mem _ ht))⟩
end
structure Tc (S:Nat→Prop) (w w':World):Prop where
 os:w'.os=w.os
 tape:w'.tape=w.tape
 output:w'.output=w.output
 size:w.heap.size≤w'.heap.size
 block:∀k,k < w.heap.size→¬S k→w'.heap[k]?=w.heap[k]?
theorem Tc.refl(S:Nat→Prop)(w:World):Tc S w w:=⟨rfl,rfl,rfl,Nat.le_refl _,fun _ _ _=>rfl⟩
theorem Tc.trans{S:Nat→Prop}{a b c:World}(h:Tc S a b)(k:Tc S b c):Tc S a c :=
 ⟨k.os.trans h.os,k.tape.trans h.tape,k.output.trans h.output,Nat.le_trans h.size k.size,fun i hi hn=>(k.block i (Nat.lt_of_lt_of_le hi h.size) hn).trans (h.block i hi hn)⟩
theorem Tc.mono{S T:Nat→Prop}{a b:World}(h:Tc S a b)(hST:∀k,k < a.heap.size→S k→T k):Tc T a b :=
 ⟨h.os,h.tape,h.output,h.size,fun i hi hn=>h.block i hi (fun hs=>hn (hST i hi hs))⟩
theorem Tc.grown{a b:World}{g:Nat}(h:a.grownBy b (some g)):Tc (fun k=>k=g) a b :=
 ⟨h.os,h.tape,h.output,h.size,fun i hi hn=>h.block i hi (fun e=>hn (Option.some.inj e))⟩
theorem Tc.below{S:Nat→Prop}{a b:World}(h:Below a.heap.size a b):Tc S a b :=
 ⟨h.os,h.tape,h.output,h.size,fun i hi _=>h.block i hi⟩
theorem Tc.to_below{S:Nat→Prop}{a b:World}{B:Nat}(h:Tc S a b)(hB:B≤a.heap.size)(hS:∀k,S k→B≤k):Below B a b :=
 ⟨h.os,h.tape,h.output,h.size,fun i hi=>h.block i (Nat.lt_of_lt_of_le hi hB) (fun hs=>by have:=hS i hs;omega)⟩
theorem Tc.bl{S:Nat→Prop}{a b:World}{k:Nat}{t:TypeId}{cs:Array Value}(h:Tc S a b)(hb:Bl a k t cs)(hn:¬S k):Bl b k t cs :=
 (h.block k hb.lt hn).trans hb
theorem Tc.set{S:Nat→Prop}{a b:World}(h:Tc S a b){p:Addr}(hp:S p.block∨a.heap.size≤p.block)(u:Value):Tc S a (b.setCell p u):=by
 have h1:(World.grownBy b (b.setCell p u) (some p.block)):=only_set (World.grownBy.refl b _) (Or.inl rfl) u
 refine⟨h1.os.trans h.os,h1.tape.trans h.tape,h1.output.trans h.output,Nat.le_trans h.size h1.size,fun i hi hn=>(h1.block i (Nat.lt_of_lt_of_le hi h.size) (fun e=>?_)).trans (h.block i hi hn)⟩
 have e:=Option.some.inj e
 rcases hp with hp|hp
 ·exact hn (e▸hp)
 ·omega
theorem Tc.pc{S:Nat→Prop}{w w':World}(h:Tc S w w')(hS:∀k,S k→Pn w k){r:Rw}(hr:Pc w r):Pc w' r :=
 ⟨hr.len,Sl.kept hr.row (fun ad e hn hlt=>h.block _ hlt (fun hs=>by
  obtain⟨x,xs,hx⟩:∃x xs,r.2.2.2=x :: xs:=by
   cases h:r.2.2.2 with
   |nil=>rw[h] at hn;exact absurd hn (by simp)
   |cons x xs=>exact⟨x,xs,rfl⟩
  obtain⟨ad',e',hc⟩:=hr.row.2 0 (.int .u8 (x:Int)) (by rw[hx];rfl)
  rw[e] at e';cases e'
  have:=hS _ hs _ _ (Gn.add_block ad 0) hc
  cases this)),hr.lt,hr.cap,hr.nil⟩
theorem Tc.ok{S:Nat→Prop}{w w':World}(h:Tc S w w')(hS:∀k,S k→Pn w k){v:Tv}(hv:Ok w v):Ok w' v :=
 hv.kept (lies_pn hS hv) (fun k hk hlt=>h.block k hlt hk)
theorem fl_touch{S:Nat→Prop}{w w':World}{q:Nat}{wh:Bool}{ks:List Tv}(hf:Fl w q wh ks)(h:Tc S w w')(hS:∀k,S k→Pn w k)(hq:¬S q):Fl w' q wh ks:=by
 obtain⟨⟨A,c,h1,h2,h3,h4,h5⟩,hok,haw⟩:=hf
 refine⟨⟨A,c,h.bl h1 hq,Sl.kept h2 (fun ad e hn hlt=>h.block _ hlt (fun hs=>?_)),h3,h4,h5⟩,fun t ht=>h.ok hS (hok t ht),haw⟩
 cases ks with
 |nil=>exact absurd hn (by simp)
 |cons t ts =>
  obtain⟨m,hm'⟩:=flat_mid t ts
  obtain⟨ad',e',hc⟩:=h2.2 1 _ hm'
  rw[e] at e';cases e'
  have:=hS _ hs _ _ (Gn.add_block ad 1) hc
  cases this
end Go.Proofs.Yteblmphohhbgcaa.Mt
namespace Go.Proofs.Yteblmphohhbgcaa.Mt
open Go.RowKit Go.Proofs.Yteblmphohhbgcaa.Gn Go.Proofs.Yteblmphohhbgcaa.Fd Go.Proofs.Yteblmphohhbgcaa.Wr Go.Deep
theorem reads_yes{w:World}{g q:Nat}{s b:Value}(h:Bl w g 94 #[.pointer (some ⟨q,0,none⟩),s,b]):Calls Try.prog 65 #[.pointer (some ⟨g,0,none⟩)] w fun e w'=>e=.returned (.bool true)∧w=w':=by
 have r0:w.cell? ⟨g,0,none⟩=some (.pointer (some ⟨q,0,none⟩)):=h.cell_ rfl
 clear h
 go_enter Try.func65,Try.ntmps65
 go_wp2_with fail
 go_ret
 exact⟨rfl,rfl⟩
theorem reads_no{w:World}{g:Nat}{s b:Value}(h:Bl w g 94 #[.pointer none,s,b]):Calls Try.prog 65 #[.pointer (some ⟨g,0,none⟩)] w fun e w'=>e=.returned (.bool false)∧w=w':=by
 have r0:w.cell? ⟨g,0,none⟩=some (.pointer none):=h.cell_ rfl
 clear h
 go_enter Try.func65,Try.ntmps65
 go_wp2_with fail
 go_ret
 exact⟨rfl,rfl⟩
theorem must_any{w:World}{g:Nat}{p s:Value}{wr:Bool}(h:Bl w g 94 #[p,s,.bool wr])(b:Bool):Calls Try.prog 69 #[.pointer (some ⟨g,0,none⟩),.bool b] w fun e w'=>e=.returned (.tuple #[])∧Bl w' g 94 #[p,s,.bool (wr || !b)]∧w.grownBy w' (some g):=by
 have H:=Lib.hid h
 have r2:w.cell? ⟨g,2,none⟩=some (.bool wr):=h.cell_ rfl
 have f2:=h.frozen 2
 clear h
 cases wr <;> cases b <;>
 ·go_enter Try.func69,Try.ntmps69
  go_wp2_with fail
  first|go_end0|refine bodyPost_ret (results_none rfl _ _ _) rfl ?_
  exact⟨rfl,H.out.set_ 2 _,only_set (World.grownBy.refl w _) (Or.inl rfl) _⟩
structure Bx (w:World) (bb:Nat) (t:TypeId) (cs:Array Value):Prop where
 bl:Bl w bb t cs
 pn:∀(i:Nat) v,cs[i]?=some v→pl v=true
theorem Bx.set{w:World}{bb:Nat}{t:TypeId}{cs:Array Value}(h:Bx w bb t cs)(o:Nat)(v:Value)(hv:pl v=true):Bx (w.setCell ⟨bb,o,none⟩ v) bb t (cs.setIfInBounds o v) :=
 ⟨h.bl.set_ o v,fun i u hu=>by
  rw[Array.getElem?_setIfInBounds] at hu
  split at hu
  ·split at hu
   ·cases hu;exact hv
   ·cases hu
  ·exact h.pn i u hu⟩
theorem Bx.pnk{w:World}{bb:Nat}{t:TypeId}{cs:Array Value}(h:Bx w bb t cs):Pn w bb:=Pn.of h.bl h.pn
theorem Bx.tc{S:Nat→Prop}{a b:World}{k:Nat}{t:TypeId}{cs:Array Value}(h:Bx a k t cs)(hc:Tc S a b)(hn:¬S k):Bx b k t cs:=⟨hc.bl h.bl hn,h.pn⟩
structure Gt (w:World) (q bb o:Nat) (t:TypeId) (cs:Array Value) (v:Value) (wh:Bool) (ks:List Tv) (w':World):Prop where
 fl:Fl w' q wh ks
 bx:Bx w' bb t (cs.setIfInBounds o v)
 tc:Tc (fun k=>k=q∨k=bb) w w'
theorem gt_of{w w1:World}{q bb o:Nat}{t:TypeId}{cs:Array Value}{v:Value}{wh:Bool}{ks:List Tv}(hv:pl v=true)(hb:Bx w bb t cs)(hq:bb≠q)(h:Lf w1 q wh ks w):Gt w q bb o t cs v wh ks (w1.setCell ⟨bb,o,none⟩ v):=by
 have hx:=hb.tc (Tc.grown h.grown) (fun e=>hq e)
 have ht:Tc (fun k=>k=bb) w1 (w1.setCell ⟨bb,o,none⟩ v):=(Tc.refl (fun k=>k=bb) w1).set (p:=⟨bb,o,none⟩) (.inl rfl) v
 refine⟨fl_touch h.fl ht (fun k e=>e▸hx.pnk) (fun e=>hq e.symm),hx.set o v hv,?_⟩
 exact Tc.set ((Tc.grown h.grown).mono (fun k _ e=>.inl e)) (p:=⟨bb,o,none⟩) (.inl (.inr rfl)) v
set_option maxHeartbeats 4000000 in
theorem number_r{w:World}{g q bb o:Nat}{s b v0:Value}{t:TypeId}{cs:Array Value}{wh:Bool}{ks:List Tv}(hp:Bl w g 94 #[.pointer (some ⟨q,0,none⟩),s,b])(hf:Fl w q wh ks)(hz:∀t∈ks,sz t≤1000000)(hb:Bx w bb t cs)(ho:cs[o]?=some v0)(hq:bb≠q)(x y:Int):Calls Try.prog 51 #[.pointer (some ⟨g,0,none⟩),.pointer (some ⟨bb,o,none⟩),.int .i64 x,.int .i64 y] w fun e w'=>e=.returned (.tuple #[])∧Gt w q bb o t cs (.int .i64 (nm (nxt (FI x y) 1 wh ks).1:Int)) (nxt (FI x y) 1 wh ks).2.1 (nxt (FI x y) 1 wh ks).2.2 w':=by
 have CR:=Lib.hid (reads_yes hp)
 have CI:=Lib.hid (Int_any_ hf hz x y)
 have r0:w.cell? ⟨g,0,none⟩=some (.pointer (some ⟨q,0,none⟩)):=hp.cell_ rfl
 have HB:=Lib.hid hb
 have HO:=Lib.hid ho
 have HQ:=Lib.hid hq
 obtain⟨X,hX⟩:∃X,nxt (FI x y) 1 wh ks=X:=⟨_,rfl⟩
 rw[hX] at CI ⊢
 clear hX hp hf hz hb ho hq
 go_enter Try.func51,Try.ntmps51
 go_wp2_with (first
  |(go_at_call 65;(refine CR.out.mono ?_);rintro e w1 ⟨rfl,rfl⟩)
  |(go_at_call 76;(refine CI.out.mono ?_);rintro e w1 ⟨rfl,hl⟩;have L1:=Lib.hid hl;have B1:=Lib.hid (HB.out.tc (Tc.grown hl.grown) (fun e=>HQ.out e));have c1:=B1.out.bl.cell_ HO.out;have f1:=B1.out.bl.frozen o;clear hl))
 first|go_end0|refine bodyPost_ret (results_none rfl _ _ _) rfl ?_
 exact⟨rfl,gt_of rfl HB.out HQ.out L1.out⟩
set_option maxHeartbeats 4000000 in
theorem bytes_r{w:World}{g q bb o:Nat}{s b v0:Value}{t:TypeId}{cs:Array Value}{wh:Bool}{ks:List Tv}(hp:Bl w g 94 #[.pointer (some ⟨q,0,none⟩),s,b])(hf:Fl w q wh ks)(hz:∀t∈ks,sz t≤1000000)(hb:Bx w bb t cs)(ho:cs[o]?=some v0)(hq:bb≠q)(x y:Int):Calls Try.prog 52 #[.pointer (some ⟨g,0,none⟩),.pointer (some ⟨bb,o,none⟩),.int .i64 x,.int .i64 y] w fun e w'=>e=.returned (.tuple #[])∧∃A c,Gt w q bb o t cs (.slice A (rw_ (nxt (FB x y) 2 wh ks).1).2.1 c) (nxt (FB x y) 2 wh ks).2.1 (nxt (FB x y) 2 wh ks).2.2 w'∧Pc w' (A,(rw_ (nxt (FB x y) 2 wh ks).1).2.1,c,(rw_ (nxt (FB x y) 2 wh ks).1).2.2.2):=by
 have CR:=Lib.hid (reads_yes hp)
 have CI:=Lib.hid (Bytes_any_ hf hz x y)
 have r0:w.cell? ⟨g,0,none⟩=some (.pointer (some ⟨q,0,none⟩)):=hp.cell_ rfl
 have HB:=Lib.hid hb
 have HO:=Lib.hid ho
 have HQ:=Lib.hid hq
 obtain⟨X,hX⟩:∃X,nxt (FB x y) 2 wh ks=X:=⟨_,rfl⟩
 rw[hX] at CI ⊢
 clear hX hp hf hz hb ho hq
 go_enter Try.func52,Try.ntmps52
 go_wp2_with (first
  |(go_at_call 65;(refine CR.out.mono ?_);rintro e w1 ⟨rfl,rfl⟩)
  |(go_at_call 77;(refine CI.out.mono ?_);rintro e w1 ⟨⟨A,c,rfl,hpc⟩,hl⟩;have L1:=Lib.hid hl;have P1:=Lib.hid hpc;have B1:=Lib.hid (HB.out.tc (Tc.grown hl.grown) (fun e=>HQ.out e));have c1:=B1.out.bl.cell_ HO.out;have f1:=B1.out.bl.frozen o;clear hl hpc))
 first|go_end0|refine bodyPost_ret (results_none rfl _ _ _) rfl ?_
 exact⟨rfl,_,_,gt_of rfl HB.out HQ.out L1.out,((Tc.refl (fun k=>k=bb) _).set (p:=⟨bb,o,none⟩) (.inl rfl) _).pc (fun k e=>e▸B1.out.pnk) P1.out⟩
end Go.Proofs.Yteblmphohhbgcaa.Mt
