/- Joined texts. -/
import Derived.Test.YteblmphohhbgcaaGreatQmWrNxtList
import Derived.Test.YteblmphohhbgcaaGreatQmWrCopyB
import Derived.Test.YteblmphohhbgcaaGreatQmGnA
import Derived.Deep.RegionHeld
import Derived.Deep.LoopGhost
import Derived.Test.YteblmphohhbgcaaGreatQmWrCopy
set_option linter.unusedVariables false
namespace Go.Proofs.YteblmphohhbgcaaGreat.Mt
open Go.RowKit Go.Proofs.YteblmphohhbgcaaGreat.Gn Go.Proofs.YteblmphohhbgcaaGreat.Fd Go.Proofs.YteblmphohhbgcaaGreat.Wr Go.Deep
def pl:Value→Bool
 |.int .u64 _=>false
 |.int .u8 _=>false
 |_=>true
def Pn(w:World)(k:Nat):Prop:=∀ad v,ad.block=k→w.cell? ad=some v→pl v=true
theorem Pn.of{w:World}{k:Nat}{t:TypeId}{cs:Array Value}(h:Bl w k t cs)(hp:∀(i:Nat) v,cs[i]?=some v→pl v=true):Pn w k:=by
 rintro⟨b,o,s⟩ v rfl hc
 unfold Bl at h
 unfold World.cell? at hc
 rw[h] at hc
 simp only at hc
 split at hc
 ·cases hc
 ·exact hp o v hc
theorem flat_mid(t:Tv)(ts:List Tv):∃n,(flat (t :: ts))[1]?=some (.int .u64 n):=by
 cases t;exact⟨_,rfl⟩
mutual
theorem lies_pn {w : World} {S : Nat → Prop} (hS : ∀ k, S k → Pn w k) : ∀ {v : Tv}, Ok w v → lies (fun k => ¬ S k) v
  | .mk k n r A c ks, .mk hn hr hs hm hc h0 hks => by
    rw [lies]
    refine ⟨fun ad e hp hk => ?_, fun ad e hp hk => ?_, liess_pn hS hks⟩
    · obtain ⟨x, xs, hx⟩ : ∃ x xs, r.2.2.2 = x :: xs := by
        cases h : r.2.2.2 with
        | nil => rw [h] at hp; exact absurd hp (by simp)
        | cons x xs => exact ⟨x, xs, rfl⟩
      obtain ⟨ad', e', hc⟩ := hr.row.2 0 (.int .u8 (x : Int)) (by rw [hx]; rfl)
      rw [e] at e'; cases e'
      have := hS _ hk _ _ (Gn.add_block ad 0) hc
      cases this
    · cases ks with
      | nil => exact absurd hp (by simp)
      | cons t ts =>
        obtain ⟨m, hm'⟩ := flat_mid t ts
        obtain ⟨ad', e', hc⟩ := hs.2 1 _ hm'
        rw [e] at e'; cases e'
        have := hS _ hk _ _ (Gn.add_block ad 1) hc
        cases this
theorem liess_pn{w:World}{S:Nat→Prop}(hS:∀k,S k→Pn w k):∀ {ks:List Tv},(∀t∈ks,Ok w t)→liess (fun k=>¬S k) ks
 | [],_=>by rw[liess];trivial
 |x :: xs,h=>by
  rw[liess]
  exact⟨lies_pn hS (h x List.mem_cons_self),liess_pn hS (fun t ht=>h t (List.mem_cons_of_mem _ ht))⟩
end
structure Tc (S:Nat→Prop) (w w':World):Prop where
 os:w'.os=w.os
 tape:w'.tape=w.tape
 output:w'.output=w.output
 size:w.heap.size≤w'.heap.size
 block:∀k,k < w.heap.size→¬S k→w'.heap[k]?=w.heap[k]?
theorem Tc.refl(S:Nat→Prop)(w:World):Tc S w w:=⟨rfl,rfl,rfl,Nat.le_refl _,fun _ _ _=>rfl⟩
theorem Tc.trans{S:Nat→Prop}{a b c:World}(h:Tc S a b)(k:Tc S b c):Tc S a c :=
 ⟨k.os.trans h.os,k.tape.trans h.tape,k.output.trans h.output,Nat.le_trans h.size k.size,fun i hi hn=>(k.block i (Nat.lt_of_lt_of_le hi h.size) hn).trans (h.block i hi hn)⟩
theorem Tc.mono{S T:Nat→Prop}{a b:World}(h:Tc S a b)(hST:∀k,k < a.heap.size→S k→T k):Tc T a b :=
 ⟨h.os,h.tape,h.output,h.size,fun i hi hn=>h.block i hi (fun hs=>hn (hST i hi hs))⟩
theorem Tc.grown{a b:World}{g:Nat}(h:a.grownBy b (some g)):Tc (fun k=>k=g) a b :=
 ⟨h.os,h.tape,h.output,h.size,fun i hi hn=>h.block i hi (fun e=>hn (Option.some.inj e))⟩
theorem Tc.below{S:Nat→Prop}{a b:World}(h:Below a.heap.size a b):Tc S a b :=
 ⟨h.os,h.tape,h.output,h.size,fun i hi _=>h.block i hi⟩
theorem Tc.to_below{S:Nat→Prop}{a b:World}{B:Nat}(h:Tc S a b)(hB:B≤a.heap.size)(hS:∀k,S k→B≤k):Below B a b :=
 ⟨h.os,h.tape,h.output,h.size,fun i hi=>h.block i (Nat.lt_of_lt_of_le hi hB) (fun hs=>by have:=hS i hs;omega)⟩
theorem Tc.bl{S:Nat→Prop}{a b:World}{k:Nat}{t:TypeId}{cs:Array Value}(h:Tc S a b)(hb:Bl a k t cs)(hn:¬S k):Bl b k t cs :=
 (h.block k hb.lt hn).trans hb
theorem Tc.set{S:Nat→Prop}{a b:World}(h:Tc S a b){p:Addr}(hp:S p.block∨a.heap.size≤p.block)(u:Value):Tc S a (b.setCell p u):=by
 have h1:(World.grownBy b (b.setCell p u) (some p.block)):=only_set (World.grownBy.refl b _) (Or.inl rfl) u
 refine⟨h1.os.trans h.os,h1.tape.trans h.tape,h1.output.trans h.output,Nat.le_trans h.size h1.size,fun i hi hn=>(h1.block i (Nat.lt_of_lt_of_le hi h.size) (fun e=>?_)).trans (h.block i hi hn)⟩
 have e:=Option.some.inj e
 rcases hp with hp|hp
 ·exact hn (e▸hp)
 ·omega
theorem Tc.pc{S:Nat→Prop}{w w':World}(h:Tc S w w')(hS:∀k,S k→Pn w k){r:Rw}(hr:Pc w r):Pc w' r :=
 ⟨hr.len,Sl.kept hr.row (fun ad e hn hlt=>h.block _ hlt (fun hs=>by
  obtain⟨x,xs,hx⟩:∃x xs,r.2.2.2=x :: xs:=by
   cases h:r.2.2.2 with
   |nil=>rw[h] at hn;exact absurd hn (by simp)
   |cons x xs=>exact⟨x,xs,rfl⟩
  obtain⟨ad',e',hc⟩:=hr.row.2 0 (.int .u8 (x:Int)) (by rw[hx];rfl)
  rw[e] at e';cases e'
  have:=hS _ hs _ _ (Gn.add_block ad 0) hc
  cases this)),hr.lt,hr.cap,hr.nil⟩
theorem Tc.ok{S:Nat→Prop}{w w':World}(h:Tc S w w')(hS:∀k,S k→Pn w k){v:Tv}(hv:Ok w v):Ok w' v :=
 hv.kept (lies_pn hS hv) (fun k hk hlt=>h.block k hlt hk)
theorem fl_touch{S:Nat→Prop}{w w':World}{q:Nat}{wh:Bool}{ks:List Tv}(hf:Fl w q wh ks)(h:Tc S w w')(hS:∀k,S k→Pn w k)(hq:¬S q):Fl w' q wh ks:=by
 obtain⟨⟨A,c,h1,h2,h3,h4,h5⟩,hok,haw⟩:=hf
 refine⟨⟨A,c,h.bl h1 hq,Sl.kept h2 (fun ad e hn hlt=>h.block _ hlt (fun hs=>?_)),h3,h4,h5⟩,fun t ht=>h.ok hS (hok t ht),haw⟩
 cases ks with
 |nil=>exact absurd hn (by simp)
 |cons t ts =>
  obtain⟨m,hm'⟩:=flat_mid t ts
  obtain⟨ad',e',hc⟩:=h2.2 1 _ hm'
  rw[e] at e';cases e'
  have:=hS _ hs _ _ (Gn.add_block ad 1) hc
  cases this
end Go.Proofs.YteblmphohhbgcaaGreat.Mt
namespace Go.Proofs.YteblmphohhbgcaaGreat.Mt
open Go.RowKit Go.Proofs.YteblmphohhbgcaaGreat.Gn Go.Proofs.YteblmphohhbgcaaGreat.Fd Go.Proofs.YteblmphohhbgcaaGreat.Wr Go.Deep
theorem reads_yes{w:World}{g q:Nat}{s b:Value}(h:Bl w g 116 #[.pointer (some ⟨q,0,none⟩),s,b]):Calls Tryz.prog 91 #[.pointer (some ⟨g,0,none⟩)] w fun e w'=>e=.returned (.bool true)∧w=w':=by
 have r0:w.cell? ⟨g,0,none⟩=some (.pointer (some ⟨q,0,none⟩)):=h.cell_ rfl
 clear h
 go_enter Tryz.func91,Tryz.ntmps91
 go_wp2_with fail
 go_ret
 exact⟨rfl,rfl⟩
theorem reads_no{w:World}{g:Nat}{s b:Value}(h:Bl w g 116 #[.pointer none,s,b]):Calls Tryz.prog 91 #[.pointer (some ⟨g,0,none⟩)] w fun e w'=>e=.returned (.bool false)∧w=w':=by
 have r0:w.cell? ⟨g,0,none⟩=some (.pointer none):=h.cell_ rfl
 clear h
 go_enter Tryz.func91,Tryz.ntmps91
 go_wp2_with fail
 go_ret
 exact⟨rfl,rfl⟩
theorem must_any{w:World}{g:Nat}{p s:Value}{wr:Bool}(h:Bl w g 116 #[p,s,.bool wr])(b:Bool):Calls Tryz.prog 100 #[.pointer (some ⟨g,0,none⟩),.bool b] w fun e w'=>e=.returned (.tuple #[])∧Bl w' g 116 #[p,s,.bool (wr || !b)]∧w.grownBy w' (some g):=by
 have H:=Lib.hid h
 have r2:w.cell? ⟨g,2,none⟩=some (.bool wr):=h.cell_ rfl
 have f2:=h.frozen 2
 clear h
 cases wr <;> cases b <;>
 ·go_enter Tryz.func100,Tryz.ntmps100
  go_wp2_with fail
  first|go_end0|refine bodyPost_ret (results_none rfl _ _ _) rfl ?_
  exact⟨rfl,H.out.set_ 2 _,only_set (World.grownBy.refl w _) (Or.inl rfl) _⟩
structure Bx (w:World) (bb:Nat) (t:TypeId) (cs:Array Value):Prop where
 bl:Bl w bb t cs
 pn:∀(i:Nat) v,cs[i]?=some v→pl v=true
theorem Bx.set{w:World}{bb:Nat}{t:TypeId}{cs:Array Value}(h:Bx w bb t cs)(o:Nat)(v:Value)(hv:pl v=true):Bx (w.setCell ⟨bb,o,none⟩ v) bb t (cs.setIfInBounds o v) :=
 ⟨h.bl.set_ o v,fun i u hu=>by
  rw[Array.getElem?_setIfInBounds] at hu
  split at hu
  ·split at hu
   ·cases hu;exact hv
   ·cases hu
  ·exact h.pn i u hu⟩
theorem Bx.pnk{w:World}{bb:Nat}{t:TypeId}{cs:Array Value}(h:Bx w bb t cs):Pn w bb:=Pn.of h.bl h.pn
theorem Bx.tc{S:Nat→Prop}{a b:World}{k:Nat}{t:TypeId}{cs:Array Value}(h:Bx a k t cs)(hc:Tc S a b)(hn:¬S k):Bx b k t cs:=⟨hc.bl h.bl hn,h.pn⟩
structure Gt (w:World) (q bb o:Nat) (t:TypeId) (cs:Array Value) (v:Value) (wh:Bool) (ks:List Tv) (w':World):Prop where
 fl:Fl w' q wh ks
 bx:Bx w' bb t (cs.setIfInBounds o v)
 tc:Tc (fun k=>k=q∨k=bb) w w'
theorem gt_of{w w1:World}{q bb o:Nat}{t:TypeId}{cs:Array Value}{v:Value}{wh:Bool}{ks:List Tv}(hv:pl v=true)(hb:Bx w bb t cs)(hq:bb≠q)(h:Lf w1 q wh ks w):Gt w q bb o t cs v wh ks (w1.setCell ⟨bb,o,none⟩ v):=by
 have hx:=hb.tc (Tc.grown h.grown) (fun e=>hq e)
 have ht:Tc (fun k=>k=bb) w1 (w1.setCell ⟨bb,o,none⟩ v):=(Tc.refl (fun k=>k=bb) w1).set (p:=⟨bb,o,none⟩) (.inl rfl) v
 refine⟨fl_touch h.fl ht (fun k e=>e▸hx.pnk) (fun e=>hq e.symm),hx.set o v hv,?_⟩
 exact Tc.set ((Tc.grown h.grown).mono (fun k _ e=>.inl e)) (p:=⟨bb,o,none⟩) (.inl (.inr rfl)) v
set_option maxHeartbeats 4000000 in
theorem number_r{w:World}{g q bb o:Nat}{s b v0:Value}{t:TypeId}{cs:Array Value}{wh:Bool}{ks:List Tv}(hp:Bl w g 116 #[.pointer (some ⟨q,0,none⟩),s,b])(hf:Fl w q wh ks)(hz:∀t∈ks,sz t≤1000000)(hb:Bx w bb t cs)(ho:cs[o]?=some v0)(hq:bb≠q)(x y:Int):Calls Tryz.prog 84 #[.pointer (some ⟨g,0,none⟩),.pointer (some ⟨bb,o,none⟩),.int .i64 x,.int .i64 y] w fun e w'=>e=.returned (.tuple #[])∧Gt w q bb o t cs (.int .i64 (nm (nxt (FI x y) 1 wh ks).1:Int)) (nxt (FI x y) 1 wh ks).2.1 (nxt (FI x y) 1 wh ks).2.2 w':=by
 have CR:=Lib.hid (reads_yes hp)
 have CI:=Lib.hid (Int_any_ hf hz x y)
 have r0:w.cell? ⟨g,0,none⟩=some (.pointer (some ⟨q,0,none⟩)):=hp.cell_ rfl
 have HB:=Lib.hid hb
 have HO:=Lib.hid ho
 have HQ:=Lib.hid hq
 obtain⟨X,hX⟩:∃X,nxt (FI x y) 1 wh ks=X:=⟨_,rfl⟩
 rw[hX] at CI ⊢
 clear hX hp hf hz hb ho hq
 go_enter Tryz.func84,Tryz.ntmps84
 go_wp2_with (first
  |(go_at_call 91;(refine CR.out.mono ?_);rintro e w1 ⟨rfl,rfl⟩)
  |(go_at_call 111;(refine CI.out.mono ?_);rintro e w1 ⟨rfl,hl⟩;have L1:=Lib.hid hl;have B1:=Lib.hid (HB.out.tc (Tc.grown hl.grown) (fun e=>HQ.out e));have c1:=B1.out.bl.cell_ HO.out;have f1:=B1.out.bl.frozen o;clear hl))
 first|go_end0|refine bodyPost_ret (results_none rfl _ _ _) rfl ?_
 exact⟨rfl,gt_of rfl HB.out HQ.out L1.out⟩
set_option maxHeartbeats 4000000 in
theorem bytes_r{w:World}{g q bb o:Nat}{s b v0:Value}{t:TypeId}{cs:Array Value}{wh:Bool}{ks:List Tv}(hp:Bl w g 116 #[.pointer (some ⟨q,0,none⟩),s,b])(hf:Fl w q wh ks)(hz:∀t∈ks,sz t≤1000000)(hb:Bx w bb t cs)(ho:cs[o]?=some v0)(hq:bb≠q)(x y:Int):Calls Tryz.prog 85 #[.pointer (some ⟨g,0,none⟩),.pointer (some ⟨bb,o,none⟩),.int .i64 x,.int .i64 y] w fun e w'=>e=.returned (.tuple #[])∧∃A c,Gt w q bb o t cs (.slice A (rw_ (nxt (FB x y) 2 wh ks).1).2.1 c) (nxt (FB x y) 2 wh ks).2.1 (nxt (FB x y) 2 wh ks).2.2 w'∧Pc w' (A,(rw_ (nxt (FB x y) 2 wh ks).1).2.1,c,(rw_ (nxt (FB x y) 2 wh ks).1).2.2.2):=by
 have CR:=Lib.hid (reads_yes hp)
 have CI:=Lib.hid (Bytes_any_ hf hz x y)
 have r0:w.cell? ⟨g,0,none⟩=some (.pointer (some ⟨q,0,none⟩)):=hp.cell_ rfl
 have HB:=Lib.hid hb
 have HO:=Lib.hid ho
 have HQ:=Lib.hid hq
 obtain⟨X,hX⟩:∃X,nxt (FB x y) 2 wh ks=X:=⟨_,rfl⟩
 rw[hX] at CI ⊢
 clear hX hp hf hz hb ho hq
 go_enter Tryz.func85,Tryz.ntmps85
 go_wp2_with (first
  |(go_at_call 91;(refine CR.out.mono ?_);rintro e w1 ⟨rfl,rfl⟩)
  |(go_at_call 113;(refine CI.out.mono ?_);rintro e w1 ⟨⟨A,c,rfl,hpc⟩,hl⟩;have L1:=Lib.hid hl;have P1:=Lib.hid hpc;have B1:=Lib.hid (HB.out.tc (Tc.grown hl.grown) (fun e=>HQ.out e));have c1:=B1.out.bl.cell_ HO.out;have f1:=B1.out.bl.frozen o;clear hl hpc))
 first|go_end0|refine bodyPost_ret (results_none rfl _ _ _) rfl ?_
 exact⟨rfl,_,_,gt_of rfl HB.out HQ.out L1.out,((Tc.refl (fun k=>k=bb) _).set (p:=⟨bb,o,none⟩) (.inl rfl) _).pc (fun k e=>e▸B1.out.pnk) P1.out⟩
end Go.Proofs.YteblmphohhbgcaaGreat.Mt
namespace Go.Proofs.YteblmphohhbgcaaGreat.Wr
open Go.RowKit Go.Proofs.YteblmphohhbgcaaGreat.Gn Go.Proofs.YteblmphohhbgcaaGreat.Fd Go.Deep
theorem kid_cells{ks:List Tv}{A:Option Addr}{w wr:World}{k:Nat}{K:Int}{N:Nat}{r:Rw}{B:Option Addr}{cc:Nat}{us:List Tv}(hs:Sl w A (4*ks.length) (flat ks))(ht:ks[k]?=some (.mk K N r B cc us))(hb:Below w.heap.size w wr) :
  ∃ad,A=some ad∧∃ae,ad.add (k*4)=ae∧wr.cell? ae=some (.int .i64 K)∧wr.cell? ⟨ae.block,ae.off+1,none⟩=some (.int .u64 N)∧wr.cell? ⟨ae.block,ae.off+2,none⟩=some (.slice r.1 r.2.1 r.2.2.1)∧wr.cell? ⟨ae.block,ae.off+3,none⟩=some (.slice B us.length cc)∧ae.block < w.heap.size:=by
 obtain⟨ad,e,hcl⟩:=kid_at hs ht hb
 obtain⟨ad',e',hcl'⟩:=kid_at hs ht (Below.refl _ w)
 rw[e] at e';cases e'
 refine⟨ad,e,_,rfl,?_⟩
 rw[Nat.mul_comm] at hcl hcl'
 refine⟨by have:=hcl 0 _ rfl;rwa [ad_zero] at this,by have:=hcl 1 _ rfl;rwa [ad_pos _ (by decide)] at this,by have:=hcl 2 _ rfl;rwa [ad_pos _ (by decide)] at this,by have:=hcl 3 _ rfl;rwa [ad_pos _ (by decide)] at this,?_⟩
 have h:=cell_lt (hcl' 0 _ rfl)
 rw[add_block,add_block] at h
 rwa [add_block]
end Go.Proofs.YteblmphohhbgcaaGreat.Wr
namespace Go.Proofs.YteblmphohhbgcaaGreat.Wr
open Go.RowKit Go.Proofs.YteblmphohhbgcaaGreat.Gn Go.Proofs.YteblmphohhbgcaaGreat.Fd Go.Deep
mutual
def rn:Nd→Bool
 |.mk k n b ks=>if k=1 then decide (b.length=0) && decide (ks.length=0) else if k=2 then decide (n=0) && decide (ks.length=0) else if k=3 then decide (n=0) && decide (b.length=0) && rns ks else false
def rns:List Nd→Bool
 | []=>true
 |t :: ts=>rn t && rns ts
end
mutual
def wbn:Nd→List Nat
 |.mk k n b ks=>k.toNat :: (if k=1 then cb n else if k=2 then cb b.length ++ b else cb ks.length ++ wbns ks)
def wbns:List Nd→List Nat
 | []=>[]
 |t :: ts=>wbn t ++ wbns ts
end
mutual
def wgn(b c d:Int):Nd→Int→Int→Int × Int
 |.mk K n l ks,deep,k =>
  if b < deep then(23,k) else if k=c then(24,k) else
  if K=2 then(if d < (l.length:Int) then(2,k+1) else(0,k+1)) else
  if K=3 then wgns b c d ks (deep+1) (k+1) else(0,k+1)
def wgns(b c d:Int):List Nd→Int→Int→Int × Int
 | [],_,k=>(0,k)
 |t :: ts,deep,k=>if(wgn b c d t deep k).1=0 then wgns b c d ts deep (wgn b c d t deep k).2 else wgn b c d t deep k
end
mutual
def szn:Nd→Nat
 |.mk _ _ l ks=>1+l.length+szns ks
def szns:List Nd→Nat
 | []=>0
 |t :: ts=>szn t+szns ts
end
mutual
theorem nd_all{w:World}:∀(v:Tv),Ok w v→right v=rn (nd v)∧wb v=wbn (nd v)∧(∀b c d p k,wgo b c d v p k=wgn b c d (nd v) p k)∧sz v=szn (nd v)
 |.mk K n r A c ks=>fun h=>by
  cases h with
  |mk hn hr hs hm hc h0 hk =>
  obtain⟨h1,h2,h3,h4⟩:=nds_all ks hk
  have hl:r.2.1=r.2.2.2.length:=hr.len
  have hk':ks.length=(nds ks).length:=(nds_len ks).symm
  refine⟨?_,?_,fun b c d p k=>?_,?_⟩
  ·rw[right,nd,rn,h1,hl,hk']
  ·rw[wb,nd,wbn,h2,hl,hk']
  ·rw[wgo,nd,wgn,h3,hl]
  ·rw[sz,nd,szn,h4,hl]
theorem nds_all{w:World}:∀(ks:List Tv),(∀t∈ks,Ok w t)→rights ks=rns (nds ks)∧wbs ks=wbns (nds ks)∧(∀b c d p k,wgos b c d ks p k=wgns b c d (nds ks) p k)∧szs ks=szns (nds ks)
 | []=>fun _=>⟨rfl,rfl,fun _ _ _ _ _=>rfl,rfl⟩
 |t :: ts=>fun h=>by
  obtain⟨h1,h2,h3,h4⟩:=nd_all t (h t List.mem_cons_self)
  obtain⟨g1,g2,g3,g4⟩:=nds_all ts (fun x hx=>h x (List.mem_cons_of_mem _ hx))
  refine⟨?_,?_,fun b c d p k=>?_,?_⟩
  ·rw[rights,nds,rns,h1,g1]
  ·rw[wbs,nds,wbns,h2,g2]
  ·rw[wgos,nds,wgns,h3,g3]
  ·rw[szs,nds,szns,h4,g4]
end
def wern(a b c d:Int)(v:Nd):Int:=if rn v=true then(if(wgn b c d v 1 0).1=0 then(if a < ((wbn v).length:Int) then 2 else 0) else(wgn b c d v 1 0).1) else 21
theorem wer_nd{w:World}{v:Tv}(h:Ok w v)(a b c d:Int):wer a b c d v=wern a b c d (nd v):=by
 obtain⟨h1,h2,h3,-⟩:=nd_all v h
 rw[wer,wern,h1,h2,h3]
end Go.Proofs.YteblmphohhbgcaaGreat.Wr
namespace Go.Proofs.YteblmphohhbgcaaGreat.Wr
open Go.RowKit Go.Proofs.YteblmphohhbgcaaGreat.Gn Go.Proofs.YteblmphohhbgcaaGreat.Fd Go.Deep
mutual
def dpn:Nd→Nat
 |.mk _ _ _ ks=>dpns ks+1
def dpns:List Nd→Nat
 | []=>0
 |t :: ts=>if dpns ts < dpn t then dpn t else dpns ts
end
mutual
def ctn:Nd→Nat
 |.mk _ _ _ ks=>1+ctns ks
def ctns:List Nd→Nat
 | []=>0
 |t :: ts=>ctn t+ctns ts
end
mutual
def ean:Nd→Nat
 |.mk _ _ b ks=>if b.length < eans ks then eans ks else b.length
def eans:List Nd→Nat
 | []=>0
 |t :: ts=>if eans ts < ean t then ean t else eans ts
end
theorem ean_leaf(k:Int)(n:Nat)(b:List Nat):ean (.mk k n b [])=b.length:=by rw[ean,eans,if_neg (Nat.not_lt_zero _)]
theorem dpns_snoc(l:List Nd)(t:Nd):dpns (l ++ [t])=if dpns l < dpn t then dpn t else dpns l:=by
 induction l with
 |nil=>simp only[List.nil_append,dpns]
 |cons x l ih=>rw[List.cons_append,dpns,ih,dpns];split <;> split <;> (try split) <;> (try split) <;> omega
theorem eans_snoc(l:List Nd)(t:Nd):eans (l ++ [t])=if eans l < ean t then ean t else eans l:=by
 induction l with
 |nil=>simp only[List.nil_append,eans]
 |cons x l ih=>rw[List.cons_append,eans,ih,eans];split <;> split <;> (try split) <;> (try split) <;> omega
theorem ctns_snoc(l:List Nd)(t:Nd):ctns (l ++ [t])=ctns l+ctn t:=by
 induction l with
 |nil=>simp only[List.nil_append,ctns];omega
 |cons x l ih=>rw[List.cons_append,ctns,ih,ctns];omega
mutual
theorem rdv_in(b c d:Int)(l:List Nat)(d0:0≤d):∀(f:Nat) (deep:Int) (p:Nat) (k:Int) {v:Nd} {p':Nat} {k':Int},k≤c→rdv b c d l f deep p k=.good v p' k'→(dpn v:Int)+deep≤b+1∧k'=k+ctn v∧k'≤c∧(ean v:Int)≤d
 |0,deep,p,k,v,p',k',_,h=>by rw[rdv] at h;cases h
 |f+1,deep,p,k,v,p',k',hk,h=>by
  rw[rdv] at h
  split at h
  ·cases h
  split at h
  ·cases h
  rename_i hb
  split at h
  ·cases h
  rename_i hc
  split at h
  ·split at h
   ·cases h;simp only[dpn,dpns,ctn,ctns,ean,eans,List.length_nil];refine⟨by omega,by omega,by omega,by simpa using d0⟩
   ·cases h
  split at h
  ·split at h
   ·split at h
    ·cases h
    rename_i hd
    split at h
    ·cases h
    ·cases h
     rw[ean_leaf]
     simp only[dpn,dpns,ctn,ctns]
     refine⟨by omega,by omega,by omega,?_⟩
     rw[List.length_take]
     omega
   ·cases h
  split at h
  ·split at h
   ·split at h
    ·cases h
    ·rename_i vs q k2 h2
     have h3:=rds_in b c d l d0 f _ _ _ _ _ (by omega) h2
     cases h
     simp only[dpns,ctns,eans] at h3
     simp only[dpn,ctn,ean,List.length_nil]
     have e:(ctns []:Nat)=0:=rfl
     refine⟨by omega,by omega,h3.2.2.1,?_⟩
     split <;> omega
   ·cases h
  ·cases h
theorem rds_in(b c d:Int)(l:List Nat)(d0:0≤d):∀(f n:Nat) (deep:Int) (p:Nat) (k:Int) (acc:List Nd) {v:List Nd} {p':Nat} {k':Int},k≤c→rds b c d l f n deep p k acc=.good v p' k'→((dpns acc:Int)+deep≤b+1→deep≤b+1→(dpns v:Int)+deep≤b+1)∧k'+ctns acc=k+ctns v∧k'≤c∧((eans acc:Int)≤d→(eans v:Int)≤d)
 |0,n,deep,p,k,acc,v,p',k',_,h=>by rw[rds] at h;cases h
 |f+1,n,deep,p,k,acc,v,p',k',hk,h=>by
  rw[rds] at h
  split at h
  ·cases h;exact⟨fun h _=>h,rfl,hk,fun h=>h⟩
  ·split at h
   ·cases h
   ·rename_i v2 q k2 h2
    have h3:=rdv_in b c d l d0 f _ _ _ hk h2
    have h4:=rds_in b c d l d0 f _ _ _ _ _ h3.2.2.1 h
    rw[dpns_snoc,ctns_snoc,eans_snoc] at h4
    refine⟨fun h5 h6=>h4.1 ?_ h6,by omega,h4.2.2.1,fun h5=>h4.2.2.2 ?_⟩
    ·split <;> omega
    ·split <;> omega
end
end Go.Proofs.YteblmphohhbgcaaGreat.Wr
