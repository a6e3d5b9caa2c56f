/- Joined texts. -/
import Derived.WalkMore
import Derived.Test.YtnnfpmebopgogaaDoorQsMkG
set_option linter.unusedVariables false
namespace Go.Proofs.YtnnfpmebopgogaaDoor.Mk
open Go.RowKit Go.Proofs.YtnnfpmebopgogaaDoor.Gn Go.Proofs.YtnnfpmebopgogaaDoor.Fd Go.Deep
set_option maxRecDepth 100000 in
theorem wayTo_one(w:World):Calls Tryd.prog 46 #[.int .i64 1,.int .i64 0] w fun e w'=>e=.returned (.slice none 0 0)∧w=w':=by
 go_enter Tryd.func46,Tryd.ntmps46
 go_wp2_with fail
 go_loopw [0,5] (fun n v wr=>n=.int .i64 1∧v=.slice none 0 0∧w=wr) (fun _ _ _=>0)
 case atStart=>exact⟨rfl,rfl,rfl⟩
 case round =>
  obtain⟨rfl,rfl,rfl⟩:=hrel
  go_wp2_with fail
  go_ret
  exact⟨rfl,rfl⟩
theorem two_l(w:World)(r s:Lw):Sl (w.alloc (.cells #[lwv r,lwv s] 23)) (some ⟨w.heap.size,0,none⟩) 2 ([r,s].map lwv):=Sl.new_ w 23 [lwv r,lwv s]
theorem digests_pair{R A:Option Addr}{c d:Nat}{w:World} :
  Calls Tryd.prog 45 #[.slice (some ⟨w.heap.size+1,0,none⟩) 2 2] ((w.alloc (.cells #[.slice R 32 c,.slice A 32 d] 22)).alloc (.cells #[.slice (some ⟨w.heap.size,0,none⟩) 2 2,.slice none 0 0] 23)) fun e w'=>e=.returned (.bool true)∧Below w.heap.size w w':=by
 have B1:=(Below.refl w.heap.size w).alloc (Nat.le_refl _) (.cells #[.slice R 32 c,.slice A 32 d] 22)
 have S1:Sl (w.alloc (.cells #[.slice R 32 c,.slice A 32 d] 22)) (some ⟨w.heap.size,0,none⟩) 2 ([((R,32,c,[]):Rw),(A,32,d,[])].map rwv):=two_sl w _ _
 rw[show w.heap.size+1=(w.alloc (.cells #[.slice R 32 c,.slice A 32 d] 22)).heap.size by simp]
 generalize w.alloc (.cells #[.slice R 32 c,.slice A 32 d] 22)=w1 at B1 S1 ⊢
 have B2:=(Below.refl w1.heap.size w1).alloc (Nat.le_refl _) (.cells #[.slice (some ⟨w.heap.size,0,none⟩) 2 2,.slice none 0 0] 23)
 have:=digests_any [(some ⟨w.heap.size,0,none⟩,2,2,[(R,32,c,[]),(A,32,d,[])]),(none,0,0,[])] _ 2 2 _ (two_l w1 _ _) (by
  intro l hl
  simp at hl
  rcases hl with rfl|rfl
  ·exact⟨rfl,S1.below B2,show 2≤1000000 by decide⟩
  ·exact⟨rfl,⟨rfl,fun k v h=>by simp at h⟩,show 0≤1000000 by decide⟩) (by
  intro l hl r hr
  simp at hl
  rcases hl with rfl|rfl
  ·simp at hr;rcases hr with rfl|rfl <;> exact(by decide:32≤1099511627776)
  ·simp at hr) (by decide)
 rw[show allAll [(some ⟨w.heap.size,0,none⟩,2,2,[((R,32,c,[]):Rw),(A,32,d,[])]),(none,0,0,[])]=true by simp[allAll,all32]] at this
 refine this.mono fun e w' h=>?_
 obtain⟨h1,rfl⟩:=h
 exact⟨h1,B1.trans (B2.mono B1.size)⟩
set_option maxRecDepth 100000 in
set_option maxHeartbeats 2000000 in
theorem Check_one{R A:Option Addr}{c d:Nat}{lr x:List Nat}{w:World}(hr:Pc w (R,32,c,lr))(h:Pc w (A,32,d,x))(ts:Sh.Tab w) :
  Calls Tryd.prog 16 #[.slice R 32 c,.int .i64 1,.int .i64 0,.slice A 32 d,.slice none 0 0] w fun e w'=>e=.returned (.int .i64 (if lr=rootOf 1 x then 0 else 50))∧Below w.heap.size w w':=by
 have C1:=Lib.hid (digests_pair (R:=R) (A:=A) (c:=c) (d:=d) (w:=w))
 have C2:=Lib.hid (fun(w1:World) (hb:Below w.heap.size w w1)=>compared_any 1 (by decide) (hr.below hb) (h.below hb) (by have:=h.len;show x.length < _;have e:x.length=32:=h.len.symm;omega) (ts.below hb))
 have C2':=Lib.hid (fun(w1:World) (hb:Below w.heap.size w w1)=>show Calls Tryd.prog 48 #[.slice R 32 c,.int .i64 1,.slice A 32 d] w1 fun e w'=>e=.returned (.int .i64 (if lr=rootOf 1 x then 0 else 50))∧Below w1.heap.size w1 w' from C2.out w1 hb)
 generalize(if lr=rootOf 1 x then(0:Int) else 50)=Z at C2' ⊢
 clear C2 hr h ts
 go_enter Tryd.func16,Tryd.ntmps16
 go_wp2_with (go_at_call 45;(with_reducible refine C1.out.mono ?_);rintro e w1 ⟨rfl,b1⟩;have D1:=Lib.hid b1;clear b1 C1)
 go_wp2_with (go_at_call 46;(with_reducible refine(wayTo_one _).mono ?_);rintro e w2 ⟨rfl,rfl⟩)
 go_loopw [12,51] (fun t i wr=>t=.slice A 32 d∧i=.int .i64 0∧w1=wr) (fun _ _ _=>0)
 case atStart=>exact⟨rfl,rfl,rfl⟩
 case round =>
  obtain⟨rfl,rfl,rfl⟩:=hrel
  have C3:=Lib.hid (C2'.out _ D1.out)
  go_wp2_with (go_at_call 48;(with_reducible refine C3.out.mono ?_);rintro e w3 ⟨rfl,b3⟩;have D3:=Lib.hid (D1.out.trans (b3.mono D1.out.size));clear b3)
  go_ret
  exact⟨rfl,D3.out⟩
end Go.Proofs.YtnnfpmebopgogaaDoor.Mk
namespace Go.Proofs.YtnnfpmebopgogaaDoor.Mk
open Go.RowKit Go.Proofs.YtnnfpmebopgogaaDoor.Gn Go.Proofs.YtnnfpmebopgogaaDoor.Fd Go.Deep
def MissAt(l:List Nat)(n m:Nat):Prop:=m≤n∧(∀j,j < m→dig l j=true)∧(m < n→dig l m=false)
def MsRel(l:List Nat)(n:Nat)(w:World)(i:Value)(wr:World):Prop :=
 ∃k,k≤n∧i=.int .i64 (k:Int)∧(∀j,j < k→dig l j=true)∧Below w.heap.size w wr
def MissR(l:List Nat)(n:Nat)(e:Ending):Bool→Prop
 |true=>∃m,e=.returned (.int .i64 ((m:Nat):Int))∧MissAt l n m
 |false=>e=.returned (.int .i64 (-1))
def MissQ(l:List Nat)(n:Nat)(w:World)(e:Ending)(w':World):Prop:=MissR l n e (rightB l n)∧Below w.heap.size w w'
set_option maxRecDepth 100000 in
set_option maxHeartbeats 2000000 in
theorem Missing_any{A:Option Addr}{n c:Nat}{l:List Nat}{w:World}(h:Pc w (A,l.length,c,l))(hn:n≤4096)(hl:l.length≤100000) :
  Calls Tryd.prog 33 #[.slice A l.length c,.int .i64 (n:Int)] w (MissQ l n w):=by
 have C:=Right_any h hn hl
 unfold MissQ
 rcases hr:rightB l n with _|_
 ·rw[hr] at C
  have C:=Lib.hid C
  obtain⟨L,hL⟩:∃L,l.length=L:=⟨_,rfl⟩
  rw[hL] at C ⊢
  clear hL hr hl h
  go_enter Tryd.func33,Tryd.ntmps33
  go_wp2_with (go_at_call 64;(with_reducible refine C.out.mono ?_);rintro e w1 ⟨rfl,b1⟩;have D1:=Lib.hid b1;clear b1)
  go_ret
  exact⟨rfl,D1.out⟩
 ·have hlen:=right_len hr
  rw[hr] at C
  have C:=Lib.hid C
  have MK:=Lib.hid (fun(p:Nat) (hp:p < n) (wr:World) (hb:Below w.heap.size w wr)=>marked_any (h.below hb) p (by omega) hl)
  obtain⟨L,hL⟩:∃L,l.length=L:=⟨_,rfl⟩
  rw[hL] at C MK ⊢
  clear hL hr hl h hlen
  go_enter Tryd.func33,Tryd.ntmps33
  go_wp2_with (go_at_call 64;(with_reducible refine C.out.mono ?_);rintro e w1 ⟨rfl,b1⟩;have R0:=Lib.hid (show MsRel l n w (.int .i64 0) w1 from⟨0,Nat.zero_le _,rfl,fun j hj=>by omega,b1⟩);clear b1 C)
  go_loopw [11] (fun i wr=>MsRel l n w i wr) (fun i _=>n - (intOf i).toNat)
  case atStart=>exact R0.out
  case round =>
   obtain⟨k,hk,rfl,hc,hb⟩:=hrel
   by_cases hlt:k < n
   ·have C:=MK.out k hlt _ hb
    rcases hd:dig l k with _|_
    ·rw[hd] at C
     have C:=Lib.hid C
     have HB:=Lib.hid hb
     have NX:=Lib.hid (show MissAt l n k from⟨hk,hc,fun _=>hd⟩)
     clear hb hc hd
     go_wp2_with (go_at_call 65;(with_reducible refine C.out.mono ?_);rintro e w2 ⟨rfl,b1⟩;have D1:=Lib.hid (HB.out.trans (b1.mono HB.out.size));clear b1)
     go_ret
     exact⟨⟨k,rfl,NX.out⟩,D1.out⟩
    ·rw[hd] at C
     have C:=Lib.hid C
     have HB:=Lib.hid hb
     have NX:=Lib.hid (show ∀j,j < k+1→dig l j=true from fun j hj=>by
      rcases Nat.lt_or_ge j k with h1|h1
      ·exact hc j h1
      ·obtain rfl:j=k:=by omega
       exact hd)
     clear hb hc hd
     go_wp2_with (go_at_call 65;(with_reducible refine C.out.mono ?_);rintro e w2 ⟨rfl,b1⟩;have D1:=Lib.hid (HB.out.trans (b1.mono HB.out.size));clear b1)
     refine⟨⟨k+1,by omega,by go_num,NX.out,D1.out⟩,by simp[intOf];omega⟩
   ·obtain rfl:k=n:=by omega
    have HB:=Lib.hid hb
    have NX:=Lib.hid (show MissAt l k k from⟨hk,hc,fun h=>by omega⟩)
    clear hb hc
    go_wp2_with fail
    go_ret
    exact⟨⟨k,rfl,NX.out⟩,HB.out⟩
end Go.Proofs.YtnnfpmebopgogaaDoor.Mk
