/- Joined texts. -/
import Derived.Deep.LoopGhost
import Derived.Test.YtnnfpmebopgogaaDoorQsMpUp0
import Derived.BigQuiet
import Derived.Test.YtnnfpmebopgogaaDoorQsPuA
set_option linter.unusedVariables false
namespace Go.Proofs.YtnnfpmebopgogaaDoor.Mk
open Go.RowKit Go.Proofs.YtnnfpmebopgogaaDoor.Gn Go.Proofs.YtnnfpmebopgogaaDoor.Fd Go.Deep
structure PAny (w:World) (B:Option Addr) (m c:Nat) (P:List Rw):Prop where
 row:Sl w B m (P.map rwv)
 pcs:∀r∈P,Pc w r∧r.2.1≤1500
 few:m≤1500
 cap:m≤c
theorem PAny.below{w w':World}{B:Option Addr}{m c:Nat}{P:List Rw}(h:PAny w B m c P)(hb:Below w.heap.size w w'):PAny w' B m c P:=⟨h.row.below hb,fun r hr=>⟨(h.pcs r hr).1.below hb,(h.pcs r hr).2⟩,h.few,h.cap⟩
theorem PAny.len{w:World}{B:Option Addr}{m c:Nat}{P:List Rw}(h:PAny w B m c P):P.length=m:=by have:=h.row.1;rwa [List.length_map] at this
theorem PAny.p32{w:World}{B:Option Addr}{m c:Nat}{P:List Rw}(h:PAny w B m c P)(ha:all32 P=true):P32 w B m c P :=
 ⟨h.row,fun r hr=>⟨(h.pcs r hr).1,by
  unfold all32 at ha
  rw[List.all_eq_true] at ha
  have:=of_decide_eq_true (ha r hr)
  rw[←(h.pcs r hr).1.len];exact this⟩,h.cap,by have:=h.few;omega⟩
def OneQ(w:World)(e:Ending)(w':World):Prop:=e=.returned (.int .i64 1)∧Below w.heap.size w w'
def ErrQ(k:Int)(w:World)(e:Ending)(w':World):Prop:=e=.returned (.int .i64 k)∧Below w.heap.size w w'
end Go.Proofs.YtnnfpmebopgogaaDoor.Mk
namespace Go.Proofs.YtnnfpmebopgogaaDoor.Mk
open Go.RowKit Go.Proofs.YtnnfpmebopgogaaDoor.Gn Go.Proofs.YtnnfpmebopgogaaDoor.Fd Go.Deep
def dig(l:List Nat)(i:Nat):Bool:=decide (l.getD (i / 8) 0 / 2 ^ (i%8)%2=1)
def cnt(n:Int):Bool:=decide (0≤n) && decide (n≤4096)
theorem counted_any(n:Int)(w:World):Calls Tryd.prog 59 #[.int .i64 n] w fun e w'=>e=.returned (.bool (cnt n))∧w=w':=by
 by_cases h:0≤n
 ·have t0:decide (0≤n)=true:=decide_eq_true h
  have ec:cnt n=decide (n≤4096):=by unfold cnt;rw[t0];rfl
  rw[ec]
  clear ec h
  go_enter Tryd.func59,Tryd.ntmps59
  go_wp2_with fail
  go_ret
  exact⟨rfl,rfl⟩
 ·have t0:decide (0≤n)=false:=decide_eq_false h
  have ec:cnt n=false:=by unfold cnt;rw[t0];rfl
  rw[ec]
  clear ec h
  go_enter Tryd.func59,Tryd.ntmps59
  go_wp2_with fail
  go_ret
  exact⟨rfl,rfl⟩
theorem mapSize_any(n:Nat)(hn:n≤4096)(w:World):Calls Tryd.prog 60 #[.int .i64 (n:Int)] w fun e w'=>e=.returned (.int .i64 (((n+7) / 8:Nat):Int))∧w=w':=by
 obtain⟨m,hm⟩:∃m,(n+7) / 8=m:=⟨_,rfl⟩
 rw[hm]
 have e1:((n:Int)+8 - 1) / 8=(m:Int):=by omega
 clear hm
 go_enter Tryd.func60,Tryd.ntmps60
 go_wp2_with fail
 go_ret
 exact⟨congrArg (fun z=>Ending.returned (Value.int .i64 z)) e1,rfl⟩
theorem bit_any(p:Nat)(hp:p≤1000000)(w:World):Calls Tryd.prog 63 #[.int .i64 (p:Int)] w fun e w'=>e=.returned (.int .u8 ((2 ^ (p%8):Nat):Int))∧w=w':=by
 obtain⟨r,hr⟩:∃r,p%8=r:=⟨_,rfl⟩
 have e1:(p:Int)%8=(r:Int):=by omega
 have h8:r < 8:=by omega
 rw[hr]
 clear hr
 have:r=0∨r=1∨r=2∨r=3∨r=4∨r=5∨r=6∨r=7:=by omega
 rcases this with rfl|rfl|rfl|rfl|rfl|rfl|rfl|rfl
 all_goals
  clear h8
  go_enter Tryd.func63,Tryd.ntmps63
  go_wp2_with fail
  go_ret
  exact⟨rfl,rfl⟩
theorem and_bit:∀x:Nat,x < 256→∀r:Nat,r < 8→bits .and .u8 (x:Int) ((2 ^ r:Nat):Int)=((x / 2 ^ r%2*2 ^ r:Nat):Int):=by decide +kernel
theorem dig_and(x r:Nat):(((x / 2 ^ r%2*2 ^ r:Nat):Int) != 0)=decide (x / 2 ^ r%2=1):=by
 rcases Nat.mod_two_eq_zero_or_one (x / 2 ^ r) with h|h
 ·rw[h];simp
 ·rw[h]
  have:¬2 ^ r=0:=Nat.pos_iff_ne_zero.1 (Nat.two_pow_pos r)
  simp
  exact_mod_cast this
theorem marked_any{A:Option Addr}{n c:Nat}{l:List Nat}{w:World}(h:Pc w (A,n,c,l))(p:Nat)(hp:p < 8*n)(hn:n≤100000):Calls Tryd.prog 65 #[.slice A n c,.int .i64 (p:Int)] w fun e w'=>e=.returned (.bool (dig l p))∧Below w.heap.size w w':=by
 have hl:l.length=n:=h.len.symm
 obtain⟨q,hq⟩:∃q,p / 8=q:=⟨_,rfl⟩
 obtain⟨x,hx⟩:∃x,l.getD q 0=x:=⟨_,rfl⟩
 have hqn:q < n:=by omega
 have hr:Sl w A n (bl l):=by have:Sl w A l.length (bl l):=h.row;rwa [hl] at this
 obtain⟨ad,rfl,hc⟩:=hr.at_ hqn
 have hg:l[q]?=some x:=by rw[←hx,List.getD_eq_getElem?_getD,List.getElem?_eq_getElem (by omega)];rfl
 have hx8:x < 256:=h.lt x (List.mem_of_getElem? hg)
 have hcell:w.cell? (ad.add q)=some (.int .u8 (x:Int)):=by rw[hc,bl_get,hg];rfl
 have e1:(p:Int) / 8=(q:Int):=by omega
 have ew:IntKind.i64.wrap (q:Int)=(q:Int):=_root_.Go.IntWalk.i64_in _ (by omega)
 have ed:dig l p=decide (x / 2 ^ (p%8)%2=1):=by unfold dig;rw[hq,hx]
 have BC:=fun w=>(bit_any p (by omega) w).mono (R':=fun e w'=>e=.returned (.int .u8 ((2 ^ (p%8):Nat):Int))∧w'=w) fun _ _ h=>⟨h.1,h.2.symm⟩
 obtain⟨r,hr8⟩:∃r,p%8=r:=⟨_,rfl⟩
 have hr:r < 8:=by omega
 rw[hr8] at ed BC
 have AB:=and_bit x hx8 r hr
 have DA:=dig_and x r
 generalize((2 ^ r:Nat):Int)=B at AB BC
 generalize((x / 2 ^ r%2*2 ^ r:Nat):Int)=Y at AB DA
 rw[ed,←DA]
 have BC:=Lib.hid BC
 clear ed DA hr8 hr hx8 hg hx hq hl h hc
 go_enter Tryd.func65,Tryd.ntmps65
 go_wp2_with fail
 go_quiet ((go_at_call 63;exact Calls.quiet_of_same (BC.out _)))
 have D:=Lib.hid (below_drewN (Below.refl w.heap.size w) nq)
 generalize w.drewN nq=w0 at D ⊢
 go_wp2_with fail
 go_ret
 exact⟨rfl,D.out⟩
end Go.Proofs.YtnnfpmebopgogaaDoor.Mk
namespace Go.Proofs.YtnnfpmebopgogaaDoor.Mk
open Go.RowKit Go.Proofs.YtnnfpmebopgogaaDoor.Gn Go.Proofs.YtnnfpmebopgogaaDoor.Fd Go.Deep
set_option maxRecDepth 100000 in
set_option maxHeartbeats 2000000 in
theorem Empty_any(n k:Nat)(hn:n≤4096)(hk:k=(n+7) / 8)(w:World) :
  Calls Tryd.prog 31 #[.int .i64 (n:Int)] w fun e w'=>∃g,e=.returned (.tuple #[.slice (some ⟨g,0,none⟩) k k,.int .i64 0])∧Pc w' (some ⟨g,0,none⟩,k,k,List.replicate k 0)∧w.heap.size≤g∧Below w.heap.size w w':=by
 have hk9:k≤1000:=by omega
 have hmk:∀w,(Instr.makeSlice 22 (.int .i64 (k:Int)) (.int .i64 (k:Int))).run Tryd.prog w=.ok (.slice (some ⟨w.heap.size,0,none⟩) k k) (w.alloc (.cells (madeCells #[.int .u8 0] k) 5)) :=
  fun w=>run_make_row' (P:=Tryd.prog) 22 5 (.int .u8 0) 1 Tryd.underlying22 infob rfl .i64 .i64 k (by omega) (by omega) w
 have hZ:madeCells #[Value.int .u8 0] k=(bl (List.replicate k 0)).toArray:=by
  apply Array.toList_inj.1
  rw[toList_madeCells_one];unfold bl;simp
 rw[hZ] at hmk
 obtain⟨l,hl⟩:∃l,List.replicate k 0=l:=⟨_,rfl⟩
 have hll:l.length=k:=by rw[←hl];simp
 have PC:=Lib.hid (show Pc (w.alloc (.cells (bl l).toArray 5)) (some ⟨w.heap.size,0,none⟩,k,k,l) from
  ⟨hll.symm,Sl.of_bl (Bl.new_ w _ (bl l).toArray) 0 _ _ (by rw[bl_length]) (fun k v hk=>by rw[Nat.zero_add];simpa using hk),fun x hx=>by rw[←hl] at hx;rw[(List.mem_replicate.1 hx).2];decide,by show l.length≤k;omega,fun h=>by cases h⟩)
 have BB:=Lib.hid ((Below.refl w.heap.size w).alloc (Nat.le_refl _) (.cells (bl l).toArray 5))
 have t1:cnt (n:Int)=true:=by unfold cnt;rw[decide_eq_true (by omega),decide_eq_true (by omega)];rfl
 have CA:=fun w=>counted_any (n:Int) w
 have CB:=fun w=>mapSize_any n hn w
 rw[←hk] at CB
 rw[t1] at CA
 rw[hl] at hmk ⊢
 have CA:=Lib.hid CA
 have CB:=Lib.hid CB
 clear t1 hl hZ hk
 go_enter Tryd.func31,Tryd.ntmps31
 go_wp2_with (first|(go_at_call 59;(with_reducible refine(CA.out _).mono ?_);rintro e w1 ⟨rfl,rfl⟩)|(go_at_call 60;(with_reducible refine(CB.out _).mono ?_);rintro e w1 ⟨rfl,rfl⟩))
 go_ret2
 exact⟨_,rfl,PC.out,Nat.le_refl _,BB.out⟩
end Go.Proofs.YtnnfpmebopgogaaDoor.Mk
namespace Go.Proofs.YtnnfpmebopgogaaDoor.Mk
open Go.RowKit Go.Proofs.YtnnfpmebopgogaaDoor.Gn Go.Proofs.YtnnfpmebopgogaaDoor.Fd Go.Deep
def clr(l:List Nat)(n:Nat):Nat→Bool
 |0=>true
 |k+1=>clr l n k && !dig l (n+k)
theorem clr_false(l:List Nat)(n:Nat){k m:Nat}(h:k < m)(hd:dig l (n+k)=true):clr l n m=false:=by
 induction m with
 |zero=>omega
 |succ m ih =>
  unfold clr
  rcases Nat.lt_or_ge k m with h1|h1
  ·rw[ih h1];rfl
  ·obtain rfl:k=m:=by omega
   rw[hd];simp
def rightB(l:List Nat)(n:Nat):Bool:=decide (l.length=(n+7) / 8) && clr l n (8*l.length - n)
def RtRel(l:List Nat)(n:Nat)(w:World)(i:Value)(wr:World):Prop :=
 ∃k,n+k≤8*l.length∧i=.int .i64 ((n+k:Nat):Int)∧clr l n k=true∧Below w.heap.size w wr
set_option maxRecDepth 100000 in
set_option maxHeartbeats 2000000 in
theorem Right_any{A:Option Addr}{n c:Nat}{l:List Nat}{w:World}(h:Pc w (A,l.length,c,l))(hn:n≤4096)(hl:l.length≤100000) :
  Calls Tryd.prog 64 #[.slice A l.length c,.int .i64 (n:Int)] w fun e w'=>e=.returned (.bool (rightB l n))∧Below w.heap.size w w':=by
 have t1:cnt (n:Int)=true:=by unfold cnt;rw[decide_eq_true (by omega),decide_eq_true (by omega)];rfl
 have CA:=fun w=>counted_any (n:Int) w
 obtain⟨m,hm⟩:∃m,(n+7) / 8=m:=⟨_,rfl⟩
 have CB:=fun w=>mapSize_any n hn w
 rw[t1] at CA
 rw[hm] at CB
 have CA:=Lib.hid CA
 have CB:=Lib.hid CB
 obtain⟨L,hL⟩:∃L,l.length=L:=⟨_,rfl⟩
 clear t1
 by_cases hlm:L=m
 ·subst hlm
  have er:rightB l n=clr l n (8*L - n):=by unfold rightB;rw[hL,hm,decide_eq_true rfl];rfl
  have hnL:n≤8*L:=by omega
  rw[hL] at h hl
  have R0:=Lib.hid (show RtRel l n w (.int .i64 (n:Int)) w from⟨0,by omega,rfl,rfl,Below.refl _ _⟩)
  have MK:=Lib.hid (fun(p:Nat) (hp:p < 8*L) (wr:World) (hb:Below w.heap.size w wr)=>marked_any (h.below hb) p hp hl)
  rw[er,hL]
  have HLE:=Lib.hid hL
  clear er hL hm h
  go_enter Tryd.func64,Tryd.ntmps64
  go_wp2_with (first|(go_at_call 59;(with_reducible refine(CA.out _).mono ?_);rintro e w1 ⟨rfl,rfl⟩)|(go_at_call 60;(with_reducible refine(CB.out _).mono ?_);rintro e w1 ⟨rfl,rfl⟩))
  go_loopw [5] (fun i wr=>RtRel l n w i wr) (fun i _=>8*L - (intOf i).toNat)
  case atStart=>exact R0.out
  case round =>
   obtain⟨k,hk,rfl,hc,hb⟩:=hrel
   rw[HLE.out] at hk
   obtain⟨p,hp⟩:∃p,n+k=p:=⟨_,rfl⟩
   rw[hp] at hk ⊢
   by_cases hlt:p < 8*L
   ·have C:=MK.out p hlt _ hb
    rcases hd:dig l p with _|_
    ·rw[hd] at C
     have C:=Lib.hid C
     have HB:=Lib.hid hb
     have NX:=Lib.hid (show clr l n (k+1)=true by unfold clr;rw[hc,hp,hd];rfl)
     clear hb hc hd
     have HP:=Lib.hid hp
     clear hp
     go_wp2_with (go_at_call 65;(with_reducible refine C.out.mono ?_);rintro e w1 ⟨rfl,b1⟩;have D1:=Lib.hid (HB.out.trans (b1.mono HB.out.size));clear b1)
     refine⟨⟨k+1,by rw[HLE.out];have:=HP.out;omega,by rw[show n+(k+1)=p+1 by have:=HP.out;omega];go_num,NX.out,D1.out⟩,by simp[intOf];omega⟩
    ·rw[hd] at C
     have C:=Lib.hid C
     have HB:=Lib.hid hb
     have NX:=Lib.hid (show clr l n (8*L - n)=false from clr_false l n (k:=k) (by omega) (by rw[hp];exact hd))
     clear hb hc hd hp
     go_wp2_with (go_at_call 65;(with_reducible refine C.out.mono ?_);rintro e w1 ⟨rfl,b1⟩;have D1:=Lib.hid (HB.out.trans (b1.mono HB.out.size));clear b1)
     go_ret
     exact⟨by rw[NX.out];rfl,D1.out⟩
   ·have HB:=Lib.hid hb
    have NX:=Lib.hid (show clr l n (8*L - n)=true by rw[show 8*L - n=k by omega];exact hc)
    clear hb hc hp
    go_wp2_with fail
    go_ret
    exact⟨by rw[NX.out];rfl,HB.out⟩
 ·have er:rightB l n=false:=by unfold rightB;rw[hL,hm,decide_eq_false hlm];rfl
  rw[er,hL]
  clear er hL hm h
  go_enter Tryd.func64,Tryd.ntmps64
  go_wp2_with (first|(go_at_call 59;(with_reducible refine(CA.out _).mono ?_);rintro e w1 ⟨rfl,rfl⟩)|(go_at_call 60;(with_reducible refine(CB.out _).mono ?_);rintro e w1 ⟨rfl,rfl⟩))
  go_ret
  exact⟨rfl,Below.refl _ _⟩
end Go.Proofs.YtnnfpmebopgogaaDoor.Mk
