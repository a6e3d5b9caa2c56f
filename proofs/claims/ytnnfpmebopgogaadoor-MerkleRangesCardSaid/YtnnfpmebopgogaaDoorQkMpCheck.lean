/- Joined texts. -/
import Derived.Deep.LoopGhost
import Derived.Test.YtnnfpmebopgogaaDoorQkMpUp0
import Derived.BigQuiet
import Derived.Test.YtnnfpmebopgogaaDoorQkGnCat
set_option linter.unusedVariables false
namespace Go.Proofs.YtnnfpmebopgogaaDoor.Mk
open Go.RowKit Go.Proofs.YtnnfpmebopgogaaDoor.Gn Go.Proofs.YtnnfpmebopgogaaDoor.Fd Go.Deep
structure PAny (w:World) (B:Option Addr) (m c:Nat) (P:List Rw):Prop where
 row:Sl w B m (P.map rwv)
 pcs:∀r∈P,Pc w r∧r.2.1≤1500
 few:m≤1500
 cap:m≤c
theorem PAny.below{w w':World}{B:Option Addr}{m c:Nat}{P:List Rw}(h:PAny w B m c P)(hb:Below w.heap.size w w'):PAny w' B m c P:=⟨h.row.below hb,fun r hr=>⟨(h.pcs r hr).1.below hb,(h.pcs r hr).2⟩,h.few,h.cap⟩
theorem PAny.len{w:World}{B:Option Addr}{m c:Nat}{P:List Rw}(h:PAny w B m c P):P.length=m:=by have:=h.row.1;rwa [List.length_map] at this
theorem PAny.p32{w:World}{B:Option Addr}{m c:Nat}{P:List Rw}(h:PAny w B m c P)(ha:all32 P=true):P32 w B m c P :=
 ⟨h.row,fun r hr=>⟨(h.pcs r hr).1,by
  unfold all32 at ha
  rw[List.all_eq_true] at ha
  have:=of_decide_eq_true (ha r hr)
  rw[←(h.pcs r hr).1.len];exact this⟩,h.cap,by have:=h.few;omega⟩
def OneQ(w:World)(e:Ending)(w':World):Prop:=e=.returned (.int .i64 1)∧Below w.heap.size w w'
def ErrQ(k:Int)(w:World)(e:Ending)(w':World):Prop:=e=.returned (.int .i64 k)∧Below w.heap.size w w'
end Go.Proofs.YtnnfpmebopgogaaDoor.Mk
namespace Go.Proofs.YtnnfpmebopgogaaDoor.Mk
open Go.RowKit Go.Proofs.YtnnfpmebopgogaaDoor.Gn Go.Proofs.YtnnfpmebopgogaaDoor.Fd Go.Deep
def dig(l:List Nat)(i:Nat):Bool:=decide (l.getD (i / 8) 0 / 2 ^ (i%8)%2=1)
def cnt(n:Int):Bool:=decide (0≤n) && decide (n≤4096)
theorem counted_any(n:Int)(w:World):Calls Tryd.prog 59 #[.int .i64 n] w fun e w'=>e=.returned (.bool (cnt n))∧w=w':=by
 by_cases h:0≤n
 ·have t0:decide (0≤n)=true:=decide_eq_true h
  have ec:cnt n=decide (n≤4096):=by unfold cnt;rw[t0];rfl
  rw[ec]
  clear ec h
  go_enter Tryd.func59,Tryd.ntmps59
  go_wp2_with fail
  go_ret
  exact⟨rfl,rfl⟩
 ·have t0:decide (0≤n)=false:=decide_eq_false h
  have ec:cnt n=false:=by unfold cnt;rw[t0];rfl
  rw[ec]
  clear ec h
  go_enter Tryd.func59,Tryd.ntmps59
  go_wp2_with fail
  go_ret
  exact⟨rfl,rfl⟩
theorem mapSize_any(n:Nat)(hn:n≤4096)(w:World):Calls Tryd.prog 60 #[.int .i64 (n:Int)] w fun e w'=>e=.returned (.int .i64 (((n+7) / 8:Nat):Int))∧w=w':=by
 obtain⟨m,hm⟩:∃m,(n+7) / 8=m:=⟨_,rfl⟩
 rw[hm]
 have e1:((n:Int)+8 - 1) / 8=(m:Int):=by omega
 clear hm
 go_enter Tryd.func60,Tryd.ntmps60
 go_wp2_with fail
 go_ret
 exact⟨congrArg (fun z=>Ending.returned (Value.int .i64 z)) e1,rfl⟩
theorem bit_any(p:Nat)(hp:p≤1000000)(w:World):Calls Tryd.prog 63 #[.int .i64 (p:Int)] w fun e w'=>e=.returned (.int .u8 ((2 ^ (p%8):Nat):Int))∧w=w':=by
 obtain⟨r,hr⟩:∃r,p%8=r:=⟨_,rfl⟩
 have e1:(p:Int)%8=(r:Int):=by omega
 have h8:r < 8:=by omega
 rw[hr]
 clear hr
 have:r=0∨r=1∨r=2∨r=3∨r=4∨r=5∨r=6∨r=7:=by omega
 rcases this with rfl|rfl|rfl|rfl|rfl|rfl|rfl|rfl
 all_goals
  clear h8
  go_enter Tryd.func63,Tryd.ntmps63
  go_wp2_with fail
  go_ret
  exact⟨rfl,rfl⟩
theorem and_bit:∀x:Nat,x < 256→∀r:Nat,r < 8→bits .and .u8 (x:Int) ((2 ^ r:Nat):Int)=((x / 2 ^ r%2*2 ^ r:Nat):Int):=by decide +kernel
theorem dig_and(x r:Nat):(((x / 2 ^ r%2*2 ^ r:Nat):Int) != 0)=decide (x / 2 ^ r%2=1):=by
 rcases Nat.mod_two_eq_zero_or_one (x / 2 ^ r) with h|h
 ·rw[h];simp
 ·rw[h]
  have:¬2 ^ r=0:=Nat.pos_iff_ne_zero.1 (Nat.two_pow_pos r)
  simp
  exact_mod_cast this
theorem marked_any{A:Option Addr}{n c:Nat}{l:List Nat}{w:World}(h:Pc w (A,n,c,l))(p:Nat)(hp:p < 8*n)(hn:n≤100000):Calls Tryd.prog 65 #[.slice A n c,.int .i64 (p:Int)] w fun e w'=>e=.returned (.bool (dig l p))∧Below w.heap.size w w':=by
 have hl:l.length=n:=h.len.symm
 obtain⟨q,hq⟩:∃q,p / 8=q:=⟨_,rfl⟩
 obtain⟨x,hx⟩:∃x,l.getD q 0=x:=⟨_,rfl⟩
 have hqn:q < n:=by omega
 have hr:Sl w A n (bl l):=by have:Sl w A l.length (bl l):=h.row;rwa [hl] at this
 obtain⟨ad,rfl,hc⟩:=hr.at_ hqn
 have hg:l[q]?=some x:=by rw[←hx,List.getD_eq_getElem?_getD,List.getElem?_eq_getElem (by omega)];rfl
 have hx8:x < 256:=h.lt x (List.mem_of_getElem? hg)
 have hcell:w.cell? (ad.add q)=some (.int .u8 (x:Int)):=by rw[hc,bl_get,hg];rfl
 have e1:(p:Int) / 8=(q:Int):=by omega
 have ew:IntKind.i64.wrap (q:Int)=(q:Int):=_root_.Go.IntWalk.i64_in _ (by omega)
 have ed:dig l p=decide (x / 2 ^ (p%8)%2=1):=by unfold dig;rw[hq,hx]
 have BC:=fun w=>(bit_any p (by omega) w).mono (R':=fun e w'=>e=.returned (.int .u8 ((2 ^ (p%8):Nat):Int))∧w'=w) fun _ _ h=>⟨h.1,h.2.symm⟩
 obtain⟨r,hr8⟩:∃r,p%8=r:=⟨_,rfl⟩
 have hr:r < 8:=by omega
 rw[hr8] at ed BC
 have AB:=and_bit x hx8 r hr
 have DA:=dig_and x r
 generalize((2 ^ r:Nat):Int)=B at AB BC
 generalize((x / 2 ^ r%2*2 ^ r:Nat):Int)=Y at AB DA
 rw[ed,←DA]
 have BC:=Lib.hid BC
 clear ed DA hr8 hr hx8 hg hx hq hl h hc
 go_enter Tryd.func65,Tryd.ntmps65
 go_wp2_with fail
 go_quiet ((go_at_call 63;exact Calls.quiet_of_same (BC.out _)))
 have D:=Lib.hid (below_drewN (Below.refl w.heap.size w) nq)
 generalize w.drewN nq=w0 at D ⊢
 go_wp2_with fail
 go_ret
 exact⟨rfl,D.out⟩
end Go.Proofs.YtnnfpmebopgogaaDoor.Mk
