/- Joined texts. -/
import Derived.Shelf.Bits.Mul64
import Derived.Shelf.Spec.BitsCarry
import Derived.Deep.QuietTactic
import Derived.BigQuiet
import Derived.Outline
import Derived.BigRegion
import Derived.RegionTactic
import Derived.ChangeAlike
import Derived.Deep.LoopGhost
import Derived.Deep.RegionHeld3
import Derived.Test.YtnnfpmebopgogaaDoorProg
import Derived.Test.YtnnfpmebopgogaaDoorQsGnA
import Derived.Deep.OwnRows
import Derived.Lib.SmallJoins
import Derived.Lib.AppendZeros
set_option linter.unusedVariables false

namespace Go.Proofs.YtnnfpmebopgogaaDoor.Fd
end Go.Proofs.YtnnfpmebopgogaaDoor.Fd
namespace Go.Proofs.YtnnfpmebopgogaaDoor.Fd
structure E5 where
 a:Nat
 b:Nat
 c:Nat
 d:Nat
 e:Nat
namespace E5
end E5
namespace E5
def sub(x y:E5):E5:=⟨x.a+(4503599627370458 - y.a),x.b+(4503599627370494 - y.b),x.c+(4503599627370494 - y.c),x.d+(4503599627370494 - y.d),x.e+(4503599627370494 - y.e)⟩
end E5
end Go.Proofs.YtnnfpmebopgogaaDoor.Fd
namespace Go.Proofs.YtnnfpmebopgogaaDoor.Fd
def le(l:List Nat):Nat:=l.foldr (fun x a=>x+256*a) 0
theorem le_nil:le []=0:=rfl
theorem le_cons(x:Nat)(l:List Nat):le (x :: l)=x+256*le l:=rfl
def by_(n:Nat)(k:Nat):List Nat:=(List.range k).map fun i=>n / 256 ^ i%256
theorem by_lt(n k:Nat):∀x∈by_ n k,x < 256:=by
 intro x hx
 simp only[by_,List.mem_map] at hx
 obtain⟨i,-, rfl⟩:=hx
 exact Nat.mod_lt _ (by decide)
theorem by_length(n k:Nat):(by_ n k).length=k:=by simp[by_]
theorem by_succ(n k:Nat):by_ n (k+1)=(n%256) :: by_ (n / 256) k:=by
 unfold by_
 rw[List.range_succ_eq_map,List.map_cons,List.map_map]
 congr 1
 ·rw[Nat.pow_zero,Nat.div_one]
 ·apply List.map_congr_left
  intro i _
  show n / 256 ^ (i+1)%256=n / 256 / 256 ^ i%256
  rw[Nat.div_div_eq_div_mul,Nat.pow_succ,Nat.mul_comm (256 ^ i)]
theorem le_by:∀(k n:Nat),le (by_ n k)=n%256 ^ k:=by
 intro k
 induction k with
 |zero=>intro n;simp[by_,le_nil,Nat.mod_one]
 |succ k ih =>
  intro n
  rw[by_succ,le_cons,ih,Nat.pow_succ,Nat.mul_comm (256 ^ k),Nat.mod_mul]
end Go.Proofs.YtnnfpmebopgogaaDoor.Fd
namespace Go.Proofs.YtnnfpmebopgogaaDoor.Fd
namespace cg
end cg
end Go.Proofs.YtnnfpmebopgogaaDoor.Fd
namespace Go.Proofs.YtnnfpmebopgogaaDoor.Fd
end Go.Proofs.YtnnfpmebopgogaaDoor.Fd
namespace Go.Proofs.YtnnfpmebopgogaaDoor.Fd
end Go.Proofs.YtnnfpmebopgogaaDoor.Fd
namespace Go.Proofs.YtnnfpmebopgogaaDoor.Fd
end Go.Proofs.YtnnfpmebopgogaaDoor.Fd
namespace Go.Proofs.YtnnfpmebopgogaaDoor.Fd
open Go.RowKit Go.Proofs.YtnnfpmebopgogaaDoor.Gn Go.Shelf
end Go.Proofs.YtnnfpmebopgogaaDoor.Fd
namespace Go.Proofs.YtnnfpmebopgogaaDoor.Fd
open Go.RowKit Go.Proofs.YtnnfpmebopgogaaDoor.Gn Go.Deep
def nl(l:List Nat):List Value:=l.map fun(x:Nat)=>Value.int .u64 (x:Int)
end Go.Proofs.YtnnfpmebopgogaaDoor.Fd
namespace Go.Proofs.YtnnfpmebopgogaaDoor.Fd
open Go.RowKit Go.Proofs.YtnnfpmebopgogaaDoor.Gn Go.Deep
end Go.Proofs.YtnnfpmebopgogaaDoor.Fd
namespace Go.Proofs.YtnnfpmebopgogaaDoor.Fd
open Go.RowKit Go.Proofs.YtnnfpmebopgogaaDoor.Gn Go.Deep
end Go.Proofs.YtnnfpmebopgogaaDoor.Fd
namespace Go.Proofs.YtnnfpmebopgogaaDoor.Fd
open Go.RowKit Go.Proofs.YtnnfpmebopgogaaDoor.Gn Go.Deep
theorem infob:(Tryd.prog.info? 5).map (fun i=>(i.zero,i.size,i.bytes))=some (some (.int .u8 0),1,8 / 8):=by kernel_rfl
theorem bl_set(l:List Nat)(k x:Nat):(bl l).toArray.setIfInBounds k (.int .u8 (x:Int))=(bl (l.set k x)).toArray:=by simp[bl,List.setIfInBounds_toArray,List.map_set]
end Go.Proofs.YtnnfpmebopgogaaDoor.Fd
namespace Go.Proofs.YtnnfpmebopgogaaDoor.Fd
open Go.RowKit Go.Proofs.YtnnfpmebopgogaaDoor.Gn Go.Deep
end Go.Proofs.YtnnfpmebopgogaaDoor.Fd
namespace Go.Proofs.YtnnfpmebopgogaaDoor.Gn
open Go.RowKit Go.Deep
abbrev Rw:=Option Addr × Nat × Nat × List Nat
def rwv(r:Rw):Value:=.slice r.1 r.2.1 r.2.2.1
def LL(w:World)(a:Option Addr)(len:Nat)(rows:List Rw):Prop :=
 Sl w a len (rows.map rwv)∧∀r∈rows,BL w r.1 r.2.1 r.2.2.1 r.2.2.2∧r.2.1≤140737488351232
theorem weights_mem{H:Type}{P:Program}{e:TypeId}{x:Nat}{d:DataW H}(h:x∈d.weights P e):∀(l:List (DataW H)),d∈l→x∈DataW.weightsAll P e l:=by
 intro l
 induction l with
 |nil=>intro h;cases h
 |cons y l ih =>
  intro hm
  rw[DataW.weightsAll]
  rcases List.mem_cons.1 hm with rfl|hm
  ·exact List.mem_append_left _ h
  ·exact List.mem_append_right _ (ih hm)
section
variable {H:Type} {enc:TypeId × Value→H} {P:Program} {w:World} {base:Nat} {spare:Nat→Bool} {held:Bool}
end
end Go.Proofs.YtnnfpmebopgogaaDoor.Gn
namespace Go.Proofs.YtnnfpmebopgogaaDoor.Gn
open Go.RowKit Go.Proofs.YtnnfpmebopgogaaDoor.Fd Go.Deep
def cat:List Rw→List Nat
 | []=>[]
 |r :: rs=>r.2.2.2 ++ cat rs
theorem cat_append(l k:List Rw):cat (l ++ k)=cat l ++ cat k:=by
 induction l with
 |nil=>simp[cat]
 |cons r l ih=>simp only[List.cons_append,cat,ih,List.append_assoc]
theorem cat_next{l:List Rw}{k:Nat}{r:Rw}(h:l[k]?=some r):cat (l.take (k+1))=cat (l.take k) ++ r.2.2.2:=by
 rw[show l.take (k+1)=l.take k ++ [r] by rw[List.take_add_one,h];rfl,cat_append];simp[cat]
theorem cat_take(l:List Rw)(k:Nat):(cat (l.take k)).length≤(cat l).length:=by
 have h:=congrArg (fun x=>(cat x).length) (List.take_append_drop k l)
 simp only[cat_append,List.length_append] at h
 omega
theorem cat_lt:∀(l:List Rw),(∀r∈l,∀x∈r.2.2.2,x < 256)→∀x∈cat l,x < 256:=by
 intro l
 induction l with
 |nil=>intro _ x hx;cases hx
 |cons r l ih =>
  intro h x hx
  rcases List.mem_append.1 (show x∈r.2.2.2 ++ cat l from hx) with h1|h1
  ·exact h r List.mem_cons_self x h1
  ·exact ih (fun y hy=>h y (List.mem_cons_of_mem _ hy)) x h1
structure Pc (w:World) (r:Rw):Prop where
 len:r.2.1=r.2.2.2.length
 row:Sl w r.1 r.2.2.2.length (bl r.2.2.2)
 lt:∀x∈r.2.2.2,x < 256
 cap:r.2.2.2.length≤r.2.2.1
 nil:r.1=none→r.2.2.1=0
theorem Pc.below{w w':World}{r:Rw}(h:Pc w r)(hb:Below w.heap.size w w'):Pc w' r:=⟨h.len,h.row.below hb,h.lt,h.cap,h.nil⟩
def GrowQ(w:World)(e:Ending)(w':World):Prop:=∃A c,e=.returned (.slice A 0 c)∧w'.ownsRow w.heap.size 5 1 (.slice A 0 c) 0 []∧Below w.heap.size w w'
set_option maxRecDepth 100000 in
set_option maxHeartbeats 1000000 in
theorem Grow_any(n:Nat)(w:World)(hn:n≤1099511627776):Calls Tryd.prog 79 #[.slice none 0 0,.int .i64 (n:Int)] w (GrowQ w):=by
 obtain⟨i0,hi,hz0,hz1,hz2⟩:=info_parts infob
 have t0:decide ((n:Int) < 0)=false:=decide_eq_false (by omega)
 rcases Nat.eq_zero_or_pos n with rfl|h0
 ·clear hn
  go_enter Tryd.func79,Tryd.ntmps79
  go_wp2_with fail
  go_ret
  exact⟨none,0,rfl,own_nil _ _ _,Below.refl _ _⟩
 ·have t1:decide ((0:Int) < (n:Int))=true:=decide_eq_true (by omega)
  have AZ:=Lib.run_append_nil_zeros (P:=Tryd.prog) w 22 3 22 5 i0 _ .i64 .i64 Tryd.underlying22 Tryd.underlying3 hi hz0 n h0 (by rw[hz1];decide) (by omega) (by rw[hz2];omega)
  have h48:grownCap w n 0 5≤maxLen:=grownCap_le_maxLen _ _ _ _ (by unfold maxLen;omega)
  have hge:=grownCap_ge w n 0 5
  generalize grownCap w n 0 5=C at AZ h48 hge
  obtain⟨cs,hcs,hsz⟩:∃cs,Builtin.zeroCells (Value.cells (.int .u8 0)) n ++ Builtin.zeroCells (Value.cells (.int .u8 0)) (C - n)=cs∧cs.size=C:=⟨_,rfl,by simp[size_zeroCells,Value.cells];omega⟩
  rw[hcs] at AZ
  have HA:=Lib.hid AZ
  have HC:=Lib.hid h48
  have HG:=Lib.hid hge
  have HS:=Lib.hid hsz
  have HI:=Lib.hid h0
  have ew:IntKind.i64.wrap (n:Int)=(n:Int):=by rw[IntKind.wrap_i64];omega
  have ew2:wrap64 (n:Int)=(n:Int):=by unfold wrap64;omega
  clear AZ h48 hge hcs hsz hi hz0 hz1 hz2 h0 hn
  go_enter Tryd.func79,Tryd.ntmps79
  go_wp2_with (at_builtin;refine Lib.wpList_append_run _ rfl _ _ _ _ rfl _ _ rfl rfl _ _ HA.out ?_)
  go_ret
  exact⟨_,_,rfl,⟨rfl,.inr ⟨w.heap.size,C,cs,rfl,Nat.le_refl _,Bl.new_ w.drew _ _,Nat.zero_le _,HC.out,by rw[Nat.mul_one];exact HS.out,rfl⟩⟩,((Below.refl _ _).drew).alloc (Nat.le_refl _) _⟩
def CaRel(w0:World)(rows:List Rw)(len:Nat)(s:Value)(i:Value)(wr:World):Prop :=
 ∃k n:Nat,k≤len∧i=.int .i64 (k:Int)∧(cat (rows.take k)).length=n∧s=.int .i64 (n:Int)∧w0=wr
def CbRel(w0:World)(rows:List Rw)(len:Nat)(v:Value)(i:Value)(wr:World):Prop :=
 ∃k n:Nat,k≤len∧i=.int .i64 (k:Int)∧(cat (rows.take k)).length=n∧wr.ownsRow w0.heap.size 5 1 v n (bl (cat (rows.take k)))∧Below w0.heap.size w0 wr
def ConcatQ(l:List Nat)(w:World)(e:Ending)(w':World):Prop:=∃v,e=.returned v∧w'.ownsRow w.heap.size 5 1 v l.length (bl l)∧Below w.heap.size w w'
set_option maxRecDepth 100000 in
set_option maxHeartbeats 4000000 in
theorem Concat_any(rows:List Rw)(A:Option Addr)(len c:Nat)(w:World)(hs:Sl w A len (rows.map rwv))(hp:∀r∈rows,Pc w r)(hlen:len≤1000000)(htot:(cat rows).length≤1099511627776) :
  Calls Tryd.prog 67 #[.slice A len c] w (ConcatQ (cat rows) w):=by
 have hrl:rows.length=len:=by have:=hs.1;simpa using this
 obtain⟨i0,hi,hz0,hz1,hz2⟩:=info_parts infob
 have S0:=Lib.hid hs
 have HP:=Lib.hid hp
 have RL:=Lib.hid hrl
 have TT:=Lib.hid htot
 have LN:=Lib.hid hlen
 clear hs hp hrl htot
 go_enter Tryd.func67,Tryd.ntmps67
 go_wp2_with fail
 go_loopw [3,11] (fun s i wr=>CaRel w rows len s i wr) (fun _ i _=>len - (intOf i).toNat)
 case atStart=>exact⟨0,0,Nat.zero_le _,rfl,rfl,rfl,rfl⟩
 case round =>
  obtain⟨k,n,hk,rfl,hn,rfl,rfl⟩:=hrel
  have HN:=Lib.hid hn
  clear hn
  by_cases hlt:k < len
  ·obtain⟨ad,rfl,hcell⟩:=S0.out.at_ hlt
   obtain⟨r,hr⟩:∃r,rows[k]?=some r:=⟨rows[k]'(by have:=RL.out;omega),List.getElem?_eq_getElem _⟩
   have P1:=HP.out r (List.mem_of_getElem? hr)
   obtain⟨m,hm⟩:∃m,r.2.2.2.length=m:=⟨_,rfl⟩
   have hc:w.cell? (ad.add k)=some (.slice r.1 m r.2.2.1):=by rw[hcell,List.getElem?_map,hr,←hm,←P1.len];rfl
   have hN:(cat (rows.take (k+1))).length=n+m:=by rw[cat_next hr,List.length_append,HN.out,hm]
   have hb:=Nat.le_trans (cat_take rows (k+1)) TT.out
   rw[hN] at hb
   obtain⟨N,hNN⟩:∃N,N=n+m:=⟨_,rfl⟩
   have eN:IntKind.i64.wrap ((n:Int)+(m:Int))=(N:Int):=by rw[IntKind.wrap_i64];omega
   have t0:decide ((N:Int) < 0)=false:=decide_eq_false (by omega)
   have CN:=Lib.hid (show(cat (rows.take (k+1))).length=N by rw[hN,hNN])
   generalize r.1=A1 at hc
   generalize r.2.2.1=c1 at hc
   clear hcell P1 hr hm hN hb hNN
   go_wp2_with fail
   go_roundw
   case rel=>exact⟨k+1,N,by omega,by go_num,CN.out,rfl,rfl⟩
   case measure=>simp[intOf];omega
  ·obtain rfl:k=len:=by omega
   have hn:(cat rows).length=n:=by have:=HN.out;rwa [List.take_of_length_le (by rw[RL.out];exact Nat.le_refl _)] at this
   have GG:=Lib.hid (Grow_any n w (by rw[←hn];exact TT.out))
   clear hn
   go_wp2_with (go_at_call 79;(with_reducible refine GG.out.mono ?_);rintro e w1 ⟨A1,c1,rfl,ho,hb1⟩;have OO:=Lib.hid ho;have B1:=Lib.hid hb1;clear ho hb1)
   go_loopw [6,27] (fun v i wr=>CbRel w rows k v i wr) (fun _ i _=>k - (intOf i).toNat)
   case atStart=>exact⟨0,0,Nat.zero_le _,rfl,rfl,OO.out,B1.out⟩
   case round =>
    obtain⟨j,n2,hj,rfl,hn2,hown,hbw⟩:=hrel
    have HN2:=Lib.hid hn2
    have OW:=Lib.hid hown
    have BW:=Lib.hid hbw
    clear hn2 hown hbw
    by_cases hlt2:j < k
    ·obtain⟨ad,rfl,hcell⟩:=S0.out.at_ hlt2
     obtain⟨r,hr⟩:∃r,rows[j]?=some r:=⟨rows[j]'(by have:=RL.out;omega),List.getElem?_eq_getElem _⟩
     have P1:=HP.out r (List.mem_of_getElem? hr)
     obtain⟨m,hm⟩:∃m,r.2.2.2.length=m:=⟨_,rfl⟩
     have hc0:w.cell? (ad.add j)=some (.slice r.1 m r.2.2.1):=by rw[hcell,List.getElem?_map,hr,←hm,←P1.len];rfl
     have hc:wr.cell? (ad.add j)=some (.slice r.1 m r.2.2.1):=keepc BW.out hc0
     have hN:(cat (rows.take (j+1))).length=n2+m:=by rw[cat_next hr,List.length_append,HN2.out,hm]
     have hb:=Nat.le_trans (cat_take rows (j+1)) TT.out
     rw[hN] at hb
     have HB:=Lib.hid hb
     have CL:=Lib.hid hN
     have CN:=Lib.hid (show bl (cat (rows.take (j+1)))=bl (cat (rows.take j)) ++ bl r.2.2.2 by rw[cat_next hr];simp[bl])
     have P2:=P1.below BW.out
     have PR:=Lib.hid P2.row
     have PN:=Lib.hid P2.nil
     rw[hm] at PR
     clear hcell P1 P2 hr hm hN hb hc0
     go_wp2_with (at_builtin;refine wpList_append_sl rfl _ _ 22 rfl w.heap.size 5 i0 _ (8 / 8) Tryd.underlying22 hi hz0 hz1 hz2 rfl _ n2 _ rfl OW.out r.1 m r.2.2.1 _ rfl PN.out PR.out (bl_one _) (by have:=HB.out;unfold maxLen;omega) (by have:=HB.out;omega) BW.out.size ?_;intro v2 w3 ho3 hg3;have O3:=Lib.hid ho3;have G3:=Lib.hid hg3;clear ho3 hg3)
     go_roundw
     case rel=>exact⟨j+1,n2+m,by omega,by go_num,CL.out,by rw[CN.out];exact O3.out,BW.out.grown G3.out BW.out.size (fun x e=>(OW.out.lt x e).1)⟩
     case measure=>simp[intOf];omega
    ·obtain rfl:j=k:=by omega
     go_wp2_with fail
     go_ret
     have e1:rows.take j=rows:=List.take_of_length_le (by rw[RL.out];exact Nat.le_refl _)
     have O:=OW.out
     have h2:=HN2.out
     rw[e1] at O h2
     exact⟨_,rfl,by rw[h2];exact O,BW.out⟩
end Go.Proofs.YtnnfpmebopgogaaDoor.Gn
