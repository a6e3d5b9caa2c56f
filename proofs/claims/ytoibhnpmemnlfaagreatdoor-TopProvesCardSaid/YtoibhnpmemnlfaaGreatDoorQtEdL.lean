/- Joined texts. -/
import Derived.IntWalk
import Derived.Test.YtoibhnpmemnlfaaGreatDoorQtEdJ
import Derived.Test.YtoibhnpmemnlfaaGreatDoorQtSaE
set_option linter.unusedVariables false
namespace Go.Proofs.YtoibhnpmemnlfaaGreatDoor.Ed
open Go.RowKit Go.Proofs.YtoibhnpmemnlfaaGreatDoor.Gn Go.Proofs.YtoibhnpmemnlfaaGreatDoor.Fd Go.Deep
def DecG(o:Option KP)(e:Ending):Prop:=match o with
 |none=>e=.returned (.tuple #[.agg z20,.int .i64 40])
 |some p=>e=.returned (.tuple #[.agg p.v,.int .i64 0])
theorem PDecode_any(A:Option Addr)(c:Nat)(l:List Nat)(w:World)(tab:TabE w)(hc:32≤c)(hl:∀x∈l,x < 256)(hs:Sl w A 32 (bl l)) :
  Calls Tryz.prog 10 #[.slice A 32 c] w fun e w'=>DecG (dpt (le (low l)) (l.getD 31 0 / 128)) e∧Below w.heap.size w w':=by
 have hln:l.length=32:=by simpa[bl] using hs.1
 have hx:l.getD 31 0 < 256:=by rw[List.getD_eq_getElem?_getD,List.getElem?_eq_getElem (by omega)];exact hl _ (List.getElem_mem _)
 unfold dpt
 by_cases hm:le (low l) < pp
 ·rw[if_pos hm]
  cases hr:acr (kof (le (low l))) with
  |none=>exact Dec_none A c l w tab hc hl hs _ rfl hm hr
  |some r =>
   dsimp only
   by_cases ho:128≤l.getD 31 0
   ·have e1:l.getD 31 0 / 128=1:=by omega
    rw[e1]
    by_cases h0:r=0
    ·subst h0
     rw[if_pos ⟨rfl,rfl⟩]
     exact Dec_zero A c l w tab hc hl hs (by simpa using ho) hm hr
    ·rw[if_neg (fun h=>h0 h.2)]
     exact Dec_odd A c l w tab hc hl hs r h0 (by simpa using ho) hm hr
   ·have e1:l.getD 31 0 / 128=0:=by omega
    rw[e1,if_neg (fun h=>by cases h.1)]
    exact Dec_even A c l w tab hc hl hs r (by simpa using ho) hm hr
 ·rw[if_neg hm]
  exact Dec_bad A c l w tab hc hl hs _ rfl hm
theorem low_le{l:List Nat}(hln:l.length=32)(hl:∀x∈l,x < 256):le l=le (low l)+l.getD 31 0 / 128*57896044618658097711785492504343953926634992332820282019728792003956564819968:=by
 have hsp:l=l.take 31 ++ [l.getD 31 0]:=by
  have h1:=List.take_append_drop 31 l
  have h2:l.drop 31=[l.getD 31 0]:=by
   rw[List.drop_eq_getElem_cons (by omega),List.drop_of_length_le (by omega),List.getD_eq_getElem?_getD,List.getElem?_eq_getElem (by omega)]
   rfl
  rw[h2] at h1
  exact h1.symm
 have ht:(l.take 31).length=31:=by simp;omega
 have hlow:low l=l.take 31 ++ [l.getD 31 0%128]:=by
  unfold low
  conv=>lhs;arg 1;rw[hsp]
  rw[List.set_append_right _ _ (by omega),ht]
  rfl
 have e1:le l=le (l.take 31)+256 ^ 31*l.getD 31 0:=by
  conv=>lhs;rw[hsp,le_append,ht,le_cons,le_nil,Nat.mul_zero,Nat.add_zero]
 have e2:le (low l)=le (l.take 31)+256 ^ 31*(l.getD 31 0%128):=by
  rw[hlow,le_append,ht,le_cons,le_nil,Nat.mul_zero,Nat.add_zero]
 rw[e1,e2]
 have h31:(256:Nat) ^ 31*128=57896044618658097711785492504343953926634992332820282019728792003956564819968:=by decide
 rw[←h31]
 generalize(256:Nat) ^ 31=M
 generalize l.getD 31 0=x
 have hx:x=x%128+128*(x / 128):=by omega
 have:M*x=M*(x%128)+M*128*(x / 128):=by
  conv=>lhs;rw[hx,Nat.mul_add,←Nat.mul_assoc]
 rw[this,Nat.mul_comm (x / 128)]
 omega
theorem low_lt{l:List Nat}(hln:l.length=32)(hl:∀x∈l,x < 256):le (low l) < 57896044618658097711785492504343953926634992332820282019728792003956564819968:=by
 have h:=low_le hln hl
 have ht:=le_lt l hl
 rw[hln] at ht
 have h32:(256:Nat) ^ 32=2*57896044618658097711785492504343953926634992332820282019728792003956564819968:=by decide
 rw[h32] at ht
 have hx:l.getD 31 0 < 256:=by rw[List.getD_eq_getElem?_getD,List.getElem?_eq_getElem (by omega)];exact hl _ (List.getElem_mem _)
 -- the low part has 31 bytes and a digit below 128
 have hb:∀x∈low l,x < 256:=by
  intro x hx
  rcases List.mem_or_eq_of_mem_set hx with h1|h1
  ·exact hl x h1
  ·omega
 have hsp:low l=(low l).take 31 ++ [l.getD 31 0%128]:=by
  have h1:=List.take_append_drop 31 (low l)
  have hll:(low l).length=32:=by unfold low;rw[List.length_set,hln]
  have h2:(low l).drop 31=[l.getD 31 0%128]:=by
   rw[List.drop_eq_getElem_cons (by omega),List.drop_of_length_le (by omega)]
   unfold low
   simp
  rw[h2] at h1
  exact h1.symm
 have hll:((low l).take 31).length=31:=by simp[low,hln]
 have h3:=le_lt ((low l).take 31) (fun x hx=>hb x (List.mem_of_mem_take hx))
 rw[hll] at h3
 rw[hsp,le_append,hll,le_cons,le_nil]
 have h31:(256:Nat) ^ 31*128=57896044618658097711785492504343953926634992332820282019728792003956564819968:=by decide
 rw[←h31]
 generalize(256:Nat) ^ 31=M at *
 have hq:l.getD 31 0%128+256*0≤127:=by omega
 have:=Nat.mul_le_mul_left M hq
 omega
theorem dec_of(g:G):∃p,dpt (le (low (by_ (gb g) 32))) ((by_ (gb g) 32).getD 31 0 / 128)=some p∧Hp p g:=by
 have hln:=by_length (gb g) 32
 have hl:=by_lt (gb g) 32
 have h1:=low_le hln hl
 have h2:=low_lt hln hl
 rw[le_by,Nat.mod_eq_of_lt (by
  have:=fv_top g.y
  have hs:fv g.x%2 < 2:=Nat.mod_lt _ (by decide)
  have h32:(256:Nat) ^ 32=2*57896044618658097711785492504343953926634992332820282019728792003956564819968:=by decide
  rw[h32]
  unfold gb
  omega)] at h1
 have e:le (low (by_ (gb g) 32))=fv g.y∧(by_ (gb g) 32).getD 31 0 / 128=fv g.x%2:=by
  have:=fv_top g.y
  have hs:fv g.x%2 < 2:=Nat.mod_lt _ (by decide)
  generalize le (low (by_ (gb g) 32))=a at *
  generalize(by_ (gb g) 32).getD 31 0 / 128=b at *
  unfold gb at h1
  generalize fv g.x%2=q at *
  generalize fv g.y=y at *
  constructor <;> omega
 rw[e.1,e.2]
 exact dpt_of g
end Go.Proofs.YtoibhnpmemnlfaaGreatDoor.Ed
