/- Joined texts. -/
import Derived.Test.YtkahelhoaihajaaQkScRef
import Derived.Test.YtkahelhoaihajaaQkScPlain
import Derived.ProofKit
import Derived.OpenShut
import Derived.Deep.Slices
import Derived.Deep.RegionWith
set_option linter.unusedVariables false
namespace Go.Proofs.Ytkahelhoaihajaa.Sc
open Go.RowKit
def Sl(w:World)(A:Option Addr)(n:Nat)(xs:List Value):Prop :=
 xs.length=n∧∀k v,xs[k]?=some v→∃ad,A=some ad∧w.cell? (ad.add k)=some v
theorem Sl.at_{w:World}{A:Option Addr}{n:Nat}{xs:List Value}(h:Sl w A n xs){k:Nat}(hk:k < n):∃ad,A=some ad∧w.cell? (ad.add k)=xs[k]?:=by
 obtain⟨hl,hc⟩:=h
 have hk':k < xs.length:=by omega
 obtain⟨ad,rfl,hcell⟩:=hc k xs[k] (List.getElem?_eq_getElem hk')
 exact⟨ad,rfl,by rw[hcell,List.getElem?_eq_getElem hk']⟩
theorem Sl.keep{w w':World}{A:Option Addr}{n:Nat}{xs:List Value}(h:Sl w A n xs)(hk:∀p:Addr,(∃v,w.cell? p=some v)→w'.cell? p=w.cell? p):Sl w' A n xs :=
 ⟨h.1,fun k v hv=>by obtain⟨ad,e,hc⟩:=h.2 k v hv;exact⟨ad,e,by rw[hk _ ⟨v,hc⟩];exact hc⟩⟩
end Go.Proofs.Ytkahelhoaihajaa.Sc
namespace Go.Proofs.Ytkahelhoaihajaa.Sc
open Go.RowKit Go.ChangeShapes Go.WideShapes Go.ChangeAt Go.Deep
theorem cell_lt{w:World}{p:Addr}{v:Value}(h:w.cell? p=some v):p.block < w.heap.size:=by
 unfold World.cell? at h
 rcases Nat.lt_or_ge p.block w.heap.size with h1|h1
 ·exact h1
 ·rw[Array.getElem?_eq_none h1] at h
  split at h <;> simp_all
theorem Sl.below{w w':World}{A:Option Addr}{n:Nat}{xs:List Value}(h:Sl w A n xs)(hb:Below w.heap.size w w'):Sl w' A n xs :=
 h.keep fun p ⟨v,hv⟩=>hb.cell (cell_lt hv)
section
variable {H:Type} {enc:TypeId × Value→H} {P:Program} {w:World} {base:Nat} {spare:Nat→Bool} {held:Bool}
end
end Go.Proofs.Ytkahelhoaihajaa.Sc
namespace Go.Proofs.Ytkahelhoaihajaa.Sc
open Go.RowKit
theorem add_at(g k:Nat):(⟨g,0,none⟩:Addr).add k=⟨g,k,none⟩:=by unfold Addr.add;split <;> simp_all
end Go.Proofs.Ytkahelhoaihajaa.Sc
namespace Go.Proofs.Ytkahelhoaihajaa.Sc
open Go.RowKit
def bl(l:List Nat):List Value:=l.map fun(x:Nat)=>Value.int .u8 (x:Int)
end Go.Proofs.Ytkahelhoaihajaa.Sc
