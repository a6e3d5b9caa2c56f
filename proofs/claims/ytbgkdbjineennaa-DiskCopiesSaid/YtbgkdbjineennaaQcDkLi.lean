/- Joined texts. -/
import Derived.Test.YtbgkdbjineennaaQcDkTj
import Derived.Test.YtbgkdbjineennaaQcDkTh
set_option linter.unusedVariables false
namespace Go.Proofs.Ytbgkdbjineennaa.Dk
open Go.IntWalk Go.RowKit Go.Proofs.Ytbgkdbjineennaa.Gn Go.Proofs.Ytbgkdbjineennaa.Fd Go.Deep
def Box(lo hi g gb:Nat)(H ch:Value):Prop:=(lo≤g∧g < hi)∧(lo≤gb∧gb < hi)∧(∀b,H.ownBlock=some b→lo≤b∧b < hi)∧(∀b,ch.ownBlock=some b→lo≤b∧b < hi)
section
variable {w:World} {base g gb lo hi:Nat} {H:Value} {cs:Bool} {cw:Int} {ch:Value} {m:M}
theorem Dd.ch_base(D:Dd w base g gb H cs cw ch m){b:Nat}(hb:ch.ownBlock=some b):base≤b∧b < w.heap.size:=⟨(D.kinds.2.2.2 b hb).1,(D.kinds.2.2.2 b hb).2.lt⟩
theorem Dd.box(D:Dd w base g gb H cs cw ch m):Box base w.heap.size g gb H ch :=
 ⟨⟨D.b1,Bl.lt D.blk⟩,⟨D.b2,Bl.lt D.byt⟩,fun b hb=>⟨(own_kd D.own hb).1,own_lt D.own hb⟩,fun b hb=>D.ch_base hb⟩
theorem Dd.away(D:Dd w base g gb H cs cw ch m)(hb:Box lo hi g gb H ch){S:List Nat}{w':World}(hG:Gx S w w')(hS:∀b∈S,b < lo∨hi≤b):Dd w' base g gb H cs cw ch m :=
 D.kept hG fun b hb'=>⟨fun e=>by have:=hS b hb';have:=hb.1;omega,fun e=>by have:=hS b hb';have:=hb.2.1;omega,fun e=>by have:=hS b hb';have:=hb.2.2.1 b e;omega,fun e=>by have:=hS b hb';have:=hb.2.2.2 b e;omega⟩
end
end Go.Proofs.Ytbgkdbjineennaa.Dk
