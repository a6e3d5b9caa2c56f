/- Joined texts. -/
import Derived.Test.YtmfpckbahgpojaaDoorQmGnA
set_option linter.unusedVariables false
namespace Go.Proofs.YtmfpckbahgpojaaDoor.Gn
open Go.ChangeShapes Go.WideShapes Go.ChangeAt Go.RowKit Go.Deep
section
variable {H:Type} {enc:TypeId × Value→H} {P:Program} {w:World} {base:Nat} {spare:Nat→Bool} {held:Bool}
def il(l:List Int):List Value:=l.map fun x=>Value.int .i64 x
theorem il_get(l:List Int)(k:Nat):(il l)[k]?=l[k]?.map fun x=>Value.int .i64 x:=by simp[il]
theorem il_length(l:List Int):(il l).length=l.length:=by simp[il]
def IL(w:World)(a:Option Addr)(len cap:Nat)(l:List Int):Prop:=Sl w a len (il l)∧len≤9223372036854775807∧(∀x∈l,-9223372036854775808≤x∧x≤9223372036854775807)∧len≤cap
theorem open_il{t e:TypeId}{a:Option Addr}{len cap:Nat}{d:DataW H}{ps:List MemPlace}(ht:P.underlying t=some (.slice e))(he:P.underlying e=some (.int .i64))(hc:P.cellsOf e=1)
  (_:∀x∈ps,x.block < w.heap.size) (h:DataW.Trod enc P w base spare held t (.slice a len cap) d ps):∃l:List Int,IL w a len cap l:=by
 obtain⟨vs,hs,hm,hlc,hv⟩:=open_row ht hc h
 have:∀us:List Value,(∀v∈us,v∈vs)→∃l:List Int,us=il l∧∀x∈l,-9223372036854775808≤x∧x≤9223372036854775807:=by
  intro us
  induction us with
  |nil=>intro _;exact⟨[],rfl,by simp⟩
  |cons u us ih =>
   intro hu
   obtain⟨l,rfl,hl⟩:=ih fun v hv=>hu v (List.mem_cons_of_mem _ hv)
   obtain⟨n,y,hy⟩:=hv u (hu u List.mem_cons_self)
   obtain⟨b,hb,-, hw⟩:=DataW.trod_int he hy
   have hw' : -9223372036854775808≤b∧b≤9223372036854775807:=by simpa[Lit.wf,IntKind.min,IntKind.max,IntKind.signed,IntKind.bits] using hw
   refine⟨b :: l,?_,fun x hx=>?_⟩
   ·have:u=.int .i64 b:=by simpa using hb
    rw[this];simp[il]
   ·rcases List.mem_cons.1 hx with rfl|hx
    ·exact hw'
    ·exact hl x hx
 obtain⟨l,rfl,hl⟩:=this vs fun _ h=>h
 exact⟨l,hs,by unfold maxLen at hm;omega,hl,hlc⟩
end
end Go.Proofs.YtmfpckbahgpojaaDoor.Gn
