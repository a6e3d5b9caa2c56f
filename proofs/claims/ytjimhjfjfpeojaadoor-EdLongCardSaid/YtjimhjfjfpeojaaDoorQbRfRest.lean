/- Joined texts. -/
import Derived.Laws.CopyOwn
import Derived.Deep.Cut
import Derived.Test.YtjimhjfjfpeojaaDoorQbRaA
set_option linter.unusedVariables false
namespace Go.Proofs.YtjimhjfjfpeojaaDoor.Fd
open Go.RowKit Go.Proofs.YtjimhjfjfpeojaaDoor.Gn Go.Deep
def Lq:Nat:=7237005577332262213973186563042994240857116359379907606001950938285454250989
theorem Lq_eq:Lq=7237005577332262213973186563042994240857116359379907606001950938285454250989:=rfl
theorem Lq_pos:0 < Lq:=by decide
attribute [irreducible] Lq
def lql:List Nat:=[54253,23797,25370,22546,40150,41719,63966,5342,0,0,0,0,0,0,0,4096]
theorem lql_vl:vl lql=Lq:=by rw[Lq_eq];decide +kernel
theorem dg_Lq:dg Lq=lql:=by rw[←lql_vl];exact dg_vl lql (by unfold Dg lql;decide) (by unfold Tr lql;decide)
theorem L_any(w:World):Calls Tryd.prog 11 #[] w (RetN Lq w):=by
 have B:=Lib.hid (Bl.new_ w 36 (nl lql).toArray)
 have D:=Lib.hid ((Below.refl w.heap.size w).alloc (Nat.le_refl _) (.cells (nl lql).toArray 36))
 have HE:=Lib.hid dg_Lq
 go_enter Tryd.func11,Tryd.ntmps11
 go_wp2
 go_ret
 exact⟨_,16,16,rfl,by rw[HE.out];exact nl_sl B.out rfl,Nat.le_refl _,D.out⟩
end Go.Proofs.YtjimhjfjfpeojaaDoor.Fd
