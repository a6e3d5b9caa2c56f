/- Joined texts. -/
import Derived.Test.YtjimhjfjfpeojaaDoorQbEdTabs
import Derived.Test.YtjimhjfjfpeojaaDoorQbFsJoin
set_option linter.unusedVariables false
namespace Go.Proofs.YtjimhjfjfpeojaaDoor.Ed
open Go.RowKit Go.Proofs.YtjimhjfjfpeojaaDoor.Gn Go.Proofs.YtjimhjfjfpeojaaDoor.Fd Go.Deep Go.Proofs.YtjimhjfjfpeojaaDoor
theorem tabs_of_laidF {W : World} (h : laidMetH Tryd.prog [("imprimatur/sha2.starts", Rows.laid_imprimatur_sha2_starts), ("imprimatur/sha2.constants", Rows.laid_imprimatur_sha2_constants), ("imprimatur/field.rootOfLess1", Rows.laid_imprimatur_field_rootOfLess1), ("imprimatur/field.order", Rows.laid_imprimatur_field_order), ("imprimatur/ed.d", Rows.laid_imprimatur_ed_d), ("imprimatur/ed.twiceD", Rows.laid_imprimatur_ed_twiceD), ("imprimatur/ed.baseX", Rows.laid_imprimatur_ed_baseX), ("imprimatur/ed.baseY", Rows.laid_imprimatur_ed_baseY)] W) : TabE W ∧ Sh.Tab W ∧ TabL W := by
 rw[MakeChecks.laidMetH_plain _ _ _ (by kernel_rfl),laid_st,laid_co,laid_im,laid_or,laid_d,laid_d2,laid_bx,laid_by] at h
 have h1:=Lib.tabIs_of_head gSt tSt Tryd.underlying67 Tryd.underlying36 c64 c8 h
 have h2:=Lib.tabIs_of_head gCo tCo Tryd.underlying132 Tryd.underlying36 c64 c80 h.tail
 have h3:=Lib.tabIs_of_head gIm tIm Tryd.underlying38 Tryd.underlying36 c64 c5 h.tail.tail
 have h8:=Lib.tabIs_of_head gOr tOr Tryd.underlying65 Tryd.underlying36 c64 c4 h.tail.tail.tail
 have h4:=Lib.tabIs_of_head gD tD Tryd.underlying38 Tryd.underlying36 c64 c5 h.tail.tail.tail.tail
 have h5:=Lib.tabIs_of_head gD2 tD2 Tryd.underlying38 Tryd.underlying36 c64 c5 h.tail.tail.tail.tail.tail
 have h6:=Lib.tabIs_of_head gBx tBx Tryd.underlying38 Tryd.underlying36 c64 c5 h.tail.tail.tail.tail.tail.tail
 have h7:=Lib.tabIs_of_head gBy tBy Tryd.underlying38 Tryd.underlying36 c64 c5 h.tail.tail.tail.tail.tail.tail.tail
 exact⟨⟨c5_of fun k hk=>h3.cell gIm k (el_len _ k hk),c5_of fun k hk=>h4.cell gD k (el_len _ k hk),c5_of fun k hk=>h5.cell gD2 k (el_len _ k hk),c5_of fun k hk=>h6.cell gBx k (el_len _ k hk),c5_of fun k hk=>h7.cell gBy k (el_len _ k hk)⟩,
  ⟨fun t ht=>by rw[h2.cell gCo t (by rw[ints_length];exact ht),ints_getD],fun t ht=>by rw[h1.cell gSt t (by rw[ints_length];exact ht),ints_getD]⟩,
  h8.cell gOr 0 (by decide),h8.cell gOr 1 (by decide),h8.cell gOr 2 (by decide),h8.cell gOr 3 (by decide)⟩
end Go.Proofs.YtjimhjfjfpeojaaDoor.Ed
