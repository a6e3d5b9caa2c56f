/- Joined texts. -/
import Derived.IntWalk
import Derived.Test.YtoibhnpmemnlfaaGreatDoorQtEdF
import Derived.Test.YtoibhnpmemnlfaaGreatDoorQtGnSeq
set_option linter.unusedVariables false
namespace Go.Proofs.YtoibhnpmemnlfaaGreatDoor.Ed
open Go.RowKit Go.Proofs.YtoibhnpmemnlfaaGreatDoor.Gn Go.Proofs.YtoibhnpmemnlfaaGreatDoor.Fd Go.Deep
theorem o_gtr(w:World)(a n:Nat)(b:Bool)(hb:decide (n < a)=b):(binOp .gtr 3 (.int .i64 (a:Int)) (.int .i64 (n:Int))).run Tryz.prog w=.ok (.bool b) w:=by
 subst hb
 go_simp
def RetPE(g:G)(w:World)(e:Ending)(w':World):Prop:=∃r:KP,e=.returned (.tuple #[.agg r.v,.int .i64 0])∧Hp r g∧Below w.heap.size w w'
def NoP(k:Int)(w:World)(e:Ending)(w':World):Prop:=e=.returned (.tuple #[.agg z20,.int .i64 k])∧Below w.heap.size w w'
theorem z20_ones:∀v∈z20.toList,v.oneCell'=true:=KP.ones kz4
theorem tarr2_eq(s:Value)(f:Nat→KP)(t:Value)(h:Nat→KP):tarr2 s f t h=tarr s f ++ tarr t h:=by
 unfold tarr2 tarr
 simp
theorem infoT:∃i z,Tryz.prog.info? 65=some i∧i.zero=some z∧i.size=321:=by
 have h:=sizeT
 cases hq:Tryz.prog.info? 65 with
 |none=>rw[hq] at h;cases h
 |some i =>
  rw[hq] at h
  have hz:(Tryz.prog.info? 65).map (·.zero.isSome)=some true:=by kernel_rfl
  rw[hq] at hz
  obtain⟨z,hz⟩:=Option.isSome_iff_exists.1 (by simpa using hz)
  exact⟨i,z,rfl,hz,by simpa using h⟩
set_option maxRecDepth 100000 in
set_option maxHeartbeats 4000000 in
theorem Mul_any(A:Option Addr)(n c:Nat)(l:List Nat)(p:KP)(w:World)(g:G)(tab:TabE w)(hn:n≤32)(hl:∀x∈l,x < 256)(hs:Sl w A n (bl l))(hp:Hp p g):Calls Tryz.prog 11 #[.slice A n c,.agg p.v] w (RetPE (ti (le l) g) w):=by
 have TB:=Lib.hid tab
 have HS:=Lib.hid hs
 have HPP:=Lib.hid hp
 have HL:=Lib.hid hl
 clear tab hs hp hl
 go_enter Tryz.func11,Tryz.ntmps11
 go_upto_region 1 with(fail)
 refine at_box2 _ _ _ _ _ ?_
 intro W0 B0 B1 D0 hs0
 have HN:=Lib.hid hn
 refine wp_region_lit ?_
 refine sq_run (.slice A n c) rfl (by kernel_rfl) ?_
 refine sq_run (.int .i64 (n:Int)) rfl (by kernel_rfl) ?_
 refine sq_run (.bool false) rfl (run_bin_op .gtr 3 (.tmp 7) (.const (.int .i64 32)) _ rfl (.int .i64 (n:Int)) (.int .i64 32) (.bool false) (by kernel_rfl) (by kernel_rfl) (by kernel_rfl) (o_gtr _ n 32 false (by simp;have:=HN.out;omega))) ?_
 refine sq_done ?_
 simp only[Act.put,List.setIfInBounds_toArray,List.set_cons_zero,List.set_cons_succ]
 go_upto_region 3 with(fail)
 refine wp_region_lit ?_
 refine sq_run (.slice A n c) rfl (by kernel_rfl) ?_
 refine sq_load w.heap.size 0 20 33 p.v B0 p.v 33 (.tmp 3) rfl rfl (by kernel_rfl) (by kernel_rfl) (by kernel_rfl) Tryz.underlying33 rfl sizeP ?_
 refine sq_enter 35 #[.slice A n c,.agg p.v] rfl (by kernel_rfl) ((termOf_any A n c p _ (TB.out.below D0)).mono ?_)
 rintro e W1 ⟨rfl,E1⟩
 refine⟨_,rfl,?_⟩
 have D1:=below_nx D0 (Nat.le_refl _) E1
 have B2:=B1.below' E1
 clear E1 B0 D0 B1
 refine sq_new (W1.alloc (.cells (tarr (.slice A n c) (tbl p)) 65)) (.slice (some ⟨W1.heap.size,0,none⟩) 1 1) rfl (by kernel_rfl) ?_
 have DA:=D1.alloc D1.size (.cells (tarr (.slice A n c) (tbl p)) 65)
 have BA:=B2.alloc (.cells (tarr (.slice A n c) (tbl p)) 65)
 have BN:=Bl.new_ W1 65 (tarr (.slice A n c) (tbl p))
 clear D1 B2
 refine sq_enter 34 #[.slice (some ⟨W1.heap.size,0,none⟩) 1 1] rfl (by kernel_rfl) ((sum1_any A n c l (tbl p) g _ _ (TB.out.below DA) BN (by have:=HN.out;omega) HL.out (HS.out.below DA) (tbl_has HPP.out)).mono ?_)
 rintro e W5 ⟨r,rfl,hr,E5⟩
 refine⟨_,rfl,?_⟩
 have D5:=below_nx DA (Nat.le_refl _) E5
 have B5:=BA.below' E5
 have HR:=Lib.hid hr
 clear E5 DA BA BN hr
 refine sq_store (w.heap.size+1) 33 _ r.v B5 33 (.tmp 4) (.tmp 14) rfl rfl (by kernel_rfl) (by kernel_rfl) (by kernel_rfl) sizeP (KP.ones _) fun W6 C6 G6=>?_
 refine sq_run (.int .i64 0) rfl (by kernel_rfl) ?_
 refine sq_done ?_
 simp only[Act.put,List.setIfInBounds_toArray,List.set_cons_zero,List.set_cons_succ]
 have HF:=Lib.hid C6
 have hz:=below_only (g:=w.heap.size+1) D5 G6 (by omega)
 go_wp2_with fail
 refine bodyPost_ret (v:=.tuple #[.agg r.v,.int .i64 0]) (Gn.results_cell_tmp 4 33 5 (.int .i64 0) (w.heap.size+1) 33 r.v Tryz.results11 (by kernel_rfl) (by kernel_rfl) HF.out Tryz.underlying33 rfl sizeP) rfl ⟨r,rfl,HR.out,hz⟩
set_option maxRecDepth 100000 in
set_option maxHeartbeats 4000000 in
theorem Mix_any(A:Option Addr)(n c:Nat)(l:List Nat)(p:KP)(B:Option Addr)(k d:Nat)(j:List Nat)(w:World)(g b:G)(tab:TabE w)(hn:n≤32)(hk:k≤32)(hl:∀x∈l,x < 256)(hj:∀x∈j,x < 256)(hs:Sl w A n (bl l))(ht:Sl w B k (bl j))(hp:Hp p g)(q:KP)(BC:∀w,TabE w→Calls Tryz.prog 12 #[] w fun e w'=>e=.returned (.agg q.v)∧Below w.heap.size w w')(hb:Hp q b):Calls Tryz.prog 45 #[.slice A n c,.agg p.v,.slice B k d] w (RetPE (ga (ti (le l) g) (ti (le j) b)) w):=by
 have TB:=Lib.hid tab
 have HS:=Lib.hid hs
 have HPP:=Lib.hid hp
 have HL:=Lib.hid hl
 have HT:=Lib.hid ht
 have HJ:=Lib.hid hj
 have HBB:=Lib.hid hb
 have HK:=Lib.hid hk
 replace BC:=Lib.hid BC
 clear ht hj hb hk
 clear tab hs hp hl
 go_enter Tryz.func45,Tryz.ntmps45
 go_upto_region 1 with(fail)
 refine at_box2 _ _ _ _ _ ?_
 intro W0 B0 B1 D0 hs0
 have HN:=Lib.hid hn
 refine wp_region_lit ?_
 refine sq_run (.slice A n c) rfl (by kernel_rfl) ?_
 refine sq_run (.int .i64 (n:Int)) rfl (by kernel_rfl) ?_
 refine sq_run (.slice B k d) rfl (by kernel_rfl) ?_
 refine sq_run (.int .i64 (k:Int)) rfl (by kernel_rfl) ?_
 refine sq_run (.int .i64 ((max n k:Nat):Int)) rfl (run_max_op (.tmp 9) (.tmp 11) 3 rfl n k (by kernel_rfl) (by kernel_rfl)) ?_
 refine sq_run (.bool false) rfl (run_bin_op .gtr 3 (.tmp 12) (.const (.int .i64 32)) _ rfl (.int .i64 ((max n k:Nat):Int)) (.int .i64 32) (.bool false) (by kernel_rfl) (by kernel_rfl) (by kernel_rfl) (o_gtr _ (max n k) 32 false (by simp;have:=HN.out;have:=HK.out;omega))) ?_
 refine sq_done ?_
 simp only[Act.put,List.setIfInBounds_toArray,List.set_cons_zero,List.set_cons_succ]
 go_upto_region 3 with(fail)
 refine wp_region_lit ?_
 refine sq_run (.slice A n c) rfl (by kernel_rfl) ?_
 refine sq_load w.heap.size 0 20 33 p.v B0 p.v 33 (.tmp 4) rfl rfl (by kernel_rfl) (by kernel_rfl) (by kernel_rfl) Tryz.underlying33 rfl sizeP ?_
 refine sq_enter 35 #[.slice A n c,.agg p.v] rfl (by kernel_rfl) ((termOf_any A n c p _ (TB.out.below D0)).mono ?_)
 rintro e W1 ⟨rfl,E1⟩
 refine⟨_,rfl,?_⟩
 have D1:=below_nx D0 (Nat.le_refl _) E1
 have B2:=B1.below' E1
 clear E1 B0 D0 B1
 refine sq_run (.slice B k d) rfl (by kernel_rfl) ?_
 refine sq_enter 12 #[] rfl (by kernel_rfl) ((BC.out _ (TB.out.below D1)).mono ?_)
 rintro e W2 ⟨rfl,E2⟩
 refine⟨_,rfl,?_⟩
 have D2:=below_nx D1 (Nat.le_refl _) E2
 have B3:=B2.below' E2
 clear E2 D1 B2
 refine sq_enter 35 #[.slice B k d,.agg q.v] rfl (by kernel_rfl) ((termOf_any B k d q _ (TB.out.below D2)).mono ?_)
 rintro e W3 ⟨rfl,E3⟩
 refine⟨_,rfl,?_⟩
 have D3:=below_nx D2 (Nat.le_refl _) E3
 have B4:=B3.below' E3
 clear E3 D2 B3
 obtain⟨ti0,ti1,hti0,hti1,hti2⟩:=infoT
 refine sq_new (W3.alloc (.cells (tarr2 (.slice A n c) (tbl p) (.slice B k d) (tbl q)) 65)) (.slice (some ⟨W3.heap.size,0,none⟩) 2 2) rfl (by rw[tarr2_eq];exact run_buildSlice2 _ 86 65 (.tmp 17) (.tmp 20) rfl (tarr (.slice A n c) (tbl p)) (tarr (.slice B k d) (tbl q)) (by kernel_rfl) (by kernel_rfl) Tryz.underlying86 ti0 hti0 321 hti2 ti1 hti1 (by decide) (by decide) (tarr_size _ _) (tarr_size _ _)) ?_
 have DA:=D3.alloc D3.size (.cells (tarr2 (.slice A n c) (tbl p) (.slice B k d) (tbl q)) 65)
 have BA:=B4.alloc (.cells (tarr2 (.slice A n c) (tbl p) (.slice B k d) (tbl q)) 65)
 have BN:=Bl.new_ W3 65 (tarr2 (.slice A n c) (tbl p) (.slice B k d) (tbl q))
 clear D3 B4
 refine sq_enter 34 #[.slice (some ⟨W3.heap.size,0,none⟩) 2 2] rfl (by kernel_rfl) ((sum2_any A n c l (tbl p) g B k d j (tbl q) b _ _ (TB.out.below DA) BN (by have:=HN.out;omega) HL.out (HS.out.below DA) (tbl_has HPP.out) (by have:=HK.out;omega) HJ.out (HT.out.below DA) (tbl_has HBB.out)).mono ?_)
 rintro e W5 ⟨r,rfl,hr,E5⟩
 refine⟨_,rfl,?_⟩
 have D5:=below_nx DA (Nat.le_refl _) E5
 have B5:=BA.below' E5
 have HR:=Lib.hid hr
 clear E5 DA BA BN hr
 refine sq_store (w.heap.size+1) 33 _ r.v B5 33 (.tmp 6) (.tmp 22) rfl rfl (by kernel_rfl) (by kernel_rfl) (by kernel_rfl) sizeP (KP.ones _) fun W6 C6 G6=>?_
 refine sq_run (.int .i64 0) rfl (by kernel_rfl) ?_
 refine sq_done ?_
 simp only[Act.put,List.setIfInBounds_toArray,List.set_cons_zero,List.set_cons_succ]
 have HF:=Lib.hid C6
 have hz:=below_only (g:=w.heap.size+1) D5 G6 (by omega)
 go_wp2_with fail
 refine bodyPost_ret (v:=.tuple #[.agg r.v,.int .i64 0]) (Gn.results_cell_tmp 6 33 7 (.int .i64 0) (w.heap.size+1) 33 r.v Tryz.results45 (by kernel_rfl) (by kernel_rfl) HF.out Tryz.underlying33 rfl sizeP) rfl ⟨r,rfl,HR.out,hz⟩
end Go.Proofs.YtoibhnpmemnlfaaGreatDoor.Ed
