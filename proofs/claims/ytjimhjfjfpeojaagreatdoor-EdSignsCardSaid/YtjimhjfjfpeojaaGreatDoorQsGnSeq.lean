/- Joined texts. -/
import Derived.Test.YtjimhjfjfpeojaaGreatDoorQsEdF
import Derived.IntWalk
set_option linter.unusedVariables false
namespace Go.Proofs.YtjimhjfjfpeojaaGreatDoor.Gn
open Go.RowKit Go.Deep
section
variable {P:Program} {ops:Array Oper} {Q:Exit→Act→World→Prop} {rest:List Oper} {o:Oper} {a:Act} {w w':World}
theorem sq_new(w':World)(v:Value)(hgd:o.guard=none)(h:(execOp a.eval o).run P w=.ok (.value v) w')(hk:wpList P ops Q rest (a.put o.dst v) w'):wpList P ops Q (o :: rest) a w :=
 wpList_plain hgd fun K hK=>wp_val h (hK _ _ hk)
theorem sq_run(v:Value)(hgd:o.guard=none)(h:(execOp a.eval o).run P w=.ok (.value v) w)(hk:wpList P ops Q rest (a.put o.dst v) w):wpList P ops Q (o :: rest) a w:=sq_new w v hgd h hk
theorem sq_enter(f:FuncId)(args:Array Value)(hgd:o.guard=none)(h:(execOp a.eval o).run P w=.ok (.enter f args) w)(hc:Calls P f args w fun e w''=>∃v,e=.returned v∧wpList P ops Q rest (a.put o.dst v) w''):wpList P ops Q (o :: rest) a w :=
 wpList_plain hgd fun K hK=>wp_enter h (hc.mono (by rintro e w'' ⟨v,he,hk⟩;exact⟨v,he,hK _ _ hk⟩))
theorem sq_load(g k n:Nat)(t:TypeId)(cs:Array Value)(hb:Bl w g t cs)(vs:Array Value)(ty:TypeId)(x:Operand){d:TypeDesc}(hgd:o.guard=none)(ho:o.op=.load ty x)(hx:a.eval x=.pointer (some ⟨g,k,none⟩))(hle:Nat.ble (k+n) cs.size=true)(hvs:cs.extract k (k+n)=vs)
  (hu:P.underlying ty=some d) (hd:d.isRow=true) (hi:(P.info? ty).map (·.size)=some n) (hk:wpList P ops Q rest (a.put o.dst (.agg vs)) w):wpList P ops Q (o :: rest) a w :=
 sq_run (.agg vs) hgd (run_load_op ty x ho g k n hx t cs hb d (Nat.le_of_ble_eq_true hle) vs hvs hu hd hi) hk
theorem sq_cell(ad:Addr)(v:Value)(hc:w.cell? ad=some v)(ty:TypeId)(x:Operand){d:TypeDesc}(hgd:o.guard=none)(ho:o.op=.load ty x)(hx:a.eval x=.pointer (some ad))(hu:P.underlying ty=some d)(hd:d.isRow=false)(hk:wpList P ops Q rest (a.put o.dst v) w):wpList P ops Q (o :: rest) a w :=
 sq_run v hgd (run_cell_op ty x ho ad hx v hc d hu hd) hk
theorem sq_store(g:Nat)(t:TypeId)(cs vs:Array Value)(hb:Bl w g t cs)(ty:TypeId)(x y:Operand)(hgd:o.guard=none)(ho:o.op=.store ty x y)(hx:a.eval x=.pointer (some ⟨g,0,none⟩))(hy:a.eval y=.agg vs)(hz:cs.size=vs.size)(hi:(P.info? ty).map (·.size)=some vs.size)(h1:∀v∈vs.toList,v.oneCell'=true)
  (hk:∀w',Bl w' g t vs→w.grownBy w' (some g)→wpList P ops Q rest (a.put o.dst undef) w'):wpList P ops Q (o :: rest) a w:=by
 refine wpList_store_bl hgd ty x y ho g 0 vs hx hy t cs hb (by omega) hi h1 fun w' h2 h3=>?_
 rw[spl_all _ _ (by simpa using hz)] at h2
 exact hk w' (by simpa using h2) h3
theorem sq_done(h:Q .normal a w):wpList P ops Q [] a w:=h
end
end Go.Proofs.YtjimhjfjfpeojaaGreatDoor.Gn
namespace Go.Proofs.YtjimhjfjfpeojaaGreatDoor.Ed
open Go.RowKit Go.Proofs.YtjimhjfjfpeojaaGreatDoor.Gn Go.Proofs.YtjimhjfjfpeojaaGreatDoor.Fd Go.Deep
theorem o_gtr(w:World)(a n:Nat)(b:Bool)(hb:decide (n < a)=b):(binOp .gtr 3 (.int .i64 (a:Int)) (.int .i64 (n:Int))).run Tryz.prog w=.ok (.bool b) w:=by
 subst hb
 go_simp
def RetPE(g:G)(w:World)(e:Ending)(w':World):Prop:=∃r:KP,e=.returned (.tuple #[.agg r.v,.int .i64 0])∧Hp r g∧Below w.heap.size w w'
set_option maxRecDepth 100000 in
set_option maxHeartbeats 4000000 in
theorem Mul_any(A:Option Addr)(n c:Nat)(l:List Nat)(p:KP)(w:World)(g:G)(tab:TabE w)(hn:n≤32)(hl:∀x∈l,x < 256)(hs:Sl w A n (bl l))(hp:Hp p g):Calls Tryz.prog 27 #[.slice A n c,.agg p.v] w (RetPE (ti (le l) g) w):=by
 have TB:=Lib.hid tab
 have HS:=Lib.hid hs
 have HPP:=Lib.hid hp
 have HL:=Lib.hid hl
 clear tab hs hp hl
 go_enter Tryz.func27,Tryz.ntmps27
 go_upto_region 1 with(fail)
 refine at_box2 _ _ _ _ _ ?_
 intro W0 B0 B1 D0 hs0
 have HN:=Lib.hid hn
 refine wp_region_lit ?_
 refine sq_run (.slice A n c) rfl (by kernel_rfl) ?_
 refine sq_run (.int .i64 (n:Int)) rfl (by kernel_rfl) ?_
 refine sq_run (.bool false) rfl (run_bin_op .gtr 3 (.tmp 7) (.const (.int .i64 32)) _ rfl (.int .i64 (n:Int)) (.int .i64 32) (.bool false) (by kernel_rfl) (by kernel_rfl) (by kernel_rfl) (o_gtr _ n 32 false (by simp;have:=HN.out;omega))) ?_
 refine sq_done ?_
 simp only[Act.put,List.setIfInBounds_toArray,List.set_cons_zero,List.set_cons_succ]
 go_upto_region 3 with(fail)
 refine wp_region_lit ?_
 refine sq_run (.slice A n c) rfl (by kernel_rfl) ?_
 refine sq_load w.heap.size 0 20 28 p.v B0 p.v 28 (.tmp 3) rfl rfl (by kernel_rfl) (by kernel_rfl) (by kernel_rfl) Tryz.underlying28 rfl sizeP ?_
 refine sq_enter 67 #[.slice A n c,.agg p.v] rfl (by kernel_rfl) ((termOf_any A n c p _ (TB.out.below D0)).mono ?_)
 rintro e W1 ⟨rfl,E1⟩
 refine⟨_,rfl,?_⟩
 have D1:=below_nx D0 (Nat.le_refl _) E1
 have B2:=B1.below' E1
 clear E1 B0 D0 B1
 refine sq_new (W1.alloc (.cells (tarr (.slice A n c) (tbl p)) 87)) (.slice (some ⟨W1.heap.size,0,none⟩) 1 1) rfl (by kernel_rfl) ?_
 have DA:=D1.alloc D1.size (.cells (tarr (.slice A n c) (tbl p)) 87)
 have BA:=B2.alloc (.cells (tarr (.slice A n c) (tbl p)) 87)
 have BN:=Bl.new_ W1 87 (tarr (.slice A n c) (tbl p))
 clear D1 B2
 refine sq_enter 66 #[.slice (some ⟨W1.heap.size,0,none⟩) 1 1] rfl (by kernel_rfl) ((sum1_any A n c l (tbl p) g _ _ (TB.out.below DA) BN (by have:=HN.out;omega) HL.out (HS.out.below DA) (tbl_has HPP.out)).mono ?_)
 rintro e W5 ⟨r,rfl,hr,E5⟩
 refine⟨_,rfl,?_⟩
 have D5:=below_nx DA (Nat.le_refl _) E5
 have B5:=BA.below' E5
 have HR:=Lib.hid hr
 clear E5 DA BA BN hr
 refine sq_store (w.heap.size+1) 28 _ r.v B5 28 (.tmp 4) (.tmp 14) rfl rfl (by kernel_rfl) (by kernel_rfl) (by kernel_rfl) sizeP (KP.ones _) fun W6 C6 G6=>?_
 refine sq_run (.int .i64 0) rfl (by kernel_rfl) ?_
 refine sq_done ?_
 simp only[Act.put,List.setIfInBounds_toArray,List.set_cons_zero,List.set_cons_succ]
 have HF:=Lib.hid C6
 have hz:=below_only (g:=w.heap.size+1) D5 G6 (by omega)
 go_wp2_with fail
 refine bodyPost_ret (v:=.tuple #[.agg r.v,.int .i64 0]) (Gn.results_cell_tmp 4 28 5 (.int .i64 0) (w.heap.size+1) 28 r.v Tryz.results27 (by kernel_rfl) (by kernel_rfl) HF.out Tryz.underlying28 rfl sizeP) rfl ⟨r,rfl,HR.out,hz⟩
end Go.Proofs.YtjimhjfjfpeojaaGreatDoor.Ed
