/- Joined texts. -/
import Derived.IntWalk
import Derived.Test.YtoibhnpmemnlfaaGreatDoorQtEdD
set_option linter.unusedVariables false
namespace Go.Proofs.YtoibhnpmemnlfaaGreatDoor.Ed
open Go.RowKit Go.Proofs.YtoibhnpmemnlfaaGreatDoor.Gn Go.Proofs.YtoibhnpmemnlfaaGreatDoor.Fd Go.Deep
theorem OV.loadp{P:Program}{ops:Array Oper}{a:Act}{sp:List (Option Value)}{vs_:List Var}{out:Option Res}{w0:World}{i:Nat}{o:Oper}(g k n:Nat)(t:TypeId)(cs:Array Value)(hb:Bl w0 g t cs)(hg:out.map Res.g≠some g)(vs:Array Value)(ty:TypeId)(x:Operand)(d:TypeDesc)(hc:calm vs_ out i=true)(hw:∀γ,Region.wanted o (yielded ops (fr ops a (exo ops a i o (spx sp) γ)).tmps)=true)(hv:sp[i]?=some (some (.agg vs)))
  (ho:o.op=.load ty x) (hx:∀γ,(fr ops a (exo ops a i o (spx sp) γ)).eval x=.pointer (some ⟨g,k,none⟩)) (hle:k+n≤cs.size) (hvs:cs.extract k (k+n)=vs)
  (hu:P.underlying ty=some d) (hd:d.isRow=true) (hi:(P.info? ty).map (·.size)=some n):OV P ops a sp vs_ out w0 i o :=
 ⟨OwesV.load g k n t cs hb hg vs ty x d hc hw (spx_is hv) ho hx hle hvs hu hd hi⟩
theorem run_bin_op{P:Program}{o:Oper}{a:Act}{w:World}(op:BinOp)(T:TypeId)(x y:Operand)(T2:TypeId)(ho:o.op=.binOp op T x y T2)(vx vy v:Value)(hx:a.eval x=vx)(hy:a.eval y=vy)
  (hg:(eqGuard op T x y vx vy).run P w=.ok () w) (h:(binOp op T vx vy).run P w=.ok v w):(execOp a.eval o).run P w=.ok (.value v) w:=by
 unfold execOp
 simp only[ho,hx,hy,Sem.run_bind,hg,Result.andThen_ok,h,Sem.run_pure]
theorem run_index_op{P:Program}{o:Oper}{a:Act}{w:World}(T:TypeId)(x y:Operand)(ho:o.op=.indexAddr T x y)(vx vy v:Value)(hx:a.eval x=vx)(hy:a.eval y=vy)
  (h:(Instr.indexAt T vx vy).run P w=.ok v w):(execOp a.eval o).run P w=.ok (.value v) w:=by
 unfold execOp
 simp only[ho,hx,hy,Sem.run_bind,Result.andThen_ok,h,Sem.run_pure]
section
variable (w:World)
theorem o_quo2(p:Nat)(h:p < 4611686018427387904):(binOp .quo 3 (.int .i64 (p:Int)) (.int .i64 2)).run Tryz.prog w=.ok (.int .i64 ((p / 2:Nat):Int)) w:=by
 go_simp
 exact IntWalk.i64_in _ (by omega)
theorem o_rem2(p:Nat):(binOp .rem 3 (.int .i64 (p:Int)) (.int .i64 2)).run Tryz.prog w=.ok (.int .i64 ((p%2:Nat):Int)) w:=by
 go_simp
 rw[Int.tmod_eq_emod_of_nonneg (by omega)]
theorem o_mul4(p:Nat)(h:p < 2):(binOp .mul 3 (.int .i64 (p:Int)) (.int .i64 4)).run Tryz.prog w=.ok (.int .i64 ((p*4:Nat):Int)) w:=by
 go_simp
 all_goals first|exact IntWalk.i64_in _ (by omega)|rfl
theorem o_shr(b k:Nat)(h:b < 256)(hk:k < 8):(binOp .shr 5 (.int .u8 (b:Int)) (.int .i64 (k:Int))).run Tryz.prog w=.ok (.int .u8 ((b / 2 ^ k:Nat):Int)) w:=by
 go_simp
theorem and15:∀b:Nat,b < 256→bits .and .u8 (b:Int) 15=((b%16:Nat):Int):=by decide +kernel
theorem o_and15(b:Nat)(h:b < 256):(binOp .and 5 (.int .u8 (b:Int)) (.int .u8 15)).run Tryz.prog w=.ok (.int .u8 ((b%16:Nat):Int)) w:=by
 have:=and15 b h
 go_simp
 try simpa using this
theorem o_geq(a n:Nat)(b:Bool)(hb:decide (n≤a)=b):(binOp .geq 3 (.int .i64 (a:Int)) (.int .i64 (n:Int))).run Tryz.prog w=.ok (.bool b) w:=by
 subst hb
 go_simp
theorem o_idx(ad:Addr)(n c k:Nat)(h:k < n):(Instr.indexAt 22 (.slice (some ad) n c) (.int .i64 (k:Int))).run Tryz.prog w=.ok (.pointer (some (ad.add k))) w:=by
 go_simp
theorem o_idxP(g off k:Nat)(h:k < 16):(Instr.indexAt 63 (.pointer (some ⟨g,off,none⟩)) (.int .u8 (k:Int))).run Tryz.prog w=.ok (.pointer (some ⟨g,off+20*k,none⟩)) w:=by
 have:∀k:Nat,k < 16→(Instr.indexAt 63 (.pointer (some ⟨g,off,none⟩)) (.int .u8 (k:Int))).run Tryz.prog w=.ok (.pointer (some ⟨g,off+20*k,none⟩)) w:=by
  intro k hk
  obtain h:k=0∨k=1∨k=2∨k=3∨k=4∨k=5∨k=6∨k=7∨k=8∨k=9∨k=10∨k=11∨k=12∨k=13∨k=14∨k=15:=by omega
  rcases h with rfl|rfl|rfl|rfl|rfl|rfl|rfl|rfl|rfl|rfl|rfl|rfl|rfl|rfl|rfl|rfl <;> kernel_rfl
 exact this k h
end
set_option maxRecDepth 100000 in
set_option maxHeartbeats 4000000 in
theorem half_lo(g off:Nat)(T:TypeId)(cs:Array Value)(A:Option Addr)(n c:Nat)(l:List Nat)(f:Nat→KP)(place:Nat)(w:World)(hb:Bl w g T cs)(hn:cs[off]?=some (.slice A n c))(hp:∀j,j < 16→cs.extract (off+1+20*j) (off+1+20*j+20)=(f j).v)(hsz:off+321≤cs.size)
  (hl:∀x∈l,x < 256) (hs:Sl w A n (bl l)) (hpl:place < 4611686018427387904) (hlt:n≤place / 2) :
  Calls Tryz.prog 62 #[.pointer (some ⟨g,off,none⟩),.int .i64 (place:Int)] w fun e w'=>e=.returned (.agg (f (hf l place)).v)∧Below w.heap.size w w':=by
 have hln:l.length=n:=by simpa[bl] using hs.1
 have hgl:=hb.lt
 have hz:hf l place=0:=half_above l place (by omega)
 rw[hz]
 go_enter Tryz.func62,Tryz.ntmps62
 go_upto_region 1 with(fail)
 refine at_box1 _ _ _ ?_
 intro W0 B0 D0 hs0
 have hb0:=hb.below' D0
 have hc0:W0.cell? ⟨g,off,none⟩=some (.slice A n c):=hb0.cell_ hn
 refine wp_region_o (sp:=[some (.int .i64 ((place:Nat):Int)),some (.int .i64 ((place / 2:Nat):Int)),some (.pointer (some ⟨g,off,none⟩)),some (.pointer (some ⟨g,off,none⟩)),some (.pointer (some ⟨g,off,none⟩)),some (.slice A n c),some (.int .i64 ((n:Nat):Int)),some (.bool true)]) (vs:=[]) (out:=none) (by kernel_rfl) (by kernel_rfl) (by kernel_rfl) (by kernel_rfl) (by kernel_rfl) (by simp) ?_ ?_
 ·refine Each.cons ?_<|Each.cons ?_<|Each.cons ?_<|Each.cons ?_<|Each.cons ?_<|Each.cons ?_<|Each.cons ?_<|Each.cons ?_<|Each.nil
  ·exact OV.val (.int .i64 ((place:Nat):Int)) (by kernel_rfl) (fun γ=>by kernel_rfl) (by kernel_rfl) (fun γ w=>by kernel_rfl)
  ·exact OV.val (.int .i64 ((place / 2:Nat):Int)) (by kernel_rfl) (fun γ=>by kernel_rfl) (by kernel_rfl) (fun γ w=>run_bin_op .quo 3 (.tmp 5) (.const (.int .i64 2)) _ rfl (.int .i64 ((place:Nat):Int)) (.int .i64 2) (.int .i64 ((place / 2:Nat):Int)) (by kernel_rfl) (by kernel_rfl) (by kernel_rfl) (o_quo2 w place hpl))
  ·exact OV.val (.pointer (some ⟨g,off,none⟩)) (by kernel_rfl) (fun γ=>by kernel_rfl) (by kernel_rfl) (fun γ w=>by kernel_rfl)
  ·exact OV.val (.pointer (some ⟨g,off,none⟩)) (by kernel_rfl) (fun γ=>by kernel_rfl) (by kernel_rfl) (fun γ w=>by kernel_rfl)
  ·exact OV.val (.pointer (some ⟨g,off,none⟩)) (by kernel_rfl) (fun γ=>by kernel_rfl) (by kernel_rfl) (fun γ w=>by kernel_rfl)
  ·exact OV.cell ⟨g,off,none⟩ (.slice A n c) hc0 (by simp) 22 (.tmp 9) _ (by kernel_rfl) (fun γ=>by kernel_rfl) (by kernel_rfl) rfl (fun γ=>by kernel_rfl) Tryz.underlying22 rfl
  ·exact OV.val (.int .i64 ((n:Nat):Int)) (by kernel_rfl) (fun γ=>by kernel_rfl) (by kernel_rfl) (fun γ w=>by kernel_rfl)
  ·exact OV.val (.bool true) (by kernel_rfl) (fun γ=>by kernel_rfl) (by kernel_rfl) (fun γ w=>run_bin_op .geq 3 (.tmp 6) (.tmp 11) _ rfl (.int .i64 ((place / 2:Nat):Int)) (.int .i64 ((n:Nat):Int)) (.bool true) (by kernel_rfl) (by kernel_rfl) (by kernel_rfl) (o_geq w (place / 2) n true (by simp;omega)))
 intro γ W1 hgr1 hat hx2 hres
 clear hat hx2 hres
 have B1:=B0.grown hgr1 (by simp)
 have hb1:=hb0.grown hgr1 (by simp)
 have D1:=below_none D0 hgr1
 have z1:=hgr1.size
 simp only[fr,fill,exa,spx,List.map_cons,List.map_nil,List.getElem?_cons_zero,List.getElem?_cons_succ,List.setIfInBounds_toArray,List.set_cons_zero,List.set_cons_succ]
 go_upto_region 2 with(fail)
 refine wp_region_o (sp:=[some (.pointer (some ⟨g,off,none⟩)),some (.pointer (some ⟨g,off,none⟩)),some (.pointer (some ⟨g,off+1,none⟩)),some (.pointer (some ⟨g,off+1,none⟩)),some (.agg (f 0).v),none]) (vs:=[]) (out:=some ⟨5,w.heap.size,33,z20,(f 0).v⟩) (by kernel_rfl) (by kernel_rfl) (by kernel_rfl) (by kernel_rfl) (by kernel_rfl) (fun r hr=>by obtain rfl:_=r:=Option.some.inj hr;exact⟨B1.lt,B1,Nat.le_of_ble_eq_true (by kernel_rfl)⟩) ?_ ?_
 ·refine Each.cons ?_<|Each.cons ?_<|Each.cons ?_<|Each.cons ?_<|Each.cons ?_<|Each.cons ?_<|Each.nil
  ·exact OV.val (.pointer (some ⟨g,off,none⟩)) (by kernel_rfl) (fun γ=>by kernel_rfl) (by kernel_rfl) (fun γ w=>by kernel_rfl)
  ·exact OV.val (.pointer (some ⟨g,off,none⟩)) (by kernel_rfl) (fun γ=>by kernel_rfl) (by kernel_rfl) (fun γ w=>by kernel_rfl)
  ·exact OV.val (.pointer (some ⟨g,off+1,none⟩)) (by kernel_rfl) (fun γ=>by kernel_rfl) (by kernel_rfl) (fun γ w=>by kernel_rfl)
  ·exact OV.val (.pointer (some ⟨g,off+1,none⟩)) (by kernel_rfl) (fun γ=>by kernel_rfl) (by kernel_rfl) (fun γ w=>by kernel_rfl)
  ·exact OV.loadp g (off+1) 20 T cs hb1 (by simp only[Option.map_some,ne_eq,Option.some.injEq];omega) (f 0).v 33 (.tmp 16) _ (by kernel_rfl) (fun γ=>by kernel_rfl) (by kernel_rfl) rfl (fun γ=>by kernel_rfl) (by omega) (hp 0 (by decide)) Tryz.underlying33 rfl sizeP
  ·exact OV.res_ rfl (by kernel_rfl) (by kernel_rfl) (fun γ=>by kernel_rfl) 33 (.tmp 4) (.tmp 17) rfl (fun γ=>by kernel_rfl) (fun γ=>by kernel_rfl) (by kernel_rfl) sizeP (KP.ones _)
 intro γ w' hgr hx1 hx2 hres
 clear hx1 hx2
 have hbf:=hres _ rfl
 have hz:=below_only (g:=w.heap.size) D1 hgr (Nat.le_refl _)
 go_wp2_with fail
 refine bodyPost_ret (v:=.agg (f 0).v) (results_cell 4 33 _ _ _ Tryz.results62 (by kernel_rfl) hbf Tryz.underlying33 rfl sizeP) rfl ⟨rfl,hz⟩
set_option maxRecDepth 100000 in
set_option maxHeartbeats 4000000 in
theorem half_hi(g off:Nat)(T:TypeId)(cs:Array Value)(A:Option Addr)(n c:Nat)(l:List Nat)(f:Nat→KP)(place:Nat)(w:World)(hb:Bl w g T cs)(hn:cs[off]?=some (.slice A n c))(hp:∀j,j < 16→cs.extract (off+1+20*j) (off+1+20*j+20)=(f j).v)(hsz:off+321≤cs.size)
  (hl:∀x∈l,x < 256) (hs:Sl w A n (bl l)) (hpl:place < 4611686018427387904) (hlt:place / 2 < n) :
  Calls Tryz.prog 62 #[.pointer (some ⟨g,off,none⟩),.int .i64 (place:Int)] w fun e w'=>e=.returned (.agg (f (hf l place)).v)∧Below w.heap.size w w':=by
 have hln:l.length=n:=by simpa[bl] using hs.1
 have hgl:=hb.lt
 obtain⟨ad,hA,hcell⟩:=hs.at_ hlt
 subst hA
 obtain⟨x,hx⟩:∃x,l.getD (place / 2) 0=x:=⟨_,rfl⟩
 have hxl:(bl l)[place / 2]?=some (.int .u8 (x:Int)):=by
  rw[bl_get,←hx,List.getD_eq_getElem?_getD,List.getElem?_eq_getElem (by omega)];rfl
 rw[hxl] at hcell
 have x256:x < 256:=by rw[←hx,List.getD_eq_getElem?_getD,List.getElem?_eq_getElem (show place / 2 < l.length by omega)];exact hl _ (List.getElem_mem _)
 obtain⟨y,hy⟩:∃y,x / 2 ^ (place%2*4)=y:=⟨_,rfl⟩
 have y256:y < 256:=by rw[←hy];exact Nat.lt_of_le_of_lt (Nat.div_le_self _ _) x256
 have hd:hf l place=y%16:=by
  unfold hf
  rw[hx,←hy,show(16:Nat)=2 ^ 4 from rfl,←Nat.pow_mul,Nat.mul_comm 4]
 rw[hd]
 have d16:y%16 < 16:=Nat.mod_lt _ (by decide)
 have hcb:ad.block < w.heap.size:=by have:=cell_lt hcell;rwa [add_block] at this
 go_enter Tryz.func62,Tryz.ntmps62
 go_upto_region 1 with(fail)
 refine at_box1 _ _ _ ?_
 intro W0 B0 D0 hs0
 have hb0:=hb.below' D0
 have hc0:W0.cell? ⟨g,off,none⟩=some (.slice (some ad) n c):=hb0.cell_ hn
 have hc1:W0.cell? (ad.add (place / 2))=some (.int .u8 (x:Int)):=keepc D0 hcell
 refine wp_region_o (sp:=[some (.int .i64 ((place:Nat):Int)),some (.int .i64 ((place / 2:Nat):Int)),some (.pointer (some ⟨g,off,none⟩)),some (.pointer (some ⟨g,off,none⟩)),some (.pointer (some ⟨g,off,none⟩)),some (.slice (some ad) n c),some (.int .i64 ((n:Nat):Int)),some (.bool false)]) (vs:=[]) (out:=none) (by kernel_rfl) (by kernel_rfl) (by kernel_rfl) (by kernel_rfl) (by kernel_rfl) (by simp) ?_ ?_
 ·refine Each.cons ?_<|Each.cons ?_<|Each.cons ?_<|Each.cons ?_<|Each.cons ?_<|Each.cons ?_<|Each.cons ?_<|Each.cons ?_<|Each.nil
  ·exact OV.val (.int .i64 ((place:Nat):Int)) (by kernel_rfl) (fun γ=>by kernel_rfl) (by kernel_rfl) (fun γ w=>by kernel_rfl)
  ·exact OV.val (.int .i64 ((place / 2:Nat):Int)) (by kernel_rfl) (fun γ=>by kernel_rfl) (by kernel_rfl) (fun γ w=>run_bin_op .quo 3 (.tmp 5) (.const (.int .i64 2)) _ rfl (.int .i64 ((place:Nat):Int)) (.int .i64 2) (.int .i64 ((place / 2:Nat):Int)) (by kernel_rfl) (by kernel_rfl) (by kernel_rfl) (o_quo2 w place hpl))
  ·exact OV.val (.pointer (some ⟨g,off,none⟩)) (by kernel_rfl) (fun γ=>by kernel_rfl) (by kernel_rfl) (fun γ w=>by kernel_rfl)
  ·exact OV.val (.pointer (some ⟨g,off,none⟩)) (by kernel_rfl) (fun γ=>by kernel_rfl) (by kernel_rfl) (fun γ w=>by kernel_rfl)
  ·exact OV.val (.pointer (some ⟨g,off,none⟩)) (by kernel_rfl) (fun γ=>by kernel_rfl) (by kernel_rfl) (fun γ w=>by kernel_rfl)
  ·exact OV.cell ⟨g,off,none⟩ (.slice (some ad) n c) hc0 (by simp) 22 (.tmp 9) _ (by kernel_rfl) (fun γ=>by kernel_rfl) (by kernel_rfl) rfl (fun γ=>by kernel_rfl) Tryz.underlying22 rfl
  ·exact OV.val (.int .i64 ((n:Nat):Int)) (by kernel_rfl) (fun γ=>by kernel_rfl) (by kernel_rfl) (fun γ w=>by kernel_rfl)
  ·exact OV.val (.bool false) (by kernel_rfl) (fun γ=>by kernel_rfl) (by kernel_rfl) (fun γ w=>run_bin_op .geq 3 (.tmp 6) (.tmp 11) _ rfl (.int .i64 ((place / 2:Nat):Int)) (.int .i64 ((n:Nat):Int)) (.bool false) (by kernel_rfl) (by kernel_rfl) (by kernel_rfl) (o_geq w (place / 2) n false (by simp;omega)))
 intro γ W1 hgr1 hat hx2 hres
 clear hat hx2 hres
 have B1:=B0.grown hgr1 (by simp)
 have hb1:=hb0.grown hgr1 (by simp)
 have D1:=below_none D0 hgr1
 have z1:=hgr1.size
 simp only[fr,fill,exa,spx,List.map_cons,List.map_nil,List.getElem?_cons_zero,List.getElem?_cons_succ,List.setIfInBounds_toArray,List.set_cons_zero,List.set_cons_succ]
 go_upto_region 3 with(fail)
 refine wp_region_o (sp:=[some (.pointer (some ⟨g,off,none⟩)),some (.pointer (some ⟨g,off,none⟩)),some (.pointer (some ⟨g,off,none⟩)),some (.pointer (some ⟨g,off,none⟩)),some (.slice (some ad) n c),some (.int .i64 ((place:Nat):Int)),some (.int .i64 ((place / 2:Nat):Int)),some (.pointer (some (ad.add (place / 2)))),some (.int .u8 ((x:Nat):Int)),some (.int .i64 ((place:Nat):Int)),some (.int .i64 ((place%2:Nat):Int)),some (.int .i64 ((place%2*4:Nat):Int)),some (.int .u8 ((y:Nat):Int)),some (.int .u8 ((y%16:Nat):Int)),some (.pointer (some ⟨g,off,none⟩)),some (.pointer (some ⟨g,off+1,none⟩)),some (.pointer (some ⟨g,off+1+20*(y%16),none⟩)),some (.agg (f (y%16)).v),none]) (vs:=[]) (out:=some ⟨18,w.heap.size,33,z20,(f (y%16)).v⟩) (by kernel_rfl) (by kernel_rfl) (by kernel_rfl) (by kernel_rfl) (by kernel_rfl) (fun r hr=>by obtain rfl:_=r:=Option.some.inj hr;exact⟨B1.lt,B1,Nat.le_of_ble_eq_true (by kernel_rfl)⟩) ?_ ?_
 ·refine Each.cons ?_<|Each.cons ?_<|Each.cons ?_<|Each.cons ?_<|Each.cons ?_<|Each.cons ?_<|Each.cons ?_<|Each.cons ?_<|Each.cons ?_<|Each.cons ?_<|Each.cons ?_<|Each.cons ?_<|Each.cons ?_<|Each.cons ?_<|Each.cons ?_<|Each.cons ?_<|Each.cons ?_<|Each.cons ?_<|Each.cons ?_<|Each.nil
  ·exact OV.val (.pointer (some ⟨g,off,none⟩)) (by kernel_rfl) (fun γ=>by kernel_rfl) (by kernel_rfl) (fun γ w=>by kernel_rfl)
  ·exact OV.val (.pointer (some ⟨g,off,none⟩)) (by kernel_rfl) (fun γ=>by kernel_rfl) (by kernel_rfl) (fun γ w=>by kernel_rfl)
  ·exact OV.val (.pointer (some ⟨g,off,none⟩)) (by kernel_rfl) (fun γ=>by kernel_rfl) (by kernel_rfl) (fun γ w=>by kernel_rfl)
  ·exact OV.val (.pointer (some ⟨g,off,none⟩)) (by kernel_rfl) (fun γ=>by kernel_rfl) (by kernel_rfl) (fun γ w=>by kernel_rfl)
  ·exact OV.cell ⟨g,off,none⟩ (.slice (some ad) n c) (hb1.cell_ hn) (by simp only[Option.map_some,ne_eq,Option.some.injEq];omega) 22 (.tmp 21) _ (by kernel_rfl) (fun γ=>by kernel_rfl) (by kernel_rfl) rfl (fun γ=>by kernel_rfl) Tryz.underlying22 rfl
  ·exact OV.val (.int .i64 ((place:Nat):Int)) (by kernel_rfl) (fun γ=>by kernel_rfl) (by kernel_rfl) (fun γ w=>by kernel_rfl)
  ·exact OV.val (.int .i64 ((place / 2:Nat):Int)) (by kernel_rfl) (fun γ=>by kernel_rfl) (by kernel_rfl) (fun γ w=>run_bin_op .quo 3 (.tmp 23) (.const (.int .i64 2)) _ rfl (.int .i64 ((place:Nat):Int)) (.int .i64 2) (.int .i64 ((place / 2:Nat):Int)) (by kernel_rfl) (by kernel_rfl) (by kernel_rfl) (o_quo2 w place hpl))
  ·exact OV.val (.pointer (some (ad.add (place / 2)))) (by kernel_rfl) (fun γ=>by kernel_rfl) (by kernel_rfl) (fun γ w=>run_index_op 22 (.tmp 22) (.tmp 24) rfl (.slice (some ad) n c) (.int .i64 ((place / 2:Nat):Int)) (.pointer (some (ad.add (place / 2)))) (by kernel_rfl) (by kernel_rfl) (o_idx w ad n c (place / 2) hlt))
  ·exact OV.cell (ad.add (place / 2)) (.int .u8 ((x:Nat):Int)) ((only_cell hgr1 (cell_lt hc1) (by simp)).trans hc1) (by rw[add_block];simp only[Option.map_some,ne_eq,Option.some.injEq];omega) 5 (.tmp 25) _ (by kernel_rfl) (fun γ=>by kernel_rfl) (by kernel_rfl) rfl (fun γ=>by kernel_rfl) Tryz.underlying5 rfl
  ·exact OV.val (.int .i64 ((place:Nat):Int)) (by kernel_rfl) (fun γ=>by kernel_rfl) (by kernel_rfl) (fun γ w=>by kernel_rfl)
  ·exact OV.val (.int .i64 ((place%2:Nat):Int)) (by kernel_rfl) (fun γ=>by kernel_rfl) (by kernel_rfl) (fun γ w=>run_bin_op .rem 3 (.tmp 27) (.const (.int .i64 2)) _ rfl (.int .i64 ((place:Nat):Int)) (.int .i64 2) (.int .i64 ((place%2:Nat):Int)) (by kernel_rfl) (by kernel_rfl) (by kernel_rfl) (o_rem2 w place))
  ·exact OV.val (.int .i64 ((place%2*4:Nat):Int)) (by kernel_rfl) (fun γ=>by kernel_rfl) (by kernel_rfl) (fun γ w=>run_bin_op .mul 3 (.tmp 28) (.const (.int .i64 4)) _ rfl (.int .i64 ((place%2:Nat):Int)) (.int .i64 4) (.int .i64 ((place%2*4:Nat):Int)) (by kernel_rfl) (by kernel_rfl) (by kernel_rfl) (o_mul4 w (place%2) (by omega)))
  ·exact OV.val (.int .u8 ((y:Nat):Int)) (by kernel_rfl) (fun γ=>by kernel_rfl) (by kernel_rfl) (fun γ w=>run_bin_op .shr 5 (.tmp 26) (.tmp 29) _ rfl (.int .u8 ((x:Nat):Int)) (.int .i64 ((place%2*4:Nat):Int)) (.int .u8 ((y:Nat):Int)) (by kernel_rfl) (by kernel_rfl) (by kernel_rfl) (by rw[←hy];exact o_shr w x (place%2*4) x256 (by omega)))
  ·exact OV.val (.int .u8 ((y%16:Nat):Int)) (by kernel_rfl) (fun γ=>by kernel_rfl) (by kernel_rfl) (fun γ w=>run_bin_op .and 5 (.tmp 30) (.const (.int .u8 15)) _ rfl (.int .u8 ((y:Nat):Int)) (.int .u8 15) (.int .u8 ((y%16:Nat):Int)) (by kernel_rfl) (by kernel_rfl) (by kernel_rfl) (o_and15 w y y256))
  ·exact OV.val (.pointer (some ⟨g,off,none⟩)) (by kernel_rfl) (fun γ=>by kernel_rfl) (by kernel_rfl) (fun γ w=>by kernel_rfl)
  ·exact OV.val (.pointer (some ⟨g,off+1,none⟩)) (by kernel_rfl) (fun γ=>by kernel_rfl) (by kernel_rfl) (fun γ w=>by kernel_rfl)
  ·exact OV.val (.pointer (some ⟨g,off+1+20*(y%16),none⟩)) (by kernel_rfl) (fun γ=>by kernel_rfl) (by kernel_rfl) (fun γ w=>run_index_op 63 (.tmp 33) (.tmp 31) rfl (.pointer (some ⟨g,off+1,none⟩)) (.int .u8 ((y%16:Nat):Int)) (.pointer (some ⟨g,off+1+20*(y%16),none⟩)) (by kernel_rfl) (by kernel_rfl) (o_idxP w g (off+1) (y%16) d16))
  ·exact OV.loadp g (off+1+20*(y%16)) 20 T cs hb1 (by simp only[Option.map_some,ne_eq,Option.some.injEq];omega) (f (y%16)).v 33 (.tmp 34) _ (by kernel_rfl) (fun γ=>by kernel_rfl) (by kernel_rfl) rfl (fun γ=>by kernel_rfl) (by omega) (hp (y%16) d16) Tryz.underlying33 rfl sizeP
  ·exact OV.res_ rfl (by kernel_rfl) (by kernel_rfl) (fun γ=>by kernel_rfl) 33 (.tmp 4) (.tmp 35) rfl (fun γ=>by kernel_rfl) (fun γ=>by kernel_rfl) (by kernel_rfl) sizeP (KP.ones _)
 intro γ w' hgr hx1 hx2 hres
 clear hx1 hx2
 have hbf:=hres _ rfl
 have hz:=below_only (g:=w.heap.size) D1 hgr (Nat.le_refl _)
 go_wp2_with fail
 refine bodyPost_ret (v:=.agg (f (y%16)).v) (results_cell 4 33 _ _ _ Tryz.results62 (by kernel_rfl) hbf Tryz.underlying33 rfl sizeP) rfl ⟨rfl,hz⟩
theorem half_any(g off:Nat)(T:TypeId)(cs:Array Value)(A:Option Addr)(n c:Nat)(l:List Nat)(f:Nat→KP)(place:Nat)(w:World)(hb:Bl w g T cs)(hn:cs[off]?=some (.slice A n c))(hp:∀j,j < 16→cs.extract (off+1+20*j) (off+1+20*j+20)=(f j).v)(hsz:off+321≤cs.size)
  (hl:∀x∈l,x < 256) (hs:Sl w A n (bl l)) (hpl:place < 4611686018427387904) :
  Calls Tryz.prog 62 #[.pointer (some ⟨g,off,none⟩),.int .i64 (place:Int)] w fun e w'=>e=.returned (.agg (f (hf l place)).v)∧Below w.heap.size w w':=by
 rcases Nat.lt_or_ge (place / 2) n with h|h
 ·exact half_hi g off T cs A n c l f place w hb hn hp hsz hl hs hpl h
 ·exact half_lo g off T cs A n c l f place w hb hn hp hsz hl hs hpl h
end Go.Proofs.YtoibhnpmemnlfaaGreatDoor.Ed
