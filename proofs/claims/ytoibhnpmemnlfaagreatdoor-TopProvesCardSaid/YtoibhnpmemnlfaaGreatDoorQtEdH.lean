/- Joined texts. -/
import Derived.IntWalk
import Derived.Test.YtoibhnpmemnlfaaGreatDoorQtEdG
set_option linter.unusedVariables false
namespace Go.Proofs.YtoibhnpmemnlfaaGreatDoor.Ed
open Go.RowKit Go.Proofs.YtoibhnpmemnlfaaGreatDoor.Gn Go.Proofs.YtoibhnpmemnlfaaGreatDoor.Fd Go.Deep
theorem by_top(n:Nat)(h:n < 57896044618658097711785492504343953926634992332820282019728792003956564819968) :
  (by_ n 32).set 31 ((by_ n 32).getD 31 0%128+128)=by_ (n+57896044618658097711785492504343953926634992332820282019728792003956564819968) 32:=by
 have hsp:by_ n 32=by_ n 31 ++ [n / 256 ^ 31%256]:=by
  unfold by_
  rw[show List.range 32=List.range 31 ++ [31] from List.range_succ,List.map_append,List.map_cons,List.map_nil]
 have hl31:=by_length n 31
 have hb31:=by_lt n 31
 have hle:=le_by 31 n
 rw[hsp]
 generalize by_ n 31=B at *
 have hx:(B ++ [n / 256 ^ 31%256]).getD 31 0=n / 256 ^ 31%256:=by
  rw[List.getD_eq_getElem?_getD,List.getElem?_append_right (by omega),hl31];rfl
 have hset:(B ++ [n / 256 ^ 31%256]).set 31 (n / 256 ^ 31%256%128+128)=B ++ [n / 256 ^ 31%256%128+128]:=by
  rw[List.set_append_right _ _ (by omega),hl31];rfl
 rw[hx,hset]
 have hb:∀x∈B ++ [n / 256 ^ 31%256%128+128],x < 256:=by
  intro x hx
  rcases List.mem_append.1 hx with h1|h1
  ·exact hb31 x h1
  ·simp only[List.mem_singleton] at h1;omega
 have e:=by_le _ hb
 rw[List.length_append,hl31] at e
 refine e.symm.trans ?_
 show by_ _ 32=_
 congr 1
 rw[le_append,hl31,hle,le_cons,le_nil]
 clear e hb hset hx hb31 hl31 hle hsp
 have hq:n / 256 ^ 31 < 128:=by
  rw[Nat.div_lt_iff_lt_mul (by decide)]
  exact Nat.lt_of_lt_of_eq h (by decide)
 have hd:=Nat.div_add_mod n (256 ^ 31)
 have h31:(256:Nat) ^ 31*128=57896044618658097711785492504343953926634992332820282019728792003956564819968:=by decide
 rw[←h31]
 generalize(256:Nat) ^ 31=M at *
 generalize n / M=a at *
 generalize n%M=b at *
 rw[show a%256%128+128=a+128 by omega,Nat.mul_add]
 omega
theorem or128:∀b:Nat,b < 256→bits .or .u8 (b:Int) 128=((b%128+128:Nat):Int):=by decide +kernel
theorem o_or128(w:World)(b:Nat)(h:b < 256):(binOp .or 5 (.int .u8 (b:Int)) (.int .u8 128)).run Tryz.prog w=.ok (.int .u8 ((b%128+128:Nat):Int)) w:=by
 have:=or128 b h
 go_simp
 try simpa using this
theorem size8:(Tryz.prog.info? 5).map (·.size)=some 1:=by kernel_rfl
section
variable {P:Program} {ops:Array Oper} {Q:Exit→Act→World→Prop} {rest:List Oper} {o:Oper} {a:Act} {w w':World}
theorem sq_put(g k:Nat)(t:TypeId)(cs:Array Value)(hb:Bl w g t cs)(v:Value)(ty:TypeId)(x y:Operand)(hgd:o.guard=none)(ho:o.op=.store ty x y)(hx:a.eval x=.pointer (some ⟨g,k,none⟩))(hy:a.eval y=v)(hv:v.cells = #[v])(hk:k < cs.size)(hi:(P.info? ty).map (·.size)=some 1)(h1:v.oneCell'=true)
  (hc:∀w',Bl w' g t (cs.setIfInBounds k v)→w.grownBy w' (some g)→wpList P ops Q rest (a.put o.dst undef) w'):wpList P ops Q (o :: rest) a w:=by
 obtain⟨w',hr,hb',hg'⟩:=run_store_bl P hb k [v] (by simp;omega) (by simpa using h1)
 refine wpList_plain hgd fun K hK=>Gn.wp_skip (w':=w') ?_ (hK _ _ (hc w' hb' hg'))
 cases hq:P.info? ty with
 |none=>rw[hq] at hi;cases hi
 |some i =>
  rw[hq] at hi
  have hs:i.size=1:=by simpa using hi
  have hso:(sizeOf ty).run P w=.ok 1 w:=by simp[sizeOf,typeInfo,hq,hs]
  have hsv:(storeVar ty ⟨g,k,none⟩ v).run P w=.ok () w':=by
   unfold storeVar
   simp only[Sem.run_bind,hso,Result.andThen_ok,hv]
   simpa using hr
  unfold execOp
  simp only[ho,hx,hy,Instr.storeAt,Instr.sureAddr,Sem.run_bind,Sem.run_pure,Result.andThen_ok,hsv]
end
theorem enc_y{p:KP}{g:G}(h:Hp p g):(kmul p.y (kinv p.z)).f=g.y:=by rw[kmul_f,kinv_f];exact(Crv.rep_x h).2
theorem enc_x{p:KP}{g:G}(h:Hp p g):(kmul p.x (kinv p.z)).f=g.x:=by rw[kmul_f,kinv_f];exact(Crv.rep_x h).1
theorem cenc(x:K)(w:World):Calls Tryz.prog 43 #[.agg x.v] w (RetB (by_ (fv x.f) 32) w):=by
 rw[f_n];exact Encode_any x.1 w x.2
theorem gb_even{g:G}(h:decide (fv g.x%2=1)=false):gb g=fv g.y:=by
 have:fv g.x%2=0:=by have:=Nat.mod_two_eq_zero_or_one (fv g.x);simp at h;omega
 unfold gb;rw[this];try omega
theorem gb_odd{g:G}(h:decide (fv g.x%2=1)=true):gb g=fv g.y+57896044618658097711785492504343953926634992332820282019728792003956564819968:=by
 have:fv g.x%2=1:=by simpa using h
 unfold gb;rw[this];try omega
theorem fv_top(x:F):fv x < 57896044618658097711785492504343953926634992332820282019728792003956564819968:=Nat.lt_trans (fv_lt x) (by rw[pp_eq];decide)
set_option maxRecDepth 100000 in
set_option maxHeartbeats 4000000 in
theorem Encode_true(p:KP)(zi yy xx:K)(m:Nat)(w:World)(IC:∀w,Calls Tryz.prog 42 #[.agg (K.v p.z)] w fun e w'=>e=.returned (.agg (K.v zi))∧Below w.heap.size w w')
  (MY:∀w,Calls Tryz.prog 38 #[.agg (K.v p.y),.agg (K.v zi)] w fun e w'=>e=.returned (.agg (K.v yy))∧Below w.heap.size w w') (MX:∀w,Calls Tryz.prog 38 #[.agg (K.v p.x),.agg (K.v zi)] w fun e w'=>e=.returned (.agg (K.v xx))∧Below w.heap.size w w') (hm:m < 57896044618658097711785492504343953926634992332820282019728792003956564819968)
  (EC:∀w,Calls Tryz.prog 43 #[.agg (K.v yy)] w (RetB (by_ m 32) w))
  (OC:∀w,Calls Tryz.prog 32 #[.agg (K.v xx)] w fun e w'=>e=.returned (.bool true)∧Below w.heap.size w w') :
  Calls Tryz.prog 16 #[.agg p.v] w (RetB (by_ (m+57896044618658097711785492504343953926634992332820282019728792003956564819968) 32) w):=by
 have HM:=Lib.hid hm
 clear hm
 obtain⟨L,hL⟩:∃L,by_ m 32=L:=⟨_,rfl⟩
 have hLl:L.length=32:=by rw[←hL,by_length]
 have hLb:∀x∈L,x < 256:=by rw[←hL];exact by_lt _ _
 have hx:L.getD 31 0 < 256:=by rw[List.getD_eq_getElem?_getD,List.getElem?_eq_getElem (by omega)];exact hLb _ (List.getElem_mem _)
 have hx2:(bl L)[31]?=some (.int .u8 ((L.getD 31 0:Nat):Int)):=by rw[bl_get,List.getD_eq_getElem?_getD,List.getElem?_eq_getElem (by omega)];rfl
 rw[←by_top m HM.out,hL]
 rw[hL] at EC
 replace EC:=Lib.hid EC
 replace IC:=Lib.hid IC
 replace MY:=Lib.hid MY
 replace MX:=Lib.hid MX
 replace OC:=Lib.hid OC
 have HX:=Lib.hid hx
 have HX2:=Lib.hid hx2
 have HLL:=Lib.hid hLl
 clear hL hLb hx hx2 hLl
 go_enter Tryz.func16,Tryz.ntmps16
 go_upto_region 1 with(fail)
 refine at_box1 _ _ _ ?_
 intro W0 B0 D0 hs
 refine wp_region_o (sp:=[some (.pointer (some ⟨w.heap.size,10,none⟩)),some (.agg (K.v p.z)),some (.agg (K.v zi)),none,none]) (vs:=[⟨3,4,31,z5,(K.v zi)⟩]) (out:=none) (by kernel_rfl) (by kernel_rfl) (by kernel_rfl) (by kernel_rfl) (by kernel_rfl) (by simp) ?_ ?_
 ·refine Each.cons ?_<|Each.cons ?_<|Each.cons ?_<|Each.cons ?_<|Each.cons ?_<|Each.nil
  ·exact OV.val (.pointer (some ⟨w.heap.size,10,none⟩)) (by kernel_rfl) (fun γ=>by kernel_rfl) (by kernel_rfl) (fun γ w=>by kernel_rfl)
  ·exact OV.load w.heap.size 10 5 33 (KP.v p) B0 (by simp) (K.v p.z) 31 (.tmp 5) _ (by kernel_rfl) (fun γ=>by kernel_rfl) (by kernel_rfl) rfl (fun γ=>by kernel_rfl) (by kernel_rfl) (by kernel_rfl) Tryz.underlying31 rfl sizeE
  ·exact OV.call 42 #[.agg (K.v p.z)] (.agg (K.v zi)) (by kernel_rfl) (fun γ=>by kernel_rfl) (by kernel_rfl) (fun γ w=>by kernel_rfl) (fun w _=>IC.out w)
  ·exact OV.new_ ⟨3,4,31,z5,(K.v zi)⟩ (List.Mem.head _) rfl (by kernel_rfl) (by simp) (by kernel_rfl) (fun γ=>by kernel_rfl) (fun γ w=>by kernel_rfl)
  ·exact OV.put_ ⟨3,4,31,z5,(K.v zi)⟩ (List.Mem.head _) rfl (by kernel_rfl) (by simp) (by kernel_rfl) (fun γ=>by kernel_rfl) (by kernel_rfl) 31 (.tmp 3) (.tmp 7) rfl (fun γ=>by kernel_rfl) (fun γ=>by kernel_rfl) (by kernel_rfl) sizeE (K.ones _)
 intro γ W1 hgr1 hat hx2 hres
 clear hx2 hres
 have B1:=B0.grown hgr1 (by simp)
 obtain⟨h,eh,lh,B2⟩:=hat _ (List.Mem.head _)
 have D1:=below_none D0 hgr1
 dsimp only at eh
 clear hat hgr1 D0 B0
 simp only[fr,fill,exa,spx,List.map_cons,List.map_nil,List.getElem?_cons_zero,List.getElem?_cons_succ,List.setIfInBounds_toArray,List.set_cons_zero,List.set_cons_succ,eh]
 clear eh
 go_upto_region 2 with(fail)
 refine wp_region_lit ?_
 refine sq_run (.pointer (some ⟨w.heap.size,5,none⟩)) rfl (by kernel_rfl) ?_
 refine sq_load w.heap.size 5 5 33 p.v B1 (K.v p.y) 31 (.tmp 8) rfl rfl (by kernel_rfl) (by kernel_rfl) (by kernel_rfl) Tryz.underlying31 rfl sizeE ?_
 refine sq_load h 0 5 31 (K.v zi) B2 (K.v zi) 31 (.tmp 3) rfl rfl (by kernel_rfl) (by kernel_rfl) (by kernel_rfl) Tryz.underlying31 rfl sizeE ?_
 refine sq_enter 38 #[.agg (K.v p.y),.agg (K.v zi)] rfl (by kernel_rfl) ((MY.out _).mono ?_)
 rintro e W2 ⟨rfl,E2⟩
 refine⟨_,rfl,?_⟩
 refine sq_enter 43 #[.agg (K.v yy)] rfl (by kernel_rfl) ((EC.out _).mono ?_)
 rintro e W3 ⟨gb,rfl,hgb,BB,E3⟩
 refine⟨_,rfl,?_⟩
 rw[HLL.out]
 refine sq_run (.slice (some ⟨gb,0,none⟩) 32 32) rfl (by kernel_rfl) ?_
 refine sq_done ?_
 simp only[Act.put,List.setIfInBounds_toArray,List.set_cons_zero,List.set_cons_succ]
 have D3:=below_nx (below_nx D1 (Nat.le_refl _) E2) (Nat.le_refl _) E3
 have B3:=(B1.below' E2).below' E3
 have B4:=(B2.below' E2).below' E3
 have GG:=Lib.hid (show w.heap.size≤gb from Nat.le_trans (Nat.le_trans D1.size E2.size) hgb)
 clear D1 B1 B2 E2 E3 hgb
 go_upto_region 3 with(fail)
 refine wp_region_lit ?_
 refine sq_run (.pointer (some ⟨w.heap.size,0,none⟩)) rfl (by kernel_rfl) ?_
 refine sq_load w.heap.size 0 5 33 p.v B3 (K.v p.x) 31 (.tmp 13) rfl rfl (by kernel_rfl) (by kernel_rfl) (by kernel_rfl) Tryz.underlying31 rfl sizeE ?_
 refine sq_load h 0 5 31 (K.v zi) B4 (K.v zi) 31 (.tmp 3) rfl rfl (by kernel_rfl) (by kernel_rfl) (by kernel_rfl) Tryz.underlying31 rfl sizeE ?_
 refine sq_enter 38 #[.agg (K.v p.x),.agg (K.v zi)] rfl (by kernel_rfl) ((MX.out _).mono ?_)
 rintro e W4 ⟨rfl,E4⟩
 refine⟨_,rfl,?_⟩
 refine sq_enter 32 #[.agg (K.v xx)] rfl (by kernel_rfl) ((OC.out _).mono ?_)
 rintro e W5 ⟨rfl,E5⟩
 refine⟨_,rfl,?_⟩
 refine sq_done ?_
 simp only[Act.put,List.setIfInBounds_toArray,List.set_cons_zero,List.set_cons_succ]
 have D5:=Lib.hid (below_nx (below_nx D3 (Nat.le_refl _) E4) (Nat.le_refl _) E5)
 have B5:=(BB.below' E4).below' E5
 clear D3 B3 B4 E4 E5 BB lh
 go_upto_region 4 with(fail)
 refine wp_region_lit ?_
 obtain⟨x,hxx⟩:∃x,L.getD 31 0=x:=⟨_,rfl⟩
 have HXl:=HX.out
 have HXc:=HX2.out
 rw[hxx] at HXl HXc ⊢
 refine sq_run (.slice (some ⟨gb,0,none⟩) 32 32) rfl (by kernel_rfl) ?_
 refine sq_run (.pointer (some ⟨gb,31,none⟩)) rfl (by kernel_rfl) ?_
 refine sq_cell ⟨gb,31,none⟩ (.int .u8 (x:Int)) (B5.cell_ (by simpa using HXc)) 5 (.tmp 19) rfl rfl (by kernel_rfl) Tryz.underlying5 rfl ?_
 refine sq_run (.int .u8 ((x%128+128:Nat):Int)) rfl (run_bin_op .or 5 (.tmp 20) (.const (.int .u8 128)) _ rfl (.int .u8 (x:Int)) (.int .u8 128) (.int .u8 ((x%128+128:Nat):Int)) (by kernel_rfl) (by kernel_rfl) (by kernel_rfl) (o_or128 _ x HXl)) ?_
 refine sq_run (.pointer (some ⟨gb,31,none⟩)) rfl (by kernel_rfl) ?_
 refine sq_put gb 31 _ _ B5 (.int .u8 ((x%128+128:Nat):Int)) 5 (.tmp 22) (.tmp 21) rfl rfl (by kernel_rfl) (by kernel_rfl) rfl (by simp[bl_length,HLL.out]) size8 rfl fun W6 C6 G6=>?_
 rw[bl_set] at C6
 refine sq_done ?_
 simp only[Act.put,List.setIfInBounds_toArray,List.set_cons_zero,List.set_cons_succ]
 have D6:=below_only (g:=gb) D5.out G6 GG.out
 have hll:(L.set 31 (x%128+128)).length=32:=by rw[List.length_set];exact HLL.out
 have CC:=Lib.hid C6
 clear C6 G6 B5 HXl HXc
 go_wp2_with fail
 go_ret
 exact⟨gb,by rw[List.length_set,HLL.out];rfl,GG.out,(by rw[hxx];exact CC.out),D6⟩
set_option maxRecDepth 100000 in
set_option maxHeartbeats 4000000 in
theorem Encode_false(p:KP)(zi yy xx:K)(m:Nat)(w:World)(IC:∀w,Calls Tryz.prog 42 #[.agg (K.v p.z)] w fun e w'=>e=.returned (.agg (K.v zi))∧Below w.heap.size w w')
  (MY:∀w,Calls Tryz.prog 38 #[.agg (K.v p.y),.agg (K.v zi)] w fun e w'=>e=.returned (.agg (K.v yy))∧Below w.heap.size w w') (MX:∀w,Calls Tryz.prog 38 #[.agg (K.v p.x),.agg (K.v zi)] w fun e w'=>e=.returned (.agg (K.v xx))∧Below w.heap.size w w') (hm:m < 57896044618658097711785492504343953926634992332820282019728792003956564819968)
  (EC:∀w,Calls Tryz.prog 43 #[.agg (K.v yy)] w (RetB (by_ m 32) w))
  (OC:∀w,Calls Tryz.prog 32 #[.agg (K.v xx)] w fun e w'=>e=.returned (.bool false)∧Below w.heap.size w w') :
  Calls Tryz.prog 16 #[.agg p.v] w (RetB (by_ m 32) w):=by
 have HM:=Lib.hid hm
 clear hm
 obtain⟨L,hL⟩:∃L,by_ m 32=L:=⟨_,rfl⟩
 have hLl:L.length=32:=by rw[←hL,by_length]
 have hLb:∀x∈L,x < 256:=by rw[←hL];exact by_lt _ _
 have hx:L.getD 31 0 < 256:=by rw[List.getD_eq_getElem?_getD,List.getElem?_eq_getElem (by omega)];exact hLb _ (List.getElem_mem _)
 have hx2:(bl L)[31]?=some (.int .u8 ((L.getD 31 0:Nat):Int)):=by rw[bl_get,List.getD_eq_getElem?_getD,List.getElem?_eq_getElem (by omega)];rfl
 rw[hL]
 rw[hL] at EC
 replace EC:=Lib.hid EC
 replace IC:=Lib.hid IC
 replace MY:=Lib.hid MY
 replace MX:=Lib.hid MX
 replace OC:=Lib.hid OC
 have HX:=Lib.hid hx
 have HX2:=Lib.hid hx2
 have HLL:=Lib.hid hLl
 clear hL hLb hx hx2 hLl
 go_enter Tryz.func16,Tryz.ntmps16
 go_upto_region 1 with(fail)
 refine at_box1 _ _ _ ?_
 intro W0 B0 D0 hs
 refine wp_region_o (sp:=[some (.pointer (some ⟨w.heap.size,10,none⟩)),some (.agg (K.v p.z)),some (.agg (K.v zi)),none,none]) (vs:=[⟨3,4,31,z5,(K.v zi)⟩]) (out:=none) (by kernel_rfl) (by kernel_rfl) (by kernel_rfl) (by kernel_rfl) (by kernel_rfl) (by simp) ?_ ?_
 ·refine Each.cons ?_<|Each.cons ?_<|Each.cons ?_<|Each.cons ?_<|Each.cons ?_<|Each.nil
  ·exact OV.val (.pointer (some ⟨w.heap.size,10,none⟩)) (by kernel_rfl) (fun γ=>by kernel_rfl) (by kernel_rfl) (fun γ w=>by kernel_rfl)
  ·exact OV.load w.heap.size 10 5 33 (KP.v p) B0 (by simp) (K.v p.z) 31 (.tmp 5) _ (by kernel_rfl) (fun γ=>by kernel_rfl) (by kernel_rfl) rfl (fun γ=>by kernel_rfl) (by kernel_rfl) (by kernel_rfl) Tryz.underlying31 rfl sizeE
  ·exact OV.call 42 #[.agg (K.v p.z)] (.agg (K.v zi)) (by kernel_rfl) (fun γ=>by kernel_rfl) (by kernel_rfl) (fun γ w=>by kernel_rfl) (fun w _=>IC.out w)
  ·exact OV.new_ ⟨3,4,31,z5,(K.v zi)⟩ (List.Mem.head _) rfl (by kernel_rfl) (by simp) (by kernel_rfl) (fun γ=>by kernel_rfl) (fun γ w=>by kernel_rfl)
  ·exact OV.put_ ⟨3,4,31,z5,(K.v zi)⟩ (List.Mem.head _) rfl (by kernel_rfl) (by simp) (by kernel_rfl) (fun γ=>by kernel_rfl) (by kernel_rfl) 31 (.tmp 3) (.tmp 7) rfl (fun γ=>by kernel_rfl) (fun γ=>by kernel_rfl) (by kernel_rfl) sizeE (K.ones _)
 intro γ W1 hgr1 hat hx2 hres
 clear hx2 hres
 have B1:=B0.grown hgr1 (by simp)
 obtain⟨h,eh,lh,B2⟩:=hat _ (List.Mem.head _)
 have D1:=below_none D0 hgr1
 dsimp only at eh
 clear hat hgr1 D0 B0
 simp only[fr,fill,exa,spx,List.map_cons,List.map_nil,List.getElem?_cons_zero,List.getElem?_cons_succ,List.setIfInBounds_toArray,List.set_cons_zero,List.set_cons_succ,eh]
 clear eh
 go_upto_region 2 with(fail)
 refine wp_region_lit ?_
 refine sq_run (.pointer (some ⟨w.heap.size,5,none⟩)) rfl (by kernel_rfl) ?_
 refine sq_load w.heap.size 5 5 33 p.v B1 (K.v p.y) 31 (.tmp 8) rfl rfl (by kernel_rfl) (by kernel_rfl) (by kernel_rfl) Tryz.underlying31 rfl sizeE ?_
 refine sq_load h 0 5 31 (K.v zi) B2 (K.v zi) 31 (.tmp 3) rfl rfl (by kernel_rfl) (by kernel_rfl) (by kernel_rfl) Tryz.underlying31 rfl sizeE ?_
 refine sq_enter 38 #[.agg (K.v p.y),.agg (K.v zi)] rfl (by kernel_rfl) ((MY.out _).mono ?_)
 rintro e W2 ⟨rfl,E2⟩
 refine⟨_,rfl,?_⟩
 refine sq_enter 43 #[.agg (K.v yy)] rfl (by kernel_rfl) ((EC.out _).mono ?_)
 rintro e W3 ⟨gb,rfl,hgb,BB,E3⟩
 refine⟨_,rfl,?_⟩
 rw[HLL.out]
 refine sq_run (.slice (some ⟨gb,0,none⟩) 32 32) rfl (by kernel_rfl) ?_
 refine sq_done ?_
 simp only[Act.put,List.setIfInBounds_toArray,List.set_cons_zero,List.set_cons_succ]
 have D3:=below_nx (below_nx D1 (Nat.le_refl _) E2) (Nat.le_refl _) E3
 have B3:=(B1.below' E2).below' E3
 have B4:=(B2.below' E2).below' E3
 have GG:=Lib.hid (show w.heap.size≤gb from Nat.le_trans (Nat.le_trans D1.size E2.size) hgb)
 clear D1 B1 B2 E2 E3 hgb
 go_upto_region 3 with(fail)
 refine wp_region_lit ?_
 refine sq_run (.pointer (some ⟨w.heap.size,0,none⟩)) rfl (by kernel_rfl) ?_
 refine sq_load w.heap.size 0 5 33 p.v B3 (K.v p.x) 31 (.tmp 13) rfl rfl (by kernel_rfl) (by kernel_rfl) (by kernel_rfl) Tryz.underlying31 rfl sizeE ?_
 refine sq_load h 0 5 31 (K.v zi) B4 (K.v zi) 31 (.tmp 3) rfl rfl (by kernel_rfl) (by kernel_rfl) (by kernel_rfl) Tryz.underlying31 rfl sizeE ?_
 refine sq_enter 38 #[.agg (K.v p.x),.agg (K.v zi)] rfl (by kernel_rfl) ((MX.out _).mono ?_)
 rintro e W4 ⟨rfl,E4⟩
 refine⟨_,rfl,?_⟩
 refine sq_enter 32 #[.agg (K.v xx)] rfl (by kernel_rfl) ((OC.out _).mono ?_)
 rintro e W5 ⟨rfl,E5⟩
 refine⟨_,rfl,?_⟩
 refine sq_done ?_
 simp only[Act.put,List.setIfInBounds_toArray,List.set_cons_zero,List.set_cons_succ]
 have D5:=Lib.hid (below_nx (below_nx D3 (Nat.le_refl _) E4) (Nat.le_refl _) E5)
 have B5:=(BB.below' E4).below' E5
 clear D3 B3 B4 E4 E5 BB lh
 go_wp2_with fail
 go_ret
 exact⟨gb,by rw[HLL.out];rfl,GG.out,B5,D5.out⟩
theorem PEncode_any{p:KP}{g:G}(w:World)(h:Hp p g):Calls Tryz.prog 16 #[.agg p.v] w (RetB (by_ (gb g) 32) w):=by
 have EC:=cenc (kmul p.y (kinv p.z))
 have OC:=codd (kmul p.x (kinv p.z))
 rw[enc_y h] at EC
 rw[enc_x h] at OC
 cases hb:decide (fv g.x%2=1)
 ·rw[hb] at OC
  rw[gb_even hb]
  exact Encode_false p _ _ _ (fv g.y) w (cinv p.z) (cmul p.y (kinv p.z)) (cmul p.x (kinv p.z)) (fv_top _) EC OC
 ·rw[hb] at OC
  rw[gb_odd hb]
  exact Encode_true p _ _ _ (fv g.y) w (cinv p.z) (cmul p.y (kinv p.z)) (cmul p.x (kinv p.z)) (fv_top _) EC OC
end Go.Proofs.YtoibhnpmemnlfaaGreatDoor.Ed
