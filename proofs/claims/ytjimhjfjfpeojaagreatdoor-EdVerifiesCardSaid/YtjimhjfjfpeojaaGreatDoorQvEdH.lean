/- Joined texts. -/
import Derived.IntWalk
import Derived.Test.YtjimhjfjfpeojaaGreatDoorQvGnSeq
set_option maxRecDepth 100000
set_option maxHeartbeats 8000000
set_option linter.unusedVariables false
namespace Go.Proofs.YtjimhjfjfpeojaaGreatDoor.Ed
open Go.RowKit Go.Proofs.YtjimhjfjfpeojaaGreatDoor.Gn Go.Proofs.YtjimhjfjfpeojaaGreatDoor.Fd Go.Deep
theorem Zkb(n:Nat)(h:n < 57896044618658097711785492504343953926634992332820282019728792003956564819968) :
  (by_ n 32).set 31 ((by_ n 32).getD 31 0%128+128)=by_ (n+57896044618658097711785492504343953926634992332820282019728792003956564819968) 32:=by
 have hsp:by_ n 32=by_ n 31 ++ [n / 256 ^ 31%256]:=by
  unfold by_
  rw[show List.range 32=List.range 31 ++ [31] from List.range_succ,List.map_append,List.map_cons,List.map_nil]
 have hl31:=by_length n 31
 have hb31:=Z60 n 31
 have hle:=Zeb 31 n
 rw[hsp]
 generalize by_ n 31=B at *
 have hx:(B ++ [n / 256 ^ 31%256]).getD 31 0=n / 256 ^ 31%256:=by
  rw[List.getD_eq_getElem?_getD,List.getElem?_append_right (by omega),hl31];rfl
 have hset:(B ++ [n / 256 ^ 31%256]).set 31 (n / 256 ^ 31%256%128+128)=B ++ [n / 256 ^ 31%256%128+128]:=by
  rw[List.set_append_right _ _ (by omega),hl31];rfl
 rw[hx,hset]
 have hb:∀x∈B ++ [n / 256 ^ 31%256%128+128],x < 256:=by
  intro x hx
  rcases List.mem_append.1 hx with h1|h1
  ·exact hb31 x h1
  ·simp only[List.mem_singleton] at h1;omega
 have e:=by_le _ hb
 rw[List.length_append,hl31] at e
 refine e.symm.trans ?_
 show by_ _ 32=_
 congr 1
 rw[Z2l,hl31,hle,Z1i,le_nil]
 clear e hb hset hx hb31 hl31 hle hsp
 have hq:n / 256 ^ 31 < 128:=by
  rw[Nat.div_lt_iff_lt_mul (by decide)]
  exact Nat.lt_of_lt_of_eq h (by decide)
 have hd:=Nat.div_add_mod n (256 ^ 31)
 have h31:(256:Nat) ^ 31*128=57896044618658097711785492504343953926634992332820282019728792003956564819968:=by decide
 rw[←h31]
 generalize(256:Nat) ^ 31=M at *
 generalize n / M=a at *
 generalize n%M=b at *
 rw[show a%256%128+128=a+128 by omega,Nat.mul_add]
 omega
theorem Zt5:∀b:Nat,b < 256→bits .or .u8 (b:Int) 128=((b%128+128:Nat):Int):=by decide +kernel
theorem Zms(w:World)(b:Nat)(h:b < 256):(binOp .or 5 (.int .u8 (b:Int)) (.int .u8 128)).run Tryz.prog w=.ok (.int .u8 ((b%128+128:Nat):Int)) w:=by
 have:=Zt5 b h
 go_simp
 try simpa using this
theorem Z99:(Tryz.prog.info? 5).map (·.size)=some 1:=by kernel_rfl
section
variable {P:Program} {ops:Array Oper} {Q:Exit→Act→World→Prop} {rest:List Oper} {o:Oper} {a:Act} {w w':World}
theorem Z5g(g k:Nat)(t:TypeId)(cs:Array Value)(hb:Bl w g t cs)(v:Value)(ty:TypeId)(x y:Operand)(hgd:o.guard=none)(ho:o.op=.store ty x y)(hx:a.eval x=.pointer (some ⟨g,k,none⟩))(hy:a.eval y=v)(hv:v.cells = #[v])(hk:k < cs.size)(hi:(P.info? ty).map (·.size)=some 1)(h1:v.oneCell'=true)
  (hc:∀w',Bl w' g t (cs.setIfInBounds k v)→w.grownBy w' (some g)→wpList P ops Q rest (a.put o.dst undef) w'):wpList P ops Q (o :: rest) a w:=by
 obtain⟨w',hr,hb',hg'⟩:=Z0x P hb k [v] (by simp;omega) (by simpa using h1)
 refine wpList_plain hgd fun K hK=>Gn.wp_skip (w':=w') ?_ (hK _ _ (hc w' hb' hg'))
 cases hq:P.info? ty with
 |none=>rw[hq] at hi;cases hi
 |some i =>
  rw[hq] at hi
  have hs:i.size=1:=by simpa using hi
  have hso:(sizeOf ty).run P w=.ok 1 w:=by simp[sizeOf,typeInfo,hq,hs]
  have hsv:(storeVar ty ⟨g,k,none⟩ v).run P w=.ok () w':=by
   unfold storeVar
   simp only[Sem.run_bind,hso,Result.andThen_ok,hv]
   simpa using hr
  unfold execOp
  simp only[ho,hx,hy,Instr.storeAt,Instr.sureAddr,Sem.run_bind,Sem.run_pure,Result.andThen_ok,hsv]
end
theorem Zt6{p:KP}{g:G}(h:Hp p g):(kmul p.y (kinv p.z)).f=g.y:=by rw[Z3h,Zka];exact(Crv.rep_x h).2
theorem Zt7{p:KP}{g:G}(h:Hp p g):(kmul p.x (kinv p.z)).f=g.x:=by rw[Z3h,Zka];exact(Crv.rep_x h).1
theorem cenc(x:K)(w:World):Calls Tryz.prog 55 #[.agg x.v] w (RetB (by_ (fv x.f) 32) w):=by
 rw[f_n];exact Zcx x.1 w x.2
theorem Zfs{g:G}(h:decide (fv g.x%2=1)=false):gb g=fv g.y:=by
 have:fv g.x%2=0:=by have:=Nat.mod_two_eq_zero_or_one (fv g.x);simp at h;omega
 unfold gb;rw[this];try omega
theorem Zkc{g:G}(h:decide (fv g.x%2=1)=true):gb g=fv g.y+57896044618658097711785492504343953926634992332820282019728792003956564819968:=by
 have:fv g.x%2=1:=by simpa using h
 unfold gb;rw[this];try omega
theorem Zc7(x:F):fv x < 57896044618658097711785492504343953926634992332820282019728792003956564819968:=Nat.lt_trans (Zib x) (by rw[Z1b];decide)
theorem Zas(p:KP)(zi yy xx:K)(m:Nat)(w:World)(IC:∀w,Calls Tryz.prog 54 #[.agg (K.v p.z)] w fun e w'=>e=.returned (.agg (K.v zi))∧Below w.heap.size w w')
  (MY:∀w,Calls Tryz.prog 56 #[.agg (K.v p.y),.agg (K.v zi)] w fun e w'=>e=.returned (.agg (K.v yy))∧Below w.heap.size w w') (MX:∀w,Calls Tryz.prog 56 #[.agg (K.v p.x),.agg (K.v zi)] w fun e w'=>e=.returned (.agg (K.v xx))∧Below w.heap.size w w') (hm:m < 57896044618658097711785492504343953926634992332820282019728792003956564819968)
  (EC:∀w,Calls Tryz.prog 55 #[.agg (K.v yy)] w (RetB (by_ m 32) w))
  (OC:∀w,Calls Tryz.prog 46 #[.agg (K.v xx)] w fun e w'=>e=.returned (.bool true)∧Below w.heap.size w w') :
  Calls Tryz.prog 16 #[.agg p.v] w (RetB (by_ (m+57896044618658097711785492504343953926634992332820282019728792003956564819968) 32) w):=by
 have HM:=Lib.hid hm
 clear hm
 obtain⟨L,hL⟩:∃L,by_ m 32=L:=⟨_,rfl⟩
 have hLl:L.length=32:=by rw[←hL,by_length]
 have hLb:∀x∈L,x < 256:=by rw[←hL];exact Z60 _ _
 have hx:L.getD 31 0 < 256:=by rw[List.getD_eq_getElem?_getD,List.getElem?_eq_getElem (by omega)];exact hLb _ (List.getElem_mem _)
 have hx2:(bl L)[31]?=some (.int .u8 ((L.getD 31 0:Nat):Int)):=by rw[Z1f,List.getD_eq_getElem?_getD,List.getElem?_eq_getElem (by omega)];rfl
 rw[←Zkb m HM.out,hL]
 rw[hL] at EC
 replace EC:=Lib.hid EC
 replace IC:=Lib.hid IC
 replace MY:=Lib.hid MY
 replace MX:=Lib.hid MX
 replace OC:=Lib.hid OC
 have HX:=Lib.hid hx
 have HX2:=Lib.hid hx2
 have HLL:=Lib.hid hLl
 clear hL hLb hx hx2 hLl
 go_enter Tryz.func16,Tryz.ntmps16
 go_upto_region 1 with(fail)
 refine Z1q _ _ _ ?_
 intro W0 B0 D0 hs
 refine Z02 (sp:=[some (.pointer (some ⟨w.heap.size,10,none⟩)),some (.agg (K.v p.z)),some (.agg (K.v zi)),none,none]) (vs:=[⟨3,4,26,z5,(K.v zi)⟩]) (out:=none) (by kernel_rfl) (by kernel_rfl) (by kernel_rfl) (by kernel_rfl) (by kernel_rfl) (by simp) ?_ ?_
 ·refine Each.cons ?_<|Each.cons ?_<|Each.cons ?_<|Each.cons ?_<|Each.cons ?_<|Each.nil
  ·exact OV.val (.pointer (some ⟨w.heap.size,10,none⟩)) (by kernel_rfl) (fun γ=>by kernel_rfl) (by kernel_rfl) (fun γ w=>by kernel_rfl)
  ·exact OV.load w.heap.size 10 5 28 (KP.v p) B0 (by simp) (K.v p.z) 26 (.tmp 5) _ (by kernel_rfl) (fun γ=>by kernel_rfl) (by kernel_rfl) rfl (fun γ=>by kernel_rfl) (by kernel_rfl) (by kernel_rfl) Tryz.underlying26 rfl Z0b
  ·exact OV.call 54 #[.agg (K.v p.z)] (.agg (K.v zi)) (by kernel_rfl) (fun γ=>by kernel_rfl) (by kernel_rfl) (fun γ w=>by kernel_rfl) (fun w _=>IC.out w)
  ·exact OV.new_ ⟨3,4,26,z5,(K.v zi)⟩ (List.Mem.head _) rfl (by kernel_rfl) (by simp) (by kernel_rfl) (fun γ=>by kernel_rfl) (fun γ w=>by kernel_rfl)
  ·exact OV.put_ ⟨3,4,26,z5,(K.v zi)⟩ (List.Mem.head _) rfl (by kernel_rfl) (by simp) (by kernel_rfl) (fun γ=>by kernel_rfl) (by kernel_rfl) 26 (.tmp 3) (.tmp 7) rfl (fun γ=>by kernel_rfl) (fun γ=>by kernel_rfl) (by kernel_rfl) Z0b (K.ones _)
 intro γ W1 hgr1 hat hx2 hres
 clear hx2 hres
 have B1:=B0.grown hgr1 (by simp)
 obtain⟨h,eh,lh,B2⟩:=hat _ (List.Mem.head _)
 have D1:=Z0j D0 hgr1
 dsimp only at eh
 clear hat hgr1 D0 B0
 simp only[fr,fill,exa,spx,List.map_cons,List.map_nil,List.getElem?_cons_zero,List.getElem?_cons_succ,List.setIfInBounds_toArray,List.set_cons_zero,List.set_cons_succ,eh]
 clear eh
 go_upto_region 2 with(fail)
 refine wp_region_lit ?_
 refine Z00 (.pointer (some ⟨w.heap.size,5,none⟩)) rfl (by kernel_rfl) ?_
 refine Z0p w.heap.size 5 5 28 p.v B1 (K.v p.y) 26 (.tmp 8) rfl rfl (by kernel_rfl) (by kernel_rfl) (by kernel_rfl) Tryz.underlying26 rfl Z0b ?_
 refine Z0p h 0 5 26 (K.v zi) B2 (K.v zi) 26 (.tmp 3) rfl rfl (by kernel_rfl) (by kernel_rfl) (by kernel_rfl) Tryz.underlying26 rfl Z0b ?_
 refine Z06 56 #[.agg (K.v p.y),.agg (K.v zi)] rfl (by kernel_rfl) ((MY.out _).mono ?_)
 rintro e W2 ⟨rfl,E2⟩
 refine⟨_,rfl,?_⟩
 refine Z06 55 #[.agg (K.v yy)] rfl (by kernel_rfl) ((EC.out _).mono ?_)
 rintro e W3 ⟨gb,rfl,hgb,BB,E3⟩
 refine⟨_,rfl,?_⟩
 rw[HLL.out]
 refine Z00 (.slice (some ⟨gb,0,none⟩) 32 32) rfl (by kernel_rfl) ?_
 refine Z03 ?_
 simp only[Act.put,List.setIfInBounds_toArray,List.set_cons_zero,List.set_cons_succ]
 have D3:=Z07 (Z07 D1 (Nat.le_refl _) E2) (Nat.le_refl _) E3
 have B3:=(B1.below' E2).below' E3
 have B4:=(B2.below' E2).below' E3
 have GG:=Lib.hid (show w.heap.size≤gb from Nat.le_trans (Nat.le_trans D1.size E2.size) hgb)
 clear D1 B1 B2 E2 E3 hgb
 go_upto_region 3 with(fail)
 refine wp_region_lit ?_
 refine Z00 (.pointer (some ⟨w.heap.size,0,none⟩)) rfl (by kernel_rfl) ?_
 refine Z0p w.heap.size 0 5 28 p.v B3 (K.v p.x) 26 (.tmp 13) rfl rfl (by kernel_rfl) (by kernel_rfl) (by kernel_rfl) Tryz.underlying26 rfl Z0b ?_
 refine Z0p h 0 5 26 (K.v zi) B4 (K.v zi) 26 (.tmp 3) rfl rfl (by kernel_rfl) (by kernel_rfl) (by kernel_rfl) Tryz.underlying26 rfl Z0b ?_
 refine Z06 56 #[.agg (K.v p.x),.agg (K.v zi)] rfl (by kernel_rfl) ((MX.out _).mono ?_)
 rintro e W4 ⟨rfl,E4⟩
 refine⟨_,rfl,?_⟩
 refine Z06 46 #[.agg (K.v xx)] rfl (by kernel_rfl) ((OC.out _).mono ?_)
 rintro e W5 ⟨rfl,E5⟩
 refine⟨_,rfl,?_⟩
 refine Z03 ?_
 simp only[Act.put,List.setIfInBounds_toArray,List.set_cons_zero,List.set_cons_succ]
 have D5:=Lib.hid (Z07 (Z07 D3 (Nat.le_refl _) E4) (Nat.le_refl _) E5)
 have B5:=(BB.below' E4).below' E5
 clear D3 B3 B4 E4 E5 BB lh
 go_upto_region 4 with(fail)
 refine wp_region_lit ?_
 obtain⟨x,hxx⟩:∃x,L.getD 31 0=x:=⟨_,rfl⟩
 have HXl:=HX.out
 have HXc:=HX2.out
 rw[hxx] at HXl HXc ⊢
 refine Z00 (.slice (some ⟨gb,0,none⟩) 32 32) rfl (by kernel_rfl) ?_
 refine Z00 (.pointer (some ⟨gb,31,none⟩)) rfl (by kernel_rfl) ?_
 refine Z1s ⟨gb,31,none⟩ (.int .u8 (x:Int)) (B5.cell_ (by simpa using HXc)) 5 (.tmp 19) rfl rfl (by kernel_rfl) Tryz.underlying5 rfl ?_
 refine Z00 (.int .u8 ((x%128+128:Nat):Int)) rfl (Z0a .or 5 (.tmp 20) (.const (.int .u8 128)) _ rfl (.int .u8 (x:Int)) (.int .u8 128) (.int .u8 ((x%128+128:Nat):Int)) (by kernel_rfl) (by kernel_rfl) (by kernel_rfl) (Zms _ x HXl)) ?_
 refine Z00 (.pointer (some ⟨gb,31,none⟩)) rfl (by kernel_rfl) ?_
 refine Z5g gb 31 _ _ B5 (.int .u8 ((x%128+128:Nat):Int)) 5 (.tmp 22) (.tmp 21) rfl rfl (by kernel_rfl) (by kernel_rfl) rfl (by simp[Z15,HLL.out]) Z99 rfl fun W6 C6 G6=>?_
 rw[Zc0] at C6
 refine Z03 ?_
 simp only[Act.put,List.setIfInBounds_toArray,List.set_cons_zero,List.set_cons_succ]
 have D6:=Z01 (g:=gb) D5.out G6 GG.out
 have hll:(L.set 31 (x%128+128)).length=32:=by rw[List.length_set];exact HLL.out
 have CC:=Lib.hid C6
 clear C6 G6 B5 HXl HXc
 go_wp2_with fail
 go_ret
 exact⟨gb,by rw[List.length_set,HLL.out];rfl,GG.out,(by rw[hxx];exact CC.out),D6⟩
theorem Z9a(p:KP)(zi yy xx:K)(m:Nat)(w:World)(IC:∀w,Calls Tryz.prog 54 #[.agg (K.v p.z)] w fun e w'=>e=.returned (.agg (K.v zi))∧Below w.heap.size w w')
  (MY:∀w,Calls Tryz.prog 56 #[.agg (K.v p.y),.agg (K.v zi)] w fun e w'=>e=.returned (.agg (K.v yy))∧Below w.heap.size w w') (MX:∀w,Calls Tryz.prog 56 #[.agg (K.v p.x),.agg (K.v zi)] w fun e w'=>e=.returned (.agg (K.v xx))∧Below w.heap.size w w') (hm:m < 57896044618658097711785492504343953926634992332820282019728792003956564819968)
  (EC:∀w,Calls Tryz.prog 55 #[.agg (K.v yy)] w (RetB (by_ m 32) w))
  (OC:∀w,Calls Tryz.prog 46 #[.agg (K.v xx)] w fun e w'=>e=.returned (.bool false)∧Below w.heap.size w w') :
  Calls Tryz.prog 16 #[.agg p.v] w (RetB (by_ m 32) w):=by
 have HM:=Lib.hid hm
 clear hm
 obtain⟨L,hL⟩:∃L,by_ m 32=L:=⟨_,rfl⟩
 have hLl:L.length=32:=by rw[←hL,by_length]
 have hLb:∀x∈L,x < 256:=by rw[←hL];exact Z60 _ _
 have hx:L.getD 31 0 < 256:=by rw[List.getD_eq_getElem?_getD,List.getElem?_eq_getElem (by omega)];exact hLb _ (List.getElem_mem _)
 have hx2:(bl L)[31]?=some (.int .u8 ((L.getD 31 0:Nat):Int)):=by rw[Z1f,List.getD_eq_getElem?_getD,List.getElem?_eq_getElem (by omega)];rfl
 rw[hL]
 rw[hL] at EC
 replace EC:=Lib.hid EC
 replace IC:=Lib.hid IC
 replace MY:=Lib.hid MY
 replace MX:=Lib.hid MX
 replace OC:=Lib.hid OC
 have HX:=Lib.hid hx
 have HX2:=Lib.hid hx2
 have HLL:=Lib.hid hLl
 clear hL hLb hx hx2 hLl
 go_enter Tryz.func16,Tryz.ntmps16
 go_upto_region 1 with(fail)
 refine Z1q _ _ _ ?_
 intro W0 B0 D0 hs
 refine Z02 (sp:=[some (.pointer (some ⟨w.heap.size,10,none⟩)),some (.agg (K.v p.z)),some (.agg (K.v zi)),none,none]) (vs:=[⟨3,4,26,z5,(K.v zi)⟩]) (out:=none) (by kernel_rfl) (by kernel_rfl) (by kernel_rfl) (by kernel_rfl) (by kernel_rfl) (by simp) ?_ ?_
 ·refine Each.cons ?_<|Each.cons ?_<|Each.cons ?_<|Each.cons ?_<|Each.cons ?_<|Each.nil
  ·exact OV.val (.pointer (some ⟨w.heap.size,10,none⟩)) (by kernel_rfl) (fun γ=>by kernel_rfl) (by kernel_rfl) (fun γ w=>by kernel_rfl)
  ·exact OV.load w.heap.size 10 5 28 (KP.v p) B0 (by simp) (K.v p.z) 26 (.tmp 5) _ (by kernel_rfl) (fun γ=>by kernel_rfl) (by kernel_rfl) rfl (fun γ=>by kernel_rfl) (by kernel_rfl) (by kernel_rfl) Tryz.underlying26 rfl Z0b
  ·exact OV.call 54 #[.agg (K.v p.z)] (.agg (K.v zi)) (by kernel_rfl) (fun γ=>by kernel_rfl) (by kernel_rfl) (fun γ w=>by kernel_rfl) (fun w _=>IC.out w)
  ·exact OV.new_ ⟨3,4,26,z5,(K.v zi)⟩ (List.Mem.head _) rfl (by kernel_rfl) (by simp) (by kernel_rfl) (fun γ=>by kernel_rfl) (fun γ w=>by kernel_rfl)
  ·exact OV.put_ ⟨3,4,26,z5,(K.v zi)⟩ (List.Mem.head _) rfl (by kernel_rfl) (by simp) (by kernel_rfl) (fun γ=>by kernel_rfl) (by kernel_rfl) 26 (.tmp 3) (.tmp 7) rfl (fun γ=>by kernel_rfl) (fun γ=>by kernel_rfl) (by kernel_rfl) Z0b (K.ones _)
 intro γ W1 hgr1 hat hx2 hres
 clear hx2 hres
 have B1:=B0.grown hgr1 (by simp)
 obtain⟨h,eh,lh,B2⟩:=hat _ (List.Mem.head _)
 have D1:=Z0j D0 hgr1
 dsimp only at eh
 clear hat hgr1 D0 B0
 simp only[fr,fill,exa,spx,List.map_cons,List.map_nil,List.getElem?_cons_zero,List.getElem?_cons_succ,List.setIfInBounds_toArray,List.set_cons_zero,List.set_cons_succ,eh]
 clear eh
 go_upto_region 2 with(fail)
 refine wp_region_lit ?_
 refine Z00 (.pointer (some ⟨w.heap.size,5,none⟩)) rfl (by kernel_rfl) ?_
 refine Z0p w.heap.size 5 5 28 p.v B1 (K.v p.y) 26 (.tmp 8) rfl rfl (by kernel_rfl) (by kernel_rfl) (by kernel_rfl) Tryz.underlying26 rfl Z0b ?_
 refine Z0p h 0 5 26 (K.v zi) B2 (K.v zi) 26 (.tmp 3) rfl rfl (by kernel_rfl) (by kernel_rfl) (by kernel_rfl) Tryz.underlying26 rfl Z0b ?_
 refine Z06 56 #[.agg (K.v p.y),.agg (K.v zi)] rfl (by kernel_rfl) ((MY.out _).mono ?_)
 rintro e W2 ⟨rfl,E2⟩
 refine⟨_,rfl,?_⟩
 refine Z06 55 #[.agg (K.v yy)] rfl (by kernel_rfl) ((EC.out _).mono ?_)
 rintro e W3 ⟨gb,rfl,hgb,BB,E3⟩
 refine⟨_,rfl,?_⟩
 rw[HLL.out]
 refine Z00 (.slice (some ⟨gb,0,none⟩) 32 32) rfl (by kernel_rfl) ?_
 refine Z03 ?_
 simp only[Act.put,List.setIfInBounds_toArray,List.set_cons_zero,List.set_cons_succ]
 have D3:=Z07 (Z07 D1 (Nat.le_refl _) E2) (Nat.le_refl _) E3
 have B3:=(B1.below' E2).below' E3
 have B4:=(B2.below' E2).below' E3
 have GG:=Lib.hid (show w.heap.size≤gb from Nat.le_trans (Nat.le_trans D1.size E2.size) hgb)
 clear D1 B1 B2 E2 E3 hgb
 go_upto_region 3 with(fail)
 refine wp_region_lit ?_
 refine Z00 (.pointer (some ⟨w.heap.size,0,none⟩)) rfl (by kernel_rfl) ?_
 refine Z0p w.heap.size 0 5 28 p.v B3 (K.v p.x) 26 (.tmp 13) rfl rfl (by kernel_rfl) (by kernel_rfl) (by kernel_rfl) Tryz.underlying26 rfl Z0b ?_
 refine Z0p h 0 5 26 (K.v zi) B4 (K.v zi) 26 (.tmp 3) rfl rfl (by kernel_rfl) (by kernel_rfl) (by kernel_rfl) Tryz.underlying26 rfl Z0b ?_
 refine Z06 56 #[.agg (K.v p.x),.agg (K.v zi)] rfl (by kernel_rfl) ((MX.out _).mono ?_)
 rintro e W4 ⟨rfl,E4⟩
 refine⟨_,rfl,?_⟩
 refine Z06 46 #[.agg (K.v xx)] rfl (by kernel_rfl) ((OC.out _).mono ?_)
 rintro e W5 ⟨rfl,E5⟩
 refine⟨_,rfl,?_⟩
 refine Z03 ?_
 simp only[Act.put,List.setIfInBounds_toArray,List.set_cons_zero,List.set_cons_succ]
 have D5:=Lib.hid (Z07 (Z07 D3 (Nat.le_refl _) E4) (Nat.le_refl _) E5)
 have B5:=(BB.below' E4).below' E5
 clear D3 B3 B4 E4 E5 BB lh
 go_wp2_with fail
 go_ret
 exact⟨gb,by rw[HLL.out];rfl,GG.out,B5,D5.out⟩
theorem Z35{p:KP}{g:G}(w:World)(h:Hp p g):Calls Tryz.prog 16 #[.agg p.v] w (RetB (by_ (gb g) 32) w):=by
 have EC:=cenc (kmul p.y (kinv p.z))
 have OC:=codd (kmul p.x (kinv p.z))
 rw[Zt6 h] at EC
 rw[Zt7 h] at OC
 cases hb:decide (fv g.x%2=1)
 ·rw[hb] at OC
  rw[Zfs hb]
  exact Z9a p _ _ _ (fv g.y) w (cinv p.z) (cmul p.y (kinv p.z)) (cmul p.x (kinv p.z)) (Zc7 _) EC OC
 ·rw[hb] at OC
  rw[Zkc hb]
  exact Zas p _ _ _ (fv g.y) w (cinv p.z) (cmul p.y (kinv p.z)) (cmul p.x (kinv p.z)) (Zc7 _) EC OC
end Go.Proofs.YtjimhjfjfpeojaaGreatDoor.Ed
