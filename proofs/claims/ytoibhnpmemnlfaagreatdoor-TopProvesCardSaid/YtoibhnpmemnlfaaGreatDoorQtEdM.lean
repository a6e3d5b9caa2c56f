/- Joined texts. -/
import Derived.IntWalk
import Derived.Test.YtoibhnpmemnlfaaGreatDoorQtEdL
set_option linter.unusedVariables false
namespace Go.Proofs.YtoibhnpmemnlfaaGreatDoor.Ed
open Go.RowKit Go.Proofs.YtoibhnpmemnlfaaGreatDoor.Gn Go.Proofs.YtoibhnpmemnlfaaGreatDoor.Fd Go.Deep
theorem andn7:∀b:Nat,b < 256→bits .andNot .u8 (b:Int) 7=((b / 8*8:Nat):Int):=by decide +kernel
theorem o_andn7(w:World)(b:Nat)(h:b < 256):(binOp .andNot 5 (.int .u8 (b:Int)) (.int .u8 7)).run Tryz.prog w=.ok (.int .u8 ((b / 8*8:Nat):Int)) w:=by
 have:=andn7 b h
 go_simp
 try simpa using this
theorem or64:∀b:Nat,b < 256→bits .or .u8 ((b%128:Nat):Int) 64=((b%64+64:Nat):Int):=by decide +kernel
theorem o_or64(w:World)(b:Nat)(h:b < 256):(binOp .or 5 (.int .u8 ((b%128:Nat):Int)) (.int .u8 64)).run Tryz.prog w=.ok (.int .u8 ((b%64+64:Nat):Int)) w:=by
 have:=or64 b h
 go_simp
 try simpa using this
def secd(D:List Nat):List Nat:=(D.set 0 (D.getD 0 0 / 8*8)).set 31 (D.getD 31 0%64+64)
def sec(l:List Nat):List Nat:=(secd (Sh.dg true l)).take 32
theorem secd_length(D:List Nat):(secd D).length=D.length:=by simp[secd]
theorem secd_lt{D:List Nat}(h:∀x∈D,x < 256):∀x∈secd D,x < 256:=by
 have g:∀i,D.getD i 0 < 256:=by
  intro i
  rw[List.getD_eq_getElem?_getD]
  rcases Nat.lt_or_ge i D.length with hi|hi
  ·rw[List.getElem?_eq_getElem hi];exact h _ (List.getElem_mem _)
  ·rw[List.getElem?_eq_none hi];decide
 have g0:=g 0
 have g31:=g 31
 intro x hx
 rcases List.mem_or_eq_of_mem_set hx with h1|h1
 ·rcases List.mem_or_eq_of_mem_set h1 with h2|h2
  ·exact h x h2
  ·omega
 ·omega
def HalvesQ(D:List Nat)(w:World)(e:Ending)(w':World):Prop :=
 ∃q,e=.returned (.tuple #[.slice (some ⟨q,0,none⟩) 32 64,.slice (some ⟨q,32,none⟩) 32 32])∧w.heap.size≤q∧Bl w' q 5 (bl (secd D)).toArray∧Below w.heap.size w w'
set_option maxRecDepth 100000 in
set_option maxHeartbeats 4000000 in
theorem halves_walk(A:Option Addr)(n c:Nat)(D:List Nat)(w:World)(hD:D.length=64)(hDl:∀x∈D,x < 256)
  (SU:Calls Tryz.prog 8 #[.slice A n c] w fun e w'=>∃q,e=.returned (.tuple #[.slice (some ⟨q,0,none⟩) 64 64,.int .i64 0])∧w.heap.size≤q∧Bl w' q 5 (bl D).toArray∧Below w.heap.size w w') :
  Calls Tryz.prog 19 #[.slice A n c] w (HalvesQ D w):=by
 have cell:∀i,i < 64→(bl D)[i]?=some (.int .u8 ((D.getD i 0:Nat):Int))∧D.getD i 0 < 256:=by
  intro i hi
  refine⟨by rw[bl_get,List.getD_eq_getElem?_getD,List.getElem?_eq_getElem (by omega)];rfl,?_⟩
  rw[List.getD_eq_getElem?_getD,List.getElem?_eq_getElem (by omega)]
  exact hDl _ (List.getElem_mem _)
 obtain⟨c0,l0⟩:=cell 0 (by decide)
 obtain⟨c31,l31⟩:=cell 31 (by decide)
 have hse:secd D=(D.set 0 (D.getD 0 0 / 8*8)).set 31 (D.getD 31 0%64+64):=rfl
 have c31':(bl (D.set 0 (D.getD 0 0 / 8*8)))[31]?=some (.int .u8 ((D.getD 31 0:Nat):Int)):=by
  rw[bl_get,List.getElem?_set_ne (by decide)]
  rw[bl_get] at c31
  exact c31
 generalize D.getD 0 0=x at *
 generalize D.getD 31 0=y at *
 have C0:=Lib.hid c0
 have C31:=Lib.hid c31'
 have HD:=Lib.hid hD
 have HSE:=Lib.hid hse
 replace SU:=Lib.hid SU
 clear cell c0 c31 c31' hD hDl hse
 go_enter Tryz.func19,Tryz.ntmps19
 go_upto_region 1 with(fail)
 refine wp_region_lit ?_
 refine sq_run (.slice A n c) rfl (by kernel_rfl) ?_
 refine sq_enter 8 #[.slice A n c] rfl (by kernel_rfl) (SU.out.mono ?_)
 rintro e W1 ⟨q,rfl,hq,B1,D1⟩
 refine⟨_,rfl,?_⟩
 refine sq_run (.tuple #[.slice (some ⟨q,0,none⟩) 64 64,.int .i64 0]) rfl (by kernel_rfl) ?_
 refine sq_run (.slice (some ⟨q,0,none⟩) 64 64) rfl (by kernel_rfl) ?_
 refine sq_run (.int .i64 0) rfl (by kernel_rfl) ?_
 refine sq_run (.slice (some ⟨q,0,none⟩) 64 64) rfl (by kernel_rfl) ?_
 refine sq_run (.int .i64 0) rfl (by kernel_rfl) ?_
 refine sq_done ?_
 simp only[Act.put,List.setIfInBounds_toArray,List.set_cons_zero,List.set_cons_succ]
 go_upto_region 2 with(fail)
 refine wp_region_o (sp:=[some (.slice (some ⟨q,0,none⟩) 64 64),some (.slice (some ⟨q,0,none⟩) 32 64),some (.slice (some ⟨q,0,none⟩) 64 64),some (.slice (some ⟨q,32,none⟩) 32 32),some (.slice (some ⟨q,0,none⟩) 32 64),some (.slice (some ⟨q,32,none⟩) 32 32)]) (vs:=[]) (out:=none) (by kernel_rfl) (by kernel_rfl) (by kernel_rfl) (by kernel_rfl) (by kernel_rfl) (by simp) ?_ ?_
 ·refine Each.cons ?_<|Each.cons ?_<|Each.cons ?_<|Each.cons ?_<|Each.cons ?_<|Each.cons ?_<|Each.nil
  ·exact OV.val (.slice (some ⟨q,0,none⟩) 64 64) (by kernel_rfl) (fun γ=>by kernel_rfl) (by kernel_rfl) (fun γ w=>by kernel_rfl)
  ·exact OV.val (.slice (some ⟨q,0,none⟩) 32 64) (by kernel_rfl) (fun γ=>by kernel_rfl) (by kernel_rfl) (fun γ w=>by kernel_rfl)
  ·exact OV.val (.slice (some ⟨q,0,none⟩) 64 64) (by kernel_rfl) (fun γ=>by kernel_rfl) (by kernel_rfl) (fun γ w=>by kernel_rfl)
  ·exact OV.val (.slice (some ⟨q,32,none⟩) 32 32) (by kernel_rfl) (fun γ=>by kernel_rfl) (by kernel_rfl) (fun γ w=>by kernel_rfl)
  ·exact OV.val (.slice (some ⟨q,0,none⟩) 32 64) (by kernel_rfl) (fun γ=>by kernel_rfl) (by kernel_rfl) (fun γ w=>by kernel_rfl)
  ·exact OV.val (.slice (some ⟨q,32,none⟩) 32 32) (by kernel_rfl) (fun γ=>by kernel_rfl) (by kernel_rfl) (fun γ w=>by kernel_rfl)
 intro γ W2 hgr2 hat hx2 hres
 clear hat hx2 hres
 have B2:=B1.grown hgr2 (by simp)
 have D2:=below_none D1 hgr2
 simp only[fr,fill,exa,spx,List.map_cons,List.map_nil,List.getElem?_cons_zero,List.getElem?_cons_succ,List.setIfInBounds_toArray,List.set_cons_zero,List.set_cons_succ]
 clear B1 D1 hgr2
 go_upto_region 3 with(fail)
 refine wp_region_lit ?_
 refine sq_run (.slice (some ⟨q,0,none⟩) 32 64) rfl (by kernel_rfl) ?_
 refine sq_run (.pointer (some ⟨q,0,none⟩)) rfl (by kernel_rfl) ?_
 refine sq_cell ⟨q,0,none⟩ (.int .u8 (x:Int)) (B2.cell_ (by simpa using C0.out)) 5 (.tmp 16) rfl rfl (by kernel_rfl) Tryz.underlying5 rfl ?_
 refine sq_run (.int .u8 ((x / 8*8:Nat):Int)) rfl (run_bin_op .andNot 5 (.tmp 17) (.const (.int .u8 7)) _ rfl (.int .u8 (x:Int)) (.int .u8 7) (.int .u8 ((x / 8*8:Nat):Int)) (by kernel_rfl) (by kernel_rfl) (by kernel_rfl) (o_andn7 _ x l0)) ?_
 refine sq_run (.pointer (some ⟨q,0,none⟩)) rfl (by kernel_rfl) ?_
 refine sq_put q 0 _ _ B2 (.int .u8 ((x / 8*8:Nat):Int)) 5 (.tmp 19) (.tmp 18) rfl rfl (by kernel_rfl) (by kernel_rfl) rfl (by simp[bl_length,HD.out]) size8 rfl fun W3 B3 G3=>?_
 rw[bl_set] at B3
 refine sq_done ?_
 simp only[Act.put,List.setIfInBounds_toArray,List.set_cons_zero,List.set_cons_succ]
 have D3:=below_only (g:=q) D2 G3 hq
 clear D2 B2 G3
 go_upto_region 4 with(fail)
 refine wp_region_lit ?_
 refine sq_run (.slice (some ⟨q,0,none⟩) 32 64) rfl (by kernel_rfl) ?_
 refine sq_run (.slice (some ⟨q,0,none⟩) 32 64) rfl (by kernel_rfl) ?_
 refine sq_run (.pointer (some ⟨q,31,none⟩)) rfl (by kernel_rfl) ?_
 refine sq_cell ⟨q,31,none⟩ (.int .u8 (y:Int)) (B3.cell_ (by simpa using C31.out)) 5 (.tmp 22) rfl rfl (by kernel_rfl) Tryz.underlying5 rfl ?_
 refine sq_run (.int .u8 ((y%128:Nat):Int)) rfl (run_bin_op .andNot 5 (.tmp 23) (.const (.int .u8 128)) _ rfl (.int .u8 (y:Int)) (.int .u8 128) (.int .u8 ((y%128:Nat):Int)) (by kernel_rfl) (by kernel_rfl) (by kernel_rfl) (o_andn128 _ y l31)) ?_
 refine sq_run (.int .u8 ((y%64+64:Nat):Int)) rfl (run_bin_op .or 5 (.tmp 24) (.const (.int .u8 64)) _ rfl (.int .u8 ((y%128:Nat):Int)) (.int .u8 64) (.int .u8 ((y%64+64:Nat):Int)) (by kernel_rfl) (by kernel_rfl) (by kernel_rfl) (o_or64 _ y l31)) ?_
 refine sq_run (.pointer (some ⟨q,31,none⟩)) rfl (by kernel_rfl) ?_
 refine sq_put q 31 _ _ B3 (.int .u8 ((y%64+64:Nat):Int)) 5 (.tmp 26) (.tmp 25) rfl rfl (by kernel_rfl) (by kernel_rfl) rfl (by simp[bl_length,HD.out]) size8 rfl fun W4 B4 G4=>?_
 rw[bl_set,←HSE.out] at B4
 refine sq_done ?_
 simp only[Act.put,List.setIfInBounds_toArray,List.set_cons_zero,List.set_cons_succ]
 have D4:=below_only (g:=q) D3 G4 hq
 have BB:=Lib.hid B4
 clear D3 B3 G4 B4
 go_wp2_with fail
 go_ret2
 exact⟨q,rfl,hq,BB.out,D4⟩
theorem dg_len(l:List Nat):(Sh.dg true l).length=64:=by
 have hr:∀m,(Sh.run true (l ++ Sh.pad true l.length) m).length=8:=by
  intro m
  induction m with
  |zero=>rfl
  |succ m ih=>rw[Sh.run];exact Sh.bh_length _ _ _ ih
 unfold Sh.dg
 have fl:∀L:List Nat,(L.flatMap fun x=>Sh.be x (Sh.wd true / 8)).length=8*L.length:=by
  intro L
  induction L with
  |nil=>rfl
  |cons x L ih=>rw[List.flatMap_cons,List.length_append,ih,Sh.be_length,List.length_cons,show Sh.wd true / 8=8 from rfl];omega
 rw[fl,hr]
theorem dg_lt(l:List Nat):∀x∈Sh.dg true l,x < 256:=by
 intro x hx
 unfold Sh.dg at hx
 obtain⟨y,-, hy⟩:=List.mem_flatMap.1 hx
 exact Sh.be_lt _ _ x hy
theorem halves_any(A:Option Addr)(c:Nat)(l:List Nat)(w:World)(hl:∀x∈l,x < 256)(hsl:Sl w A l.length (bl l))(hAw:∀ad,A=some ad→ad.block < w.heap.size)(hlc:l.length≤c)(hmax:l.length≤1048576)(tab:Sh.Tab w) :
  Calls Tryz.prog 19 #[.slice A l.length c] w (HalvesQ (Sh.dg true l) w) :=
 halves_walk A l.length c _ w (dg_len l) (dg_lt l) (Sh.Sum512_any l A c w hl hsl hAw hlc hmax tab)
set_option maxRecDepth 100000 in
set_option maxHeartbeats 4000000 in
theorem baseTimes_any(A:Option Addr)(n c:Nat)(l:List Nat)(b:G)(w:World)(tab:TabE w)(hn:n≤32)(hl:∀x∈l,x < 256)(hs:Sl w A n (bl l))(hb:Hp kbase b) :
  Calls Tryz.prog 20 #[.slice A n c] w (RetB (by_ (gb (ti (le l) b)) 32) w):=by
 have BC:=Base_any
 have MC:=fun(w':World) (tab':TabE w') (hs':Sl w' A n (bl l))=>Mul_any A n c l kbase w' b tab' hn hl hs' hb
 generalize kbase=kb at BC MC
 replace BC:=Lib.hid BC
 replace MC:=Lib.hid MC
 have TB:=Lib.hid tab
 have HS:=Lib.hid hs
 clear tab hn hl hs hb
 go_enter Tryz.func20,Tryz.ntmps20
 go_upto_region 1 with(fail)
 refine wp_region_lit ?_
 refine sq_run (.slice A n c) rfl (by kernel_rfl) ?_
 refine sq_enter 12 #[] rfl (by kernel_rfl) ((BC.out _ TB.out).mono ?_)
 rintro e W1 ⟨rfl,D1⟩
 refine⟨_,rfl,?_⟩
 refine sq_enter 11 #[.slice A n c,.agg kb.v] rfl (by kernel_rfl) ((MC.out _ (TB.out.below D1) (HS.out.below D1)).mono ?_)
 rintro e W2 ⟨r,rfl,hr,E2⟩
 refine⟨_,rfl,?_⟩
 have D2:=below_nx D1 (Nat.le_refl _) E2
 have HR:=Lib.hid hr
 clear hr E2 D1
 refine sq_run (.tuple #[.agg r.v,.int .i64 0]) rfl (by kernel_rfl) ?_
 refine sq_run (.agg r.v) rfl (by kernel_rfl) ?_
 refine sq_run (.int .i64 0) rfl (by kernel_rfl) ?_
 refine sq_new (W2.alloc (.cells z20 33)) (.pointer (some ⟨W2.heap.size,0,none⟩)) rfl (by kernel_rfl) ?_
 have D3:=D2.alloc D2.size (.cells z20 33)
 have BN:=Bl.new_ W2 33 z20
 have hz:=D2.size
 obtain⟨g,hg⟩:∃g,W2.heap.size=g:=⟨_,rfl⟩
 rw[hg] at BN hz ⊢
 clear D2 hg
 refine sq_store g 33 z20 r.v BN 33 (.tmp 3) (.tmp 9) rfl rfl (by kernel_rfl) (by kernel_rfl) (KP.sz kz4 _) sizeP (KP.ones _) fun W4 C4 G4=>?_
 have D4:=below_only (g:=g) D3 G4 hz
 clear D3 BN G4
 refine sq_run (.int .i64 0) rfl (by kernel_rfl) ?_
 refine sq_done ?_
 simp only[Act.put,List.setIfInBounds_toArray,List.set_cons_zero,List.set_cons_succ]
 go_upto_region 2 with(fail)
 refine wp_region_lit ?_
 refine sq_load g 0 20 33 r.v C4 r.v 33 (.tmp 3) rfl rfl (by kernel_rfl) (by kernel_rfl) (by kernel_rfl) Tryz.underlying33 rfl sizeP ?_
 refine sq_enter 16 #[.agg r.v] rfl (by kernel_rfl) ((PEncode_any _ HR.out).mono ?_)
 rintro e W5 ⟨q,rfl,hq,B5,E5⟩
 refine⟨_,rfl,?_⟩
 have D5:=below_nx D4 (Nat.le_refl _) E5
 rw[by_length]
 refine sq_run (.slice (some ⟨q,0,none⟩) 32 32) rfl (by kernel_rfl) ?_
 refine sq_done ?_
 simp only[Act.put,List.setIfInBounds_toArray,List.set_cons_zero,List.set_cons_succ]
 have BB:=Lib.hid B5
 have hqq:w.heap.size≤q:=Nat.le_trans D4.size hq
 clear D4 C4 E5 B5
 go_wp2_with fail
 go_ret
 exact⟨q,by rw[by_length];rfl,hqq,BB.out,D5⟩
set_option maxRecDepth 100000 in
set_option maxHeartbeats 4000000 in
theorem Key_any(A:Option Addr)(c:Nat)(l:List Nat)(b:G)(w:World)(tab:TabE w)(ts:Sh.Tab w)(hl:∀x∈l,x < 256)(h32:l.length=32)(hsl:Sl w A 32 (bl l))(hAw:∀ad,A=some ad→ad.block < w.heap.size)(hlc:32≤c)(hb:Hp kbase b) :
  Calls Tryz.prog 6 #[.slice A 32 c] w fun e w'=>∃g,e=.returned (.tuple #[.slice (some ⟨g,0,none⟩) 32 32,.int .i64 0])∧w.heap.size≤g∧Bl w' g 5 (bl (by_ (gb (ti (le (sec l)) b)) 32)).toArray∧Below w.heap.size w w':=by
 have HV:=halves_any A c l w hl (by rw[h32];exact hsl) hAw (by omega) (by omega) ts
 rw[h32] at HV
 have hsl2:(sec l).length=32:=by unfold sec;rw[List.length_take,secd_length,dg_len];rfl
 have hsb:∀x∈sec l,x < 256:=fun x hx=>secd_lt (dg_lt l) x (List.mem_of_mem_take hx)
 have hsx:∀ {w':World} {q:Nat},Bl w' q 5 (bl (secd (Sh.dg true l))).toArray→Sl w' (some ⟨q,0,none⟩) 32 (bl (sec l)):=by
  intro w' q hB
  refine Sl.of_bl hB 0 32 _ (by rw[bl_length];exact hsl2) (fun k v hv=>?_)
  have hk:k < 32:=by
   have:=(List.getElem?_eq_some_iff.1 hv).1
   rwa [bl_length,hsl2] at this
  unfold sec at hv
  rw[←bl_take,List.getElem?_take,if_pos hk] at hv
  rw[Nat.zero_add]
  simpa using hv
 have BT:=fun(q:Nat) (w':World) (tab':TabE w') (hs':Sl w' (some ⟨q,0,none⟩) 32 (bl (sec l)))=>baseTimes_any (some ⟨q,0,none⟩) 32 64 (sec l) b w' tab' (Nat.le_refl _) hsb hs' hb
 replace BT:=Lib.hid BT
 replace HV:=Lib.hid HV
 have HSX:=Lib.hid (show ∀(w':World) (q:Nat),Bl w' q 5 (bl (secd (Sh.dg true l))).toArray→Sl w' (some ⟨q,0,none⟩) 32 (bl (sec l)) from fun w' q h=>hsx h)
 have TB:=Lib.hid tab
 obtain⟨res,hres⟩:∃res,by_ (gb (ti (le (sec l)) b)) 32=res:=⟨_,rfl⟩
 have hrl:res.length=32:=by rw[←hres,by_length]
 rw[hres] at BT ⊢
 clear tab ts hl h32 hsl hb hsl2 hsb hsx hres
 go_enter Tryz.func6,Tryz.ntmps6
 go_upto_region 1 with(fail)
 refine wp_region_lit ?_
 refine sq_run (.slice A 32 c) rfl (by kernel_rfl) ?_
 refine sq_run (.int .i64 32) rfl (by kernel_rfl) ?_
 refine sq_run (.bool false) rfl (by kernel_rfl) ?_
 refine sq_done ?_
 simp only[Act.put,List.setIfInBounds_toArray,List.set_cons_zero,List.set_cons_succ]
 go_upto_region 3 with(fail)
 refine wp_region_lit ?_
 refine sq_run (.slice A 32 c) rfl (by kernel_rfl) ?_
 refine sq_enter 19 #[.slice A 32 c] rfl (by kernel_rfl) (HV.out.mono ?_)
 rintro e W1 ⟨q,rfl,hq,B1,D1⟩
 refine⟨_,rfl,?_⟩
 refine sq_run (.tuple #[.slice (some ⟨q,0,none⟩) 32 64,.slice (some ⟨q,32,none⟩) 32 32]) rfl (by kernel_rfl) ?_
 refine sq_run (.slice (some ⟨q,0,none⟩) 32 64) rfl (by kernel_rfl) ?_
 refine sq_run (.slice (some ⟨q,32,none⟩) 32 32) rfl (by kernel_rfl) ?_
 refine sq_run (.slice (some ⟨q,0,none⟩) 32 64) rfl (by kernel_rfl) ?_
 refine sq_run (.slice (some ⟨q,32,none⟩) 32 32) rfl (by kernel_rfl) ?_
 refine sq_done ?_
 simp only[Act.put,List.setIfInBounds_toArray,List.set_cons_zero,List.set_cons_succ]
 have S1:=HSX.out _ _ B1
 clear B1
 go_upto_region 4 with(fail)
 refine wp_region_lit ?_
 refine sq_run (.slice (some ⟨q,0,none⟩) 32 64) rfl (by kernel_rfl) ?_
 refine sq_enter 20 #[.slice (some ⟨q,0,none⟩) 32 64] rfl (by kernel_rfl) ((BT.out q _ (TB.out.below D1) S1).mono ?_)
 rintro e W2 ⟨g,rfl,hg,B2,E2⟩
 refine⟨_,rfl,?_⟩
 rw[hrl]
 have D2:=below_nx D1 (Nat.le_refl _) E2
 refine sq_run (.slice (some ⟨g,0,none⟩) 32 32) rfl (by kernel_rfl) ?_
 refine sq_run (.int .i64 0) rfl (by kernel_rfl) ?_
 refine sq_done ?_
 simp only[Act.put,List.setIfInBounds_toArray,List.set_cons_zero,List.set_cons_succ]
 have BB:=Lib.hid B2
 have hgg:w.heap.size≤g:=Nat.le_trans D1.size hg
 clear B2 E2 D1 S1
 go_wp2_with fail
 go_ret2
 exact⟨g,rfl,hgg,BB.out,D2⟩
end Go.Proofs.YtoibhnpmemnlfaaGreatDoor.Ed
