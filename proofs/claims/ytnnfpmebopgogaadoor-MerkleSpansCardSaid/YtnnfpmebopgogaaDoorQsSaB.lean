/- Joined texts. -/
import Derived.Deep.DeepCutAuto
import Derived.Test.YtnnfpmebopgogaaDoorQsSaA
set_option linter.unusedVariables false
namespace Go.Proofs.YtnnfpmebopgogaaDoor.Sh
open Go.RowKit Go.Proofs.YtnnfpmebopgogaaDoor.Gn Go.Deep
attribute [local go_sem ↓] Go.wp_at_zero Go.wp_at_succ
def Tab(w:World):Prop:=(∀t,t < 80→w.cell? ⟨1,t,none⟩=some (.int .u64 ((kc.getD t 0:Nat):Int)))∧(∀t,t < 8→w.cell? ⟨0,t,none⟩=some (.int .u64 ((sc.getD t 0:Nat):Int)))
theorem Tab.below{w w':World}(h:Tab w)(hb:Below w.heap.size w w'):Tab w':=⟨fun t ht=>keepc hb (h.1 t ht),fun t ht=>keepc hb (h.2 t ht)⟩
theorem Tab.drew{w:World}(h:Tab w):Tab w.drew:=h
theorem Tab.alloc{w:World}(h:Tab w)(o:Obj):Tab (w.alloc o):=h.below ((Below.refl _ _).alloc (Nat.le_refl _) _)
structure Lt8 (B:Bool) (v:V8):Prop where
 a:v.a < mo B
 b:v.b < mo B
 c:v.c < mo B
 d:v.d < mo B
 e:v.e < mo B
 f:v.f < mo B
 g:v.g < mo B
 k:v.k < mo B
theorem mo_pos(b:Bool):0 < mo b:=by cases b <;> decide
theorem mx_lt(b:Bool)(ws:List Nat)(hv:V8)(hh:Lt8 b hv)(t:Nat):Lt8 b (mx b ws hv t):=by
 induction t with
 |zero=>exact hh
 |succ t ih=>exact⟨Nat.mod_lt _ (mo_pos b),ih.a,ih.b,ih.c,Nat.mod_lt _ (mo_pos b),ih.e,ih.f,ih.g⟩
theorem notI32(e:Nat)(he:e < 4294967296):bits .xor .u32 IntKind.u32.max (e:Int)=((4294967296 - 1 - e:Nat):Int):=by
 have e1:IntKind.u32.max=((2 ^ 32 - 1:Nat):Int):=by decide
 rw[e1,u32_xor_nat _ _ (by decide) he]
 congr 1
 have h1:=Nat.xor_comm (2 ^ 32 - 1) e
 apply Nat.eq_of_testBit_eq
 intro i
 rw[Nat.testBit_xor,Nat.testBit_two_pow_sub_one]
 have h2:(2 ^ 32 - (e+1)).testBit i=(decide (i < 32) && !e.testBit i):=Nat.testBit_two_pow_sub_succ (by exact he) i
 rw[show 4294967296 - 1 - e=2 ^ 32 - (e+1) by omega,h2]
 by_cases hi:i < 32
 ·simp[hi]
 ·have:e.testBit i=false:=Nat.testBit_lt_two_pow (Nat.lt_of_lt_of_le he (Nat.pow_le_pow_right (n:=2) (by decide) (by omega:32≤i)))
  simp[hi,this]
theorem chI32(e f g:Nat)(he:e < 4294967296)(hf:f < 4294967296)(hg:g < 4294967296) :
  bits .xor .u32 (bits .and .u32 (e:Int) (f:Int)) (bits .and .u32 (bits .xor .u32 IntKind.u32.max (e:Int)) (g:Int))=((ch false e f g:Nat):Int):=by
 rw[notI32 e he,u32_and_nat _ _ he hf,u32_and_nat _ _ (by omega) hg,u32_xor_nat _ _ (Nat.and_lt_two_pow (n:=32) _ hf) (Nat.and_lt_two_pow (n:=32) _ hg)]
 rfl
theorem maI32(x y z:Nat)(hx:x < 4294967296)(hy:y < 4294967296)(hz:z < 4294967296) :
  bits .xor .u32 (bits .xor .u32 (bits .and .u32 (x:Int) (y:Int)) (bits .and .u32 (x:Int) (z:Int))) (bits .and .u32 (y:Int) (z:Int))=((ma x y z:Nat):Int):=by
 rw[u32_and_nat _ _ hx hy,u32_and_nat _ _ hx hz,u32_and_nat _ _ hy hz,u32_xor_nat _ _ (Nat.and_lt_two_pow (n:=32) _ hy) (Nat.and_lt_two_pow (n:=32) _ hz),
  u32_xor_nat _ _ (Nat.xor_lt_two_pow (n:=32) (Nat.and_lt_two_pow _ hy) (Nat.and_lt_two_pow _ hz)) (Nat.and_lt_two_pow (n:=32) _ hz)]
 rfl
theorem rx32(V:V8)(hV:Lt8 false V)(C W:Nat) :
  (((((V.k:Int)+((g1 false V.e:Nat):Int))%4294967296+bits .xor .u32 (bits .and .u32 (V.e:Int) (V.f:Int)) (bits .and .u32 (bits .xor .u32 IntKind.u32.max (V.e:Int)) (V.g:Int)))%4294967296+(C:Int) / 2 ^ min 32 64%4294967296)%4294967296+(W:Int))%4294967296
   = ((rx false (C / 2 ^ (64 - 32)) W V:Nat):Int):=by
 rw[chI32 _ _ _ hV.e hV.f hV.g,show min 32 64=64 - 32 from rfl,div_cast]
 unfold rx
 rw[mo_false]
 generalize C / 2 ^ (64 - 32)=K
 omega
theorem ry32(V:V8)(hV:Lt8 false V) :
  (((g0 false V.a:Nat):Int)+bits .xor .u32 (bits .xor .u32 (bits .and .u32 (V.a:Int) (V.b:Int)) (bits .and .u32 (V.a:Int) (V.c:Int))) (bits .and .u32 (V.b:Int) (V.c:Int)))%4294967296=((ry false V:Nat):Int):=by
 rw[maI32 _ _ _ hV.a hV.b hV.c]
 unfold ry
 rw[mo_false]
 omega
theorem eight32:(Tryd.prog.info? 131).map (·.size)=some 8:=by kernel_rfl
def X32(w wr:World)(arr:Array Value):Prop :=
 Bl wr w.heap.size 128 (kv false)∧Bl wr (w.heap.size+1+1) 133 arr∧(∃z:Array Value,z.size=8∧Bl wr (w.heap.size+1+1+1) 131 z)∧Below w.heap.size w wr
def vl32(v:V8):Array Value:=#[.int .u32 (v.a:Int),.int .u32 (v.b:Int),.int .u32 (v.c:Int),.int .u32 (v.d:Int),.int .u32 (v.e:Int),.int .u32 (v.f:Int),.int .u32 (v.g:Int),.int .u32 (v.k:Int)]
def R32(ws:List Nat)(hv:V8)(w:World)(arr:Array Value)(a b c d e f g k i:Value)(wr:World):Prop :=
 ∃(t:Nat) (V:V8),t≤64∧i=.int .i64 (t:Int)∧V=mx false ws hv t∧a=.int .u32 (V.a:Int)∧b=.int .u32 (V.b:Int)∧c=.int .u32 (V.c:Int)∧d=.int .u32 (V.d:Int)∧e=.int .u32 (V.e:Int)∧f=.int .u32 (V.f:Int)∧g=.int .u32 (V.g:Int)∧k=.int .u32 (V.k:Int)∧X32 w wr arr
set_option maxRecDepth 100000 in
set_option maxHeartbeats 2000000 in
theorem mixed32_any(hv:V8)(hh:Lt8 false hv)(arr:Array Value)(ws:List Nat)(w:World)(hsz:arr.size=80)(harr:∀j,j < 64→arr[j]?=some (.int .u32 ((ws.getD j 0:Nat):Int)))(tab:Tab w) :
  Calls Tryd.prog 110 #[.agg (kv false),.agg (vl32 hv),.agg arr] w fun e w'=>e=.returned (.agg (vl32 (mx false ws hv 64)))∧Below w.heap.size w w':=by
 have TAB:=Lib.hid tab
 have HARR:=Lib.hid harr
 have HH:=Lib.hid hh
 clear tab harr hh
 obtain⟨VR,hVR⟩:∃V,V=mx false ws hv 64:=⟨_,rfl⟩
 rw[←hVR]
 have HVR:=Lib.hid hVR
 clear hVR
 rw[kv_false]
 unfold vl32
 go_enter Tryd.func110,Tryd.ntmps110
 go_wp2
 go_quiet (fail)
 go_wp2_with fail
 go_loopw [7,8,9,10,11,12,13,14,38] (fun a b c d e f g k i wr=>R32 ws hv w arr a b c d e f g k i wr) (fun _ _ _ _ _ _ _ _ i _=>64 - (intOf i).toNat)
 case atStart =>
  refine⟨0,hv,Nat.zero_le _,rfl,rfl,rfl,rfl,rfl,rfl,rfl,rfl,rfl,rfl,?_,?_,⟨#[.int .u32 0,.int .u32 0,.int .u32 0,.int .u32 0,.int .u32 0,.int .u32 0,.int .u32 0,.int .u32 0],rfl,?_⟩,?_⟩
  ·exact((((Bl.new_ w _ _).alloc _).alloc _).alloc _).drewN _
  ·exact(((Bl.new' (w:=(w.alloc _).alloc _) _ _ (by simp))).alloc _).drewN _
  ·exact(Bl.new' (w:=((w.alloc _).alloc _).alloc _) _ _ (by simp)).drewN _
  ·exact below_drewN (((((Below.refl _ _).alloc (Nat.le_refl _) _).alloc (by simp) _).alloc (by simp;omega) _).alloc (by simp;omega) _) _
 case round =>
  obtain⟨t,V,ht,rfl,hV,rfl,rfl,rfl,rfl,rfl,rfl,rfl,rfl,hX⟩:=hrel
  have HV:=Lib.hid hV
  have HX:=Lib.hid hX
  clear hV hX
  by_cases hlt:t < 64
  ·have hkc:=TAB.out.1 t (by omega)
   obtain⟨C,hC⟩:∃C,C=kc.getD t 0:=⟨_,rfl⟩
   obtain⟨W,hW⟩:∃W,W=ws.getD t 0:=⟨_,rfl⟩
   have hc:=HX.out.2.1.cell t
   rw[HARR.out t hlt,←hW] at hc
   rw[←hC] at hkc
   have hkc:=keepc HX.out.2.2.2 hkc
   have HC:=Lib.hid hC
   have HW:=Lib.hid hW
   clear hC hW
   have kvs:=HX.out.1.cell
   rw[kv_false] at kvs
   have kv0:=kvs 0
   have kv8:=kvs 8
   have kv9:=kvs 9
   have kv10:=kvs 10
   have kv11:=kvs 11
   have kv12:=kvs 12
   have kv13:=kvs 13
   clear kvs
   simp only[List.getElem?_toArray,List.getElem?_cons_zero,List.getElem?_cons_succ] at kv0 kv8 kv9 kv10 kv11 kv12 kv13
   have LV:=Lib.hid (show Lt8 false V by rw[HV.out];exact mx_lt false ws hv HH.out t)
   have bt:(t:Int) < 80:=by omega
   go_wp2_with fail
   go_region_held3 (fun x=>x.cell? ⟨1,t,none⟩=some (.int .u64 (C:Int))∧x.cell? ⟨w.heap.size+1+1,t,none⟩=some (.int .u32 (W:Int))∧x.cell? ⟨w.heap.size,0,none⟩=some (.int .u64 32)∧x.cell? ⟨w.heap.size,11,none⟩=some (.int .u64 6)∧x.cell? ⟨w.heap.size,12,none⟩=some (.int .u64 11)∧x.cell? ⟨w.heap.size,13,none⟩=some (.int .u64 25))
    (first|exact⟨hkc,hc,kv0,kv11,kv12,kv13⟩|exact⟨keepc hb1 hkc,keepc hb1 hc,keepc hb1 kv0,keepc hb1 kv11,keepc hb1 kv12,keepc hb1 kv13⟩)
    (first|(go_at_call 114;refine(great32_1 V.e _ (LV.out.e)).mono ?_;rintro e w1 ⟨rfl,hb1⟩))
   rename_i hHeld
   clear hHeld
   have kw0:=keepc hb1 kv0
   have kw8:=keepc hb1 kv8
   have kw9:=keepc hb1 kv9
   have kw10:=keepc hb1 kv10
   have HB1:=Lib.hid hb1
   clear hb1 hkc hc kv0 kv8 kv9 kv10 kv11 kv12 kv13
   go_wp2_with (go_at_call 114;refine(great32_0 V.a _ (LV.out.a)).mono ?_;rintro e w2 ⟨rfl,hb2⟩)
   have HB2:=Lib.hid hb2
   clear hb2 kw0 kw8 kw9 kw10
   go_roundw
   case rel =>
    have hbw:Below wr.heap.size wr w2:=(((Below.refl _ _).drew).trans HB1.out).trans (HB2.out.mono HB1.out.size)
    obtain⟨z,hz0,hz⟩:=HX.out.2.2.1
    have ex:=rx32 V LV.out C W
    have ey:=ry32 V LV.out
    have hk:kt false t=C / 2 ^ (64 - 32):=by rw[HC.out];rfl
    refine⟨t+1,mx false ws hv (t+1),by omega,by go_num,rfl,?_,?_,?_,?_,?_,?_,?_,?_,HX.out.1.below' hbw,HX.out.2.1.below' hbw,⟨z,hz0,hz.below' hbw⟩,HX.out.2.2.2.trans (hbw.mono HX.out.2.2.2.size)⟩
    all_goals rw[mx,←HV.out,hk,←HW.out]
    all_goals simp only[rnd]
    ·exact congrArg _ (by(try simp only[IntKind.wrap_u32]);rw[ex,ey,mo_false];simp)
    ·exact congrArg _ (by(try simp only[IntKind.wrap_u32]);rw[ex,mo_false];simp)
   case measure=>simp[intOf];omega
  ·obtain rfl:t=64:=by omega
   obtain⟨z,hz0,hz⟩:=HX.out.2.2.1
   have zc:∀j,j < 8→∃v,wr.cell? ⟨w.heap.size+1+1+1,j,none⟩=some v:=fun j hj=>⟨z[j]'(by omega),by rw[hz.cell,Array.getElem?_eq_getElem]⟩
   have zf:=fun j=>hz.frozen j
   obtain⟨v0,z0⟩:=zc 0 (by decide)
   obtain⟨v1,z1⟩:=zc 1 (by decide)
   obtain⟨v2,z2⟩:=zc 2 (by decide)
   obtain⟨v3,z3⟩:=zc 3 (by decide)
   obtain⟨v4,z4⟩:=zc 4 (by decide)
   obtain⟨v5,z5⟩:=zc 5 (by decide)
   obtain⟨v6,z6⟩:=zc 6 (by decide)
   obtain⟨v7,z7⟩:=zc 7 (by decide)
   clear zc
   go_wp2
   have hVV:V=VR:=HV.out.trans HVR.out.symm
   have HB8:=((((((((hz.set_ 0 (.int .u32 (V.a:Int))).set_ 1 (.int .u32 (V.b:Int))).set_ 2 (.int .u32 (V.c:Int))).set_ 3 (.int .u32 (V.d:Int))).set_ 4 (.int .u32 (V.e:Int))).set_ 5 (.int .u32 (V.f:Int))).set_ 6 (.int .u32 (V.g:Int))).set_ 7 (.int .u32 (V.k:Int)))
   rw[set8 hz0] at HB8
   refine bodyPost_ret (v:=.agg (vl32 V)) (results_cell_row rfl _ _ (w.heap.size+1+1+1) 131 _ (0,0) _ rfl HB8 Tryd.underlying131 rfl eight32) rfl ⟨?_,?_⟩
   ·rw[hVV];rfl
   ·clear HB8
    iterate 8 (refine Below.setCell ?_ (by simp;omega) _)
    exact HX.out.2.2.2
theorem notI64(e:Nat)(he:e < 18446744073709551616):bits .xor .u64 IntKind.u64.max (e:Int)=((18446744073709551616 - 1 - e:Nat):Int):=by
 have e1:IntKind.u64.max=((2 ^ 64 - 1:Nat):Int):=by decide
 rw[e1,u64_xor_nat _ _ (by decide) he]
 congr 1
 have h1:=Nat.xor_comm (2 ^ 64 - 1) e
 apply Nat.eq_of_testBit_eq
 intro i
 rw[Nat.testBit_xor,Nat.testBit_two_pow_sub_one]
 have h2:(2 ^ 64 - (e+1)).testBit i=(decide (i < 64) && !e.testBit i):=Nat.testBit_two_pow_sub_succ (by exact he) i
 rw[show 18446744073709551616 - 1 - e=2 ^ 64 - (e+1) by omega,h2]
 by_cases hi:i < 64
 ·simp[hi]
 ·have:e.testBit i=false:=Nat.testBit_lt_two_pow (Nat.lt_of_lt_of_le he (Nat.pow_le_pow_right (n:=2) (by decide) (by omega:64≤i)))
  simp[hi,this]
end Go.Proofs.YtnnfpmebopgogaaDoor.Sh
namespace Go.Proofs.YtnnfpmebopgogaaDoor.Sh
open Go.RowKit Go.Proofs.YtnnfpmebopgogaaDoor.Gn Go.Deep
attribute [local go_sem ↓] Go.wp_at_zero Go.wp_at_succ
def al(k:IntKind)(l:List Nat):Array Value:=(l.map fun(x:Nat)=>Value.int k (x:Int)).toArray
theorem al_size(k:IntKind)(l:List Nat):(al k l).size=l.length:=by simp[al]
theorem al_get(k:IntKind)(l:List Nat)(j:Nat)(hj:j < l.length):(al k l)[j]?=some (.int k ((l.getD j 0:Nat):Int)):=by
 simp[al,hj]
theorem al_ones(k:IntKind)(l:List Nat):Ones (al k l):=by
 intro v hv;simp[al] at hv;obtain⟨y,-, rfl⟩:=hv;rfl
theorem al_ext{k:IntKind}{arr:Array Value}{l:List Nat}(hs:arr.size=l.length)(h:∀j,j < l.length→arr[j]?=some (.int k ((l.getD j 0:Nat):Int))):arr=al k l:=by
 apply Array.ext_getElem?
 intro j
 by_cases hj:j < l.length
 ·rw[h j hj,al_get k l j hj]
 ·rw[Array.getElem?_eq_none (by omega),Array.getElem?_eq_none (by rw[al_size];omega)]
theorem zip_getD(f:Nat→Nat→Nat)(a b:List Nat)(j:Nat)(h1:j < a.length)(h2:j < b.length):(List.zipWith f a b).getD j 0=f (a.getD j 0) (b.getD j 0):=by
 rw[List.getD_eq_getElem?_getD,List.getD_eq_getElem?_getD,List.getD_eq_getElem?_getD,List.getElem?_zipWith,List.getElem?_eq_getElem h1,List.getElem?_eq_getElem h2];rfl
theorem eightq:(Tryd.prog.info? 118).map (·.size)=some 8:=by kernel_rfl
theorem info_u64:(Tryd.prog.info? 97).map (·.size)=some 1:=by kernel_rfl
def B132(h:List Nat)(w:World)(i:Value)(wr:World):Prop :=
 ∃(k:Nat) (arr:Array Value),k≤8∧i=.int .i64 (k:Int)∧arr.size=8∧(∀j,j < k→arr[j]?=some (.int .u32 ((h.getD j 0:Nat):Int)))∧Bl wr (w.heap.size+1+1+1) 131 arr∧Bl wr w.heap.size 128 (kv false)∧Bl wr (w.heap.size+1) 118 (al .u64 h)∧(∃z:Array Value,z.size=8∧Bl wr (w.heap.size+1+1) 118 z)∧Below w.heap.size w wr
def B232(h:List Nat)(M:V8)(g:Nat)(w:World)(i:Value)(wr:World):Prop :=
 ∃(k:Nat) (arr:Array Value),k≤8∧i=.int .i64 (k:Int)∧arr.size=8∧(∀j,j < 8→arr[j]?=some (.int .u64 ((if j < k then(h.getD j 0+M.l.getD j 0)%mo false else h.getD j 0:Nat):Int)))∧Bl wr (w.heap.size+1) 118 arr∧Bl wr (w.heap.size+1+1+1) 131 (al .u32 h)∧Bl wr g 131 (vl32 M)∧(∃z:Array Value,z.size=8∧Bl wr (w.heap.size+1+1) 118 z)∧Below w.heap.size w wr
set_option maxRecDepth 100000 in
set_option maxHeartbeats 4000000 in
theorem behind32_any (h : List Nat) (hl : h.length = 8) (hh : ∀ x ∈ h, x < mo false) (A : Option Addr) (c : Nat) (l : List Nat) (w : World) (hb : ∀ x ∈ l, x < 256) (hs : Sl w A 64 (bl l)) (hc : 64 ≤ c) (tab : Tab w) :
    Calls Tryd.prog 108 #[.agg (kv false), .agg (al .u64 h), .slice A 64 c] w fun e w' => e = .returned (.agg (al .u64 (bh false h l))) ∧ Below w.heap.size w w' := by
  have TAB := Lib.hid tab
  have HH := Lib.hid hh
  have HB := Lib.hid hb
  have HS := Lib.hid hs
  have HAL := Lib.hid (al_size .u64 h)
  clear tab hh hb hs
  obtain ⟨ah, hah⟩ : ∃ a, a = al .u64 h := ⟨_, rfl⟩
  rw [← hah]
  have HAH := Lib.hid hah
  clear hah
  have hsz : ah.size = 8 := by rw [HAH.out, HAL.out, hl]
  rw [kv_false]
  go_enter Tryd.func108, Tryd.ntmps108
  go_wp2_with (refine wpList_load_bl rfl 118 (.tmp 4) rfl (w.heap.size + 1) 0 8 rfl _ ah (((Bl.new' (w := w.alloc _) _ _ (by simp)).alloc _).alloc _) _ (by omega) ah (extract_all hsz) Tryd.underlying118 rfl eightq ?_)
  go_loopw [13] (fun i wr => B132 h w i wr) (fun i _ => 8 - (intOf i).toNat)
  case atStart =>
    refine ⟨0, #[.int .u32 0, .int .u32 0, .int .u32 0, .int .u32 0, .int .u32 0, .int .u32 0, .int .u32 0, .int .u32 0], Nat.zero_le _, rfl, rfl, fun j hj => by omega, ?_, ?_, ?_, ⟨#[.int .u64 0, .int .u64 0, .int .u64 0, .int .u64 0, .int .u64 0, .int .u64 0, .int .u64 0, .int .u64 0], rfl, ?_⟩, ?_⟩
    · exact Bl.new' (w := ((w.alloc _).alloc _).alloc _) _ _ (by simp)
    · exact (((Bl.new_ w _ _).alloc _).alloc _).alloc _
    · rw [← HAH.out]; exact ((Bl.new' (w := w.alloc _) _ _ (by simp)).alloc _).alloc _
    · exact (Bl.new' (w := (w.alloc _).alloc _) _ _ (by simp)).alloc _
    · exact ((((Below.refl _ _).alloc (Nat.le_refl _) _).alloc (by simp) _).alloc (by simp; omega) _).alloc (by simp; omega) _
  case round =>
    obtain ⟨k, arr, hk, rfl, har, hx, hb1, hb2, hb3, hb4, hb5⟩ := hrel
    have HX := Lib.hid hx
    have HB1 := Lib.hid hb1
    have HB2 := Lib.hid hb2
    have HB3 := Lib.hid hb3
    have HB4 := Lib.hid hb4
    have HB5 := Lib.hid hb5
    clear hx hb1 hb2 hb3 hb4 hb5
    by_cases hlt : k < 8
    · have hks : k < arr.size := by omega
      have hcell := HB1.out.cell k
      rw [Array.getElem?_eq_getElem hks] at hcell
      have hfz := HB1.out.frozen k
      obtain ⟨old, hold⟩ : ∃ u, u = arr[k] := ⟨_, rfl⟩
      rw [← hold] at hcell
      clear hold
      obtain ⟨x, hx⟩ : ∃ x, x = h.getD k 0 := ⟨_, rfl⟩
      have hxw : IntKind.u32.wrap (x : Int) = (x : Int) := by
        have h1 := HH.out x (by rw [hx, List.getD_eq_getElem?_getD, List.getElem?_eq_getElem (by omega)]; exact List.getElem_mem _)
        rw [mo_false] at h1
        rw [IntKind.wrap_u32]
        omega
      have hidx := run_index_agg Tryd.underlying118 Tryd.underlying97 info_u64 ah k (.int .u64 (x : Int)) hlt (by rw [HAH.out, al_get _ _ _ (by omega), ← hx])
      have HXX := Lib.hid hx
      clear hx
      go_wp2_with fail
      go_roundw
      case rel =>
        refine ⟨k + 1, _, by omega, by go_num, by rw [Array.size_setIfInBounds]; exact har, ?_, HB1.out.set_ _ _, ?_, ?_, ?_, ?_⟩
        · intro j hj
          rw [Array.getElem?_setIfInBounds]
          by_cases hjk : k = j
          · subst hjk; rw [if_pos rfl, if_pos hks, HXX.out]
          · rw [if_neg hjk]; exact HX.out j (by omega)
        · exact HB2.out.other (show w.heap.size ≠ w.heap.size + 1 + 1 + 1 by omega) _
        · exact HB3.out.other (show w.heap.size + 1 ≠ w.heap.size + 1 + 1 + 1 by omega) _
        · obtain ⟨z, hz0, hz⟩ := HB4.out
          exact ⟨z, hz0, hz.other (show w.heap.size + 1 + 1 ≠ w.heap.size + 1 + 1 + 1 by omega) _⟩
        · exact HB5.out.setCell (by simp; omega) _
      case measure => simp [intOf]; omega
    · have e8 : ((k : Nat) : Int) = 8 := by omega
      rw [e8]
      clear e8
      obtain rfl : k = 8 := by omega
      obtain ⟨V, hV⟩ : ∃ V, V = V8.of h := ⟨_, rfl⟩
      have hcell : ∀ j, j < 8 → wr.cell? ⟨w.heap.size + 1 + 1 + 1, j, none⟩ = some (.int .u32 ((h.getD j 0 : Nat) : Int)) := fun j hj => by rw [HB1.out.cell]; exact HX.out j hj
      have LV : Lt8 false V := by
        have hg : ∀ j, j < 8 → h.getD j 0 < mo false := fun j hj => HH.out _ (by rw [List.getD_eq_getElem?_getD, List.getElem?_eq_getElem (by omega)]; exact List.getElem_mem _)
        rw [hV]
        exact ⟨hg 0 (by decide), hg 1 (by decide), hg 2 (by decide), hg 3 (by decide), hg 4 (by decide), hg 5 (by decide), hg 6 (by decide), hg 7 (by decide)⟩
      have LV := Lib.hid LV
      have kvs := HB2.out.cell
      rw [kv_false] at kvs
      have kc0 := kvs 0
      have kc1 := kvs 1
      have kc2 := kvs 2
      have kc3 := kvs 3
      have kc4 := kvs 4
      have kc5 := kvs 5
      have kc6 := kvs 6
      have kc7 := kvs 7
      have kc8 := kvs 8
      have kc9 := kvs 9
      have kc10 := kvs 10
      have kc11 := kvs 11
      have kc12 := kvs 12
      have kc13 := kvs 13
      clear kvs
      simp only [List.getElem?_toArray, List.getElem?_cons_zero, List.getElem?_cons_succ] at kc0 kc1 kc2 kc3 kc4 kc5 kc6 kc7 kc8 kc9 kc10 kc11 kc12 kc13
      have c0 := hcell 0 (by decide)
      have c1 := hcell 1 (by decide)
      have c2 := hcell 2 (by decide)
      have c3 := hcell 3 (by decide)
      have c4 := hcell 4 (by decide)
      have c5 := hcell 5 (by decide)
      have c6 := hcell 6 (by decide)
      have c7 := hcell 7 (by decide)
      rw [show h.getD 0 0 = V.a by rw [hV]; rfl] at c0
      rw [show h.getD 1 0 = V.b by rw [hV]; rfl] at c1
      rw [show h.getD 2 0 = V.c by rw [hV]; rfl] at c2
      rw [show h.getD 3 0 = V.d by rw [hV]; rfl] at c3
      rw [show h.getD 4 0 = V.e by rw [hV]; rfl] at c4
      rw [show h.getD 5 0 = V.f by rw [hV]; rfl] at c5
      rw [show h.getD 6 0 = V.g by rw [hV]; rfl] at c6
      rw [show h.getD 7 0 = V.k by rw [hV]; rfl] at c7
      have HV := Lib.hid hV
      clear hV hcell
      have SK := Lib.hid (show ∀ x : World, Below wr.heap.size wr x → x.cell? ⟨w.heap.size, 0, none⟩ = some (.int .u64 32) ∧ x.cell? ⟨w.heap.size, 1, none⟩ = some (.int .i64 64) ∧ x.cell? ⟨w.heap.size, 2, none⟩ = some (.int .u64 7) ∧ x.cell? ⟨w.heap.size, 3, none⟩ = some (.int .u64 18) ∧ x.cell? ⟨w.heap.size, 4, none⟩ = some (.int .u64 3) ∧ x.cell? ⟨w.heap.size, 5, none⟩ = some (.int .u64 17) ∧ x.cell? ⟨w.heap.size, 6, none⟩ = some (.int .u64 19) ∧ x.cell? ⟨w.heap.size, 7, none⟩ = some (.int .u64 10) ∧ x.cell? ⟨w.heap.size, 8, none⟩ = some (.int .u64 2) ∧ x.cell? ⟨w.heap.size, 9, none⟩ = some (.int .u64 13) ∧ x.cell? ⟨w.heap.size, 10, none⟩ = some (.int .u64 22) ∧ x.cell? ⟨w.heap.size, 11, none⟩ = some (.int .u64 6) ∧ x.cell? ⟨w.heap.size, 12, none⟩ = some (.int .u64 11) ∧ x.cell? ⟨w.heap.size, 13, none⟩ = some (.int .u64 25) ∧ x.cell? ⟨w.heap.size + 1 + 1 + 1, 0, none⟩ = some (.int .u32 (V.a : Int)) ∧ x.cell? ⟨w.heap.size + 1 + 1 + 1, 1, none⟩ = some (.int .u32 (V.b : Int)) ∧ x.cell? ⟨w.heap.size + 1 + 1 + 1, 2, none⟩ = some (.int .u32 (V.c : Int)) ∧ x.cell? ⟨w.heap.size + 1 + 1 + 1, 3, none⟩ = some (.int .u32 (V.d : Int)) ∧ x.cell? ⟨w.heap.size + 1 + 1 + 1, 4, none⟩ = some (.int .u32 (V.e : Int)) ∧ x.cell? ⟨w.heap.size + 1 + 1 + 1, 5, none⟩ = some (.int .u32 (V.f : Int)) ∧ x.cell? ⟨w.heap.size + 1 + 1 + 1, 6, none⟩ = some (.int .u32 (V.g : Int)) ∧ x.cell? ⟨w.heap.size + 1 + 1 + 1, 7, none⟩ = some (.int .u32 (V.k : Int)) from fun x hb => ⟨keepc hb kc0, keepc hb kc1, keepc hb kc2, keepc hb kc3, keepc hb kc4, keepc hb kc5, keepc hb kc6, keepc hb kc7, keepc hb kc8, keepc hb kc9, keepc hb kc10, keepc hb kc11, keepc hb kc12, keepc hb kc13, keepc hb c0, keepc hb c1, keepc hb c2, keepc hb c3, keepc hb c4, keepc hb c5, keepc hb c6, keepc hb c7⟩)
      have TW := Lib.hid (TAB.out.below HB5.out)
      have HSW := Lib.hid (HS.out.below HB5.out)
      clear kc0 kc1 kc2 kc3 kc4 kc5 kc6 kc7 kc8 kc9 kc10 kc11 kc12 kc13 c0 c1 c2 c3 c4 c5 c6 c7
      obtain ⟨M, hM⟩ : ∃ M, M = mx false (wds false l) V 64 := ⟨_, rfl⟩
      have HM := Lib.hid hM
      clear hM
      go_upto_region 7 with fail
      go_cut [10] (fun s10 wx => ∃ g : Nat, s10 = .pointer (some ⟨g, 0, none⟩) ∧ Bl wx g 131 (vl32 M) ∧ w.heap.size + 1 + 1 + 1 < g ∧ Below wr.heap.size wr wx)
      case first =>
        go_region_held3 (fun x => x.cell? ⟨w.heap.size, 0, none⟩ = some (.int .u64 32) ∧ x.cell? ⟨w.heap.size, 1, none⟩ = some (.int .i64 64) ∧ x.cell? ⟨w.heap.size, 2, none⟩ = some (.int .u64 7) ∧ x.cell? ⟨w.heap.size, 3, none⟩ = some (.int .u64 18) ∧ x.cell? ⟨w.heap.size, 4, none⟩ = some (.int .u64 3) ∧ x.cell? ⟨w.heap.size, 5, none⟩ = some (.int .u64 17) ∧ x.cell? ⟨w.heap.size, 6, none⟩ = some (.int .u64 19) ∧ x.cell? ⟨w.heap.size, 7, none⟩ = some (.int .u64 10) ∧ x.cell? ⟨w.heap.size, 8, none⟩ = some (.int .u64 2) ∧ x.cell? ⟨w.heap.size, 9, none⟩ = some (.int .u64 13) ∧ x.cell? ⟨w.heap.size, 10, none⟩ = some (.int .u64 22) ∧ x.cell? ⟨w.heap.size, 11, none⟩ = some (.int .u64 6) ∧ x.cell? ⟨w.heap.size, 12, none⟩ = some (.int .u64 11) ∧ x.cell? ⟨w.heap.size, 13, none⟩ = some (.int .u64 25) ∧ x.cell? ⟨w.heap.size + 1 + 1 + 1, 0, none⟩ = some (.int .u32 (V.a : Int)) ∧ x.cell? ⟨w.heap.size + 1 + 1 + 1, 1, none⟩ = some (.int .u32 (V.b : Int)) ∧ x.cell? ⟨w.heap.size + 1 + 1 + 1, 2, none⟩ = some (.int .u32 (V.c : Int)) ∧ x.cell? ⟨w.heap.size + 1 + 1 + 1, 3, none⟩ = some (.int .u32 (V.d : Int)) ∧ x.cell? ⟨w.heap.size + 1 + 1 + 1, 4, none⟩ = some (.int .u32 (V.e : Int)) ∧ x.cell? ⟨w.heap.size + 1 + 1 + 1, 5, none⟩ = some (.int .u32 (V.f : Int)) ∧ x.cell? ⟨w.heap.size + 1 + 1 + 1, 6, none⟩ = some (.int .u32 (V.g : Int)) ∧ x.cell? ⟨w.heap.size + 1 + 1 + 1, 7, none⟩ = some (.int .u32 (V.k : Int)))
          (first | (refine SK.out _ ?_; first | (with_reducible exact Below.refl _ _) | (with_reducible exact (Below.refl _ _).drew) | (with_reducible exact K1) | (with_reducible exact K1.alloc K1.size _) | (with_reducible exact K2) | (with_reducible exact K2.alloc K2.size _) | (with_reducible exact ((Below.refl _ _).drew).alloc (Nat.le_refl _) _) | (with_reducible exact ((Below.refl _ _).alloc (Nat.le_refl _) _).drew) | ((iterate 8 (refine Below.setCell ?_ (by first | exact Nat.le_refl _ | exact K1.size) _)); with_reducible exact K2)))
          (first | (go_at_call 111; refine (made32_any A c l _ HB.out (by first | exact HSW.out | exact HSW.out.below (((Below.refl _ _).alloc (Nat.le_refl _) _).drew)) hc).mono ?_; rintro e w1 ⟨arr1, rfl, hsz1, harr1, hon1, hb1⟩; (first | (with_reducible (have K1 := k_alloc_drew hb1)) | (with_reducible (have K1 := k_drew_alloc hb1)) | (with_reducible (have K1 := k_drew hb1))); (try (first | (with_reducible (have hm1 := m_alloc_drew hb1)) | (with_reducible (have hm1 := m_drew_alloc hb1))))) | (go_at_call 110; refine (mixed32_any V LV.out arr1 (wds false l) _ hsz1 harr1 (by first | exact TW.out.below K1 | exact (TW.out.below K1).alloc _)).mono ?_; rintro e w2 ⟨rfl, hb2⟩; (first | (with_reducible (have K2 := K1.trans ((k_alloc hb2).mono K1.size))) | (with_reducible (have K2 := K1.trans ((k_plain hb2).mono K1.size)))); (try (first | (with_reducible (have hm2 := m_alloc hb2)) | (with_reducible (have hm2 := hm1.below' hb2)))); (try (have mf := hm2.frozen)); (try (have m0 := hm2.cell_ (i := 0) (v := .int .u32 0) rfl)); (try (have m1 := hm2.cell_ (i := 1) (v := .int .u32 0) rfl)); (try (have m2 := hm2.cell_ (i := 2) (v := .int .u32 0) rfl)); (try (have m3 := hm2.cell_ (i := 3) (v := .int .u32 0) rfl)); (try (have m4 := hm2.cell_ (i := 4) (v := .int .u32 0) rfl)); (try (have m5 := hm2.cell_ (i := 5) (v := .int .u32 0) rfl)); (try (have m6 := hm2.cell_ (i := 6) (v := .int .u32 0) rfl)); (try (have m7 := hm2.cell_ (i := 7) (v := .int .u32 0) rfl)); rw [← HM.out]; simp only [vl32]))
        all_goals go_wp2_with fail
        all_goals go_meet
        all_goals have hlt0 := HB1.out.lt
        · exact ⟨_, rfl, Bl.new_ w2 _ _, by have := K2.size; omega, K2.alloc K2.size _⟩
        · exact ⟨_, rfl, set8_bl hm2 rfl _ _ _ _ _ _ _ _, by have := K1.size; omega, set8_below K2 K1.size _ _ _ _ _ _ _ _⟩
        · exact ⟨_, rfl, set8_bl hm2 rfl _ _ _ _ _ _ _ _, by omega, set8_below K2 (Nat.le_refl _) _ _ _ _ _ _ _ _⟩
      case rest =>
        obtain ⟨g, rfl, hbm, hgl, hbw⟩ := hcut
        have HC := Lib.hid (show B232 h M g w (.int .i64 0) wc from ⟨0, al .u64 h, Nat.zero_le _, rfl, by rw [al_size, hl], fun j hj => by rw [al_get _ _ _ (by omega), if_neg (Nat.not_lt_zero _)], HB3.out.below' hbw, (by
            have := HB1.out.below' hbw
            rwa [al_ext (k := .u32) (arr := arr) (l := h) (by omega) (fun j hj => HX.out j (by omega))] at this), hbm, (by
            obtain ⟨z, hz0, hz⟩ := HB4.out
            exact ⟨z, hz0, hz.below' hbw⟩), HB5.out.trans (hbw.mono HB5.out.size)⟩)
        clear hbm hbw HB1 HB2 HB3 HB4 HB5 SK TW HSW LV
        go_wp2_with fail
        go_loopw [28] (fun i wr => B232 h M g w i wr) (fun i _ => 8 - (intOf i).toNat)
        case atStart => exact HC.out
        case round =>
          obtain ⟨k, arr, hk, rfl, har, hx, hb1, hb2, hb3, hb4, hb5⟩ := hrel
          have HX := Lib.hid hx
          have HB1 := Lib.hid hb1
          have HB2 := Lib.hid hb2
          have HB3 := Lib.hid hb3
          have HB4 := Lib.hid hb4
          have HB5 := Lib.hid hb5
          have HG := Lib.hid hgl
          clear hx hb1 hb2 hb3 hb4 hb5 HC
          by_cases hlt : k < 8
          · have hks : k < arr.size := by omega
            have hcell := HB1.out.cell k
            rw [HX.out k hlt, if_neg (Nat.lt_irrefl _)] at hcell
            have hfz := HB1.out.frozen k
            have ch := HB2.out.cell k
            rw [al_get _ _ _ (by omega)] at ch
            have cm := HB3.out.cell k
            rw [show vl32 M = al .u32 M.l from rfl, al_get _ _ _ hlt] at cm
            obtain ⟨x, hx⟩ : ∃ x, x = h.getD k 0 := ⟨_, rfl⟩
            obtain ⟨y, hy⟩ : ∃ y, y = M.l.getD k 0 := ⟨_, rfl⟩
            rw [← hx] at hcell ch
            rw [← hy] at cm
            have HXY := Lib.hid (And.intro hx hy)
            clear hx hy
            have bk8 : (k : Int) < 8 := by omega
            go_wp2_with fail
            go_region_held3 (fun x' => x'.cell? ⟨w.heap.size + 1 + 1 + 1, k, none⟩ = some (.int .u32 (x : Int)) ∧ x'.cell? ⟨g, k, none⟩ = some (.int .u32 (y : Int)))
              (first | exact ⟨ch, cm⟩ | exact ⟨(World.cell?_setCell_other _ _ _ _ (by simp)).trans ch, (World.cell?_setCell_other _ _ _ _ (by have := HG.out; simp only [ne_eq, Addr.mk.injEq, not_and]; omega)).trans cm⟩) (fail)
            rename_i hHeld
            clear hHeld
            go_wp2
            go_roundw
            case rel =>
              have e1 : (IntKind.u64.wrap (((x : Int) + (y : Int)) % 4294967296)) = (((x + y) % mo false : Nat) : Int) := by
                rw [mo_false, IntKind.wrap_u64]; omega
              rw [e1]
              refine ⟨k + 1, arr.setIfInBounds k (.int .u64 (((x + y) % mo false : Nat) : Int)), by omega, by go_num, by rw [Array.size_setIfInBounds]; exact har, ?_, ?_, ?_, ?_, ?_, ?_⟩
              · intro j hj
                rw [Array.getElem?_setIfInBounds]
                by_cases hjk : k = j
                · subst hjk
                  rw [if_pos rfl, if_pos hks, if_pos (Nat.lt_succ_self _), ← HXY.out.1, ← HXY.out.2]
                · rw [if_neg hjk, HX.out j hj]
                  by_cases hjl : j < k
                  · rw [if_pos hjl, if_pos (by omega)]
                  · rw [if_neg hjl, if_neg (by omega)]
              · exact (HB1.out.set_ k _).drew
              · exact (HB2.out.other (show w.heap.size + 1 + 1 + 1 ≠ w.heap.size + 1 by omega) _).drew
              · exact (HB3.out.other (show g ≠ w.heap.size + 1 by have := HG.out; omega) _).drew
              · obtain ⟨z, hz0, hz⟩ := HB4.out
                exact ⟨z, hz0, (hz.other (show w.heap.size + 1 + 1 ≠ w.heap.size + 1 by omega) _).drew⟩
              · exact (HB5.out.setCell (by simp) _).drew
            case measure => simp [intOf]; omega
          · obtain rfl : k = 8 := by omega
            have hlen : (bh false h l).length = 8 := by simp [bh, V8.l, hl]
            have hlast : arr = al .u64 (bh false h l) := by
              refine al_ext (by omega) fun j hj => ?_
              rw [HX.out j (by omega), if_pos (by omega)]
              have hj8 : j < 8 := by omega
              have hM := HM.out
              rw [HV.out] at hM
              unfold bh
              rw [show rs false = 64 from rfl, ← hM, zip_getD _ _ _ _ (by omega) (by simpa [V8.l] using hj8)]
            have hones : Ones arr := by rw [hlast]; exact al_ones _ _
            have HLAST := Lib.hid hlast
            clear hlast
            obtain ⟨z, hz0, hz⟩ := HB4.out
            have HZ := Lib.hid hz
            clear hz
            obtain ⟨w3, hst, hb3, hg3⟩ := run_store_bl Tryd.prog HZ.out 0 arr.toList (by rw [hz0, Array.length_toList, har]; decide) hones
            have HB3' := Lib.hid (show Bl w3 (w.heap.size + 1 + 1) 118 arr by
              have e := spl_all z arr.toList (by rw [hz0, Array.length_toList, har])
              rw [e, Array.toArray_toList] at hb3
              exact hb3)
            have HG3 := Lib.hid hg3
            have HI := Lib.hid eightq
            clear hb3 hg3
            go_wp2_with (refine wpList_load_bl rfl 118 (.tmp 4) rfl (w.heap.size + 1) 0 8 rfl _ arr HB1.out _ (by omega) arr (extract_all har) Tryd.underlying118 rfl HI.out ?_)
            refine bodyPost_ret (v := .agg arr) (results_cell_row rfl _ _ (w.heap.size + 1 + 1) 118 arr (0, 0) _ rfl HB3'.out Tryd.underlying118 rfl (by rw [har]; exact HI.out)) rfl ⟨?_, ?_⟩
            · rw [HLAST.out]
            · exact HB5.out.grown HG3.out HB5.out.size (fun k hk => by injection hk; omega)
end Go.Proofs.YtnnfpmebopgogaaDoor.Sh
