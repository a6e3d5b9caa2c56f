/- Joined texts. -/
import Derived.Deep.LoopGhost
import Derived.WalkMore
import Derived.Test.YtnnfpmebopgogaaDoorQsMkK
import Derived.Test.YtnnfpmebopgogaaDoorQsMkA
import Derived.Laws.AppendOwnNone
import Derived.Outline
import Derived.Test.YtnnfpmebopgogaaDoorQsSaB
set_option linter.unusedVariables false
namespace Go.Proofs.YtnnfpmebopgogaaDoor.Mk
open Go.RowKit Go.Proofs.YtnnfpmebopgogaaDoor.Gn Go.Proofs.YtnnfpmebopgogaaDoor.Fd Go.Deep
theorem tab_size:Lib.len8tab.size=256:=by decide +kernel
theorem tab_fin:∀n:Fin 256,(Lib.len8tab[n.val]'(by rw[tab_size];exact n.isLt)).toNat=Lib.bitLen n.val:=by decide +kernel
theorem tab_get{y:Nat}(h:y < Lib.len8tab.size):(Lib.len8tab[y]'h).toNat=Lib.bitLen y:=tab_fin ⟨y,by rw[tab_size] at h;exact h⟩
theorem bit8{y:Nat}(h:y < 256):Lib.bitLen y≤8:=Lib.bitLen_le8 ⟨y,h⟩
set_option maxHeartbeats 4000000 in
set_option maxRecDepth 100000 in
theorem len64_any(x:Nat)(h:x < 65536)(w:World):Calls Tryd.prog 95 #[.int .u64 (x:Int)] w fun e w'=>e=.returned (.int .i64 (Lib.bitLen x))∧w=w':=by
 have h0:(0:Int)≤(x:Int):=by omega
 have h1:(x:Int)≤65535:=by omega
 obtain⟨X,hX⟩:∃X:Int,X=(x:Int):=⟨_,rfl⟩
 rw[←hX] at h0 h1 ⊢
 have HX:=Lib.hid hX
 clear hX
 by_cases hx:X < 256
 ·have hs:X < (Lib.len8tab.size:Int):=by rw[tab_size];exact hx
  go_enter Tryd.func95,Tryd.ntmps95
  go_wp2
  go_ret
  refine⟨congrArg Ending.returned (congrArg (Value.int IntKind.i64) ?_),rfl⟩
  rw[tab_get]
  have e:X.toNat=x:=by have:=HX.out;omega
  rw[e]
  have:=bit8 (y:=x) (by have:=HX.out;omega)
  unfold wrap64
  omega
 ·have hs:X / 256 < (Lib.len8tab.size:Int):=by rw[tab_size];omega
  go_enter Tryd.func95,Tryd.ntmps95
  go_wp2
  go_ret
  refine⟨congrArg Ending.returned (congrArg (Value.int IntKind.i64) ?_),rfl⟩
  rw[tab_get]
  have e:(X / 256).toNat=x / 256:=by have:=HX.out;omega
  rw[e,Lib.bitLen_shift8 x (by have:=HX.out;omega) (by omega)]
  have:=bit8 (y:=x / 256) (by omega)
  unfold wrap64
  omega
theorem len_any(x:Nat)(h:x < 65536)(w:World):Calls Tryd.prog 86 #[.int .u64 (x:Int)] w fun e w'=>e=.returned (.int .i64 (Lib.bitLen x))∧w=w':=by
 have C:=Lib.hid (len64_any x h w)
 have h0:(0:Int)≤(x:Int):=by omega
 have h1:(x:Int)≤65535:=by omega
 generalize(x:Int)=X at C h0 h1 ⊢
 generalize Lib.bitLen x=Y at C ⊢
 clear h
 go_enter Tryd.func86,Tryd.ntmps86
 go_wp2_with (go_at_call 95;(with_reducible refine C.out.mono ?_);rintro e w' ⟨rfl,rfl⟩)
 go_ret
 exact⟨rfl,rfl⟩
theorem half_any{n:Nat}(h2:2≤n)(hn:n≤65536)(w:World):Calls Tryd.prog 69 #[.int .i64 (n:Int)] w fun e w'=>e=.returned (.int .i64 (half n:Int))∧w=w':=by
 obtain⟨m,rfl⟩:∃m,n=m+1:=⟨n - 1,by omega⟩
 have C:=Lib.hid (len_any m (by omega) w)
 rw[bitLen_log m (by omega) (by omega)] at C
 have hh:half (m+1)=2 ^ Nat.log2 m:=rfl
 have hl:=half_spec h2
 rw[hh] at hl
 have HH:=Lib.hid hh
 have hlog:Nat.log2 m < 62:=by
  rcases Nat.lt_or_ge (Nat.log2 m) 62 with c|c
  ·exact c
  ·have:2 ^ 62≤2 ^ Nat.log2 m:=Nat.pow_le_pow_right (by omega) c
   omega
 generalize Nat.log2 m=k at *
 have e1:((m+1:Nat):Int) - 1=(m:Int):=by omega
 have hm:(m:Int) < 65536:=by omega
 have e2:((k+1:Nat):Int) - 1=(k:Int):=by omega
 have HL:=Lib.hid hl
 clear hh hl
 go_enter Tryd.func69,Tryd.ntmps69
 go_wp2_with (go_at_call 86;(with_reducible refine C.out.mono ?_);rintro e w' ⟨rfl,rfl⟩)
 go_ret
 refine⟨congrArg Ending.returned (congrArg (Value.int IntKind.i64) ?_),rfl⟩
 rw[HH.out]
 have hp:(2:Int) ^ k=((2 ^ k:Nat):Int):=by simp
 rw[hp]
 have:=HL.out
 generalize 2 ^ k=q at *
 unfold wrap64
 omega
set_option maxHeartbeats 1000000 in
theorem rhalf_any{n:Nat}(h2:2≤n)(hn:n≤65536)(w:World):Calls Tryd.prog 55 #[.int .i64 (n:Int)] w fun e w'=>e=.returned (.int .i64 (half n:Int))∧w=w':=by
 go_enter Tryd.func55,Tryd.ntmps55
 go_wp2_with fail
 go_loopg [3] n (fun g1 vk wr=>∃k:Nat,vk=.int .i64 k∧1≤k∧k < n∧n - k≤g1∧Hid (∃j,k=2 ^ j)∧w=wr)
 case atStart=>exact⟨1,rfl,Nat.le_refl _,by omega,by omega,Lib.hid ⟨0,rfl⟩,rfl⟩
 case round =>
  obtain⟨k,rfl,hk1,hkn,hg,HJ,rfl⟩:=hrel
  obtain⟨d,hd⟩:∃d,d=k*2:=⟨_,rfl⟩
  have e1:(k:Int)*2=(d:Int):=by omega
  by_cases hlt:d < n
  ·have q:(d:Int) < (n:Int):=by omega
   have HD:=Lib.hid hd
   clear hd
   go_wp2_with fail
   go_roundg (n - d)
   case measure=>have:=HD.out;omega
   case rel=>exact⟨d,rfl,by have:=HD.out;omega,hlt,Nat.le_refl _,Lib.hid (by obtain⟨j,hj⟩:=HJ.out;exact⟨j+1,by rw[Nat.pow_succ,←hj];exact HD.out⟩),rfl⟩
  ·have q:¬(d:Int) < (n:Int):=by omega
   have HD:=Lib.hid hd
   clear hd
   go_wp2_with fail
   go_ret
   refine⟨congrArg Ending.returned (congrArg (Value.int IntKind.i64) ?_),rfl⟩
   obtain⟨j,hj⟩:=HJ.out
   rw[hj,half_unique (n:=n) (by omega) (by have:=HD.out;omega)]
end Go.Proofs.YtnnfpmebopgogaaDoor.Mk
namespace Go.Proofs.YtnnfpmebopgogaaDoor.Mk
open Go.RowKit Go.Proofs.YtnnfpmebopgogaaDoor.Gn Go.Proofs.YtnnfpmebopgogaaDoor.Fd Go.Deep
theorem own_alloc{w:World}{base:Nat}{e:TypeId}{v:Value}{n:Nat}{xs:List Value}(h:w.ownsRow base e 1 v n xs)(o:Obj):(w.alloc o).ownsRow base e 1 v n xs:=own_below h ((Below.refl _ _).alloc (Nat.le_refl _) o)
theorem own_rows{w:World}{base:Nat}{e:TypeId}{v:Value}{n:Nat}{xs:List Value}(h:w.ownsRow base e 1 v n xs):∀k,v.ownBlock=some k→base≤k:=by
 obtain⟨hl,h2⟩:=h
 rcases h2 with⟨rfl,-⟩|⟨g,cap,cur,rfl,hg,-⟩
 ·intro k hk;cases hk
 ·intro k hk;simp[Value.ownBlock] at hk;omega
end Go.Proofs.YtnnfpmebopgogaaDoor.Mk
namespace Go.Proofs.YtnnfpmebopgogaaDoor.Sh
open Go.RowKit Go.Proofs.YtnnfpmebopgogaaDoor.Gn Go.Deep
attribute [local go_sem ↓] Go.wp_at_zero Go.wp_at_succ
def rv32:Array Value:=#[.int .u64 4294967296,.int .u64 32]
theorem cut32(X:Int)(h0:0≤X)(h1:Hid (X < 18446744073709551616))(w:World) :
  Calls Tryd.prog 85 #[.agg rv32,.int .u64 X] w fun e w'=>e=.returned (.int .u64 (X%4294967296))∧Below w.heap.size w w':=by
 unfold rv32
 go_enter Tryd.func85,Tryd.ntmps85
 go_wp2
 go_ret
 exact⟨ret_int (by first|rfl|(rw[Int.emod_eq_of_lt h0 h1.out])),(Below.refl _ _).alloc (Nat.le_refl _) _⟩
theorem turnI32(x n:Nat)(hx:x < 4294967296):bits .or .u64 ((x:Int) / 2 ^ n) (IntKind.u64.wrap ((x:Int)*2 ^ (32 - n)))=((x / 2 ^ n ||| x*2 ^ (32 - n)%18446744073709551616:Nat):Int):=by
 have e1:IntKind.u64.wrap ((x:Int)*2 ^ (32 - n))=((x*2 ^ (32 - n)%18446744073709551616:Nat):Int):=by rw[IntKind.wrap_u64];simp
 have h1:x / 2 ^ n≤x:=Nat.div_le_self _ _
 rw[e1,div_cast,u64_or_nat _ _ (by omega) (Nat.mod_lt _ (by decide))]
theorem turnM32(x n:Nat)(hx:x < 4294967296):(x / 2 ^ n ||| x*2 ^ (32 - n)%18446744073709551616)%4294967296=tr 32 x n:=by
 have h1:x / 2 ^ n≤x:=Nat.div_le_self _ _
 have e:=Nat.or_mod_two_pow (a:=x / 2 ^ n) (b:=x*2 ^ (32 - n)%18446744073709551616) (n:=32)
 have e2:x*2 ^ (32 - n)%18446744073709551616%2 ^ 32=x*2 ^ (32 - n)%2 ^ 32:=Nat.mod_mod_of_dvd _ (by decide)
 have e3:x / 2 ^ n%2 ^ 32=x / 2 ^ n:=Nat.mod_eq_of_lt (Nat.lt_of_le_of_lt h1 hx)
 rw[e2,e3] at e
 exact e
theorem turn32(x n:Nat)(hx:Hid (x < 4294967296))(h1:1≤n)(h2:n < 32)(w:World) :
  Calls Tryd.prog 103 #[.agg rv32,.int .u64 (x:Int),.int .u64 (n:Int)] w fun e w'=>e=.returned (.int .u64 ((tr 32 x n:Nat):Int))∧Below w.heap.size w w':=by
 have HC:=Lib.hid (show ∀w,Calls Tryd.prog 85 #[.agg rv32,.int .u64 (bits .or .u64 ((x:Int) / 2 ^ n) (IntKind.u64.wrap ((x:Int)*2 ^ (32 - n))))] w fun e w'=>e=.returned (.int .u64 ((tr 32 x n:Nat):Int))∧Below w.heap.size w w' from fun w=>by
  have hlt:x / 2 ^ n ||| x*2 ^ (32 - n)%18446744073709551616 < 2 ^ 64:=Nat.or_lt_two_pow (Nat.lt_of_le_of_lt (Nat.div_le_self _ _) (Nat.lt_of_lt_of_le hx.out (by decide))) (Nat.mod_lt _ (by decide))
  rw[turnI32 x n hx.out,←turnM32 x n hx.out]
  refine(cut32 _ (by omega) (Lib.hid (by omega)) w).mono fun e w' ⟨he,hb⟩=>⟨?_,hb⟩
  rw[he]
  exact ret_int (by simp))
 unfold rv32 at HC ⊢
 go_enter Tryd.func103,Tryd.ntmps103
 go_wp2_with (go_at_call 85;(with_reducible refine(HC.out _).mono ?_);rintro e w1 ⟨rfl,hb1⟩)
 go_ret
 exact⟨rfl,((Below.refl _ _).alloc (Nat.le_refl _) _).trans (hb1.mono (by simp))⟩
set_option maxRecDepth 100000 in
theorem rsmall32(x a b c:Nat)(w:World)(hx:Hid (x < 4294967296))(ha:1≤a)(ha':a < 32)(hb:1≤b)(hb':b < 32)(hc:c < 32) :
  Calls Tryd.prog 92 #[.agg rv32,.int .u64 (x:Int),.int .u64 (a:Int),.int .u64 (b:Int),.int .u64 (c:Int)] w
   fun e w'=>e=.returned (.int .u64 ((sm 32 x a b c:Nat):Int))∧Below w.heap.size w w':=by
 have HA:=Lib.hid (fun w=>turn32 x a hx ha ha' w)
 have HB:=Lib.hid (fun w=>turn32 x b hx hb hb' w)
 unfold rv32 at HA HB ⊢
 go_enter Tryd.func92,Tryd.ntmps92
 go_wp2_with fail
 have c0:(w.alloc (.cells #[.int .u64 4294967296,.int .u64 32] 100)).cell? ⟨w.heap.size,0,none⟩=some (.int .u64 4294967296):=(Bl.new_ w 100 #[.int .u64 4294967296,.int .u64 32]).cell_ rfl
 have c1:(w.alloc (.cells #[.int .u64 4294967296,.int .u64 32] 100)).cell? ⟨w.heap.size,1,none⟩=some (.int .u64 32):=(Bl.new_ w 100 #[.int .u64 4294967296,.int .u64 32]).cell_ rfl
 have b0:Below w.heap.size w (w.alloc (.cells #[.int .u64 4294967296,.int .u64 32] 100)):=(Below.refl _ _).alloc (Nat.le_refl _) _
 generalize hw0:w.alloc _=w0 at c0 c1 b0 ⊢
 clear hw0
 have B0:=Lib.hid b0
 clear b0
 go_region_held3 (fun x'=>x'.cell? ⟨w.heap.size,0,none⟩=some (.int .u64 4294967296)∧x'.cell? ⟨w.heap.size,1,none⟩=some (.int .u64 32))
  (first|exact⟨c0,c1⟩|exact⟨keepc K2 c0,keepc K2 c1⟩|exact⟨keepc K1 c0,keepc K1 c1⟩)
  (first|(go_at_call 103;(with_reducible refine(HA.out _).mono ?_);rintro e w1 ⟨rfl,hb1⟩;have K1:=k_drew hb1)|(go_at_call 103;(with_reducible refine(HB.out _).mono ?_);rintro e w2 ⟨rfl,hb2⟩;have K2:=K1.trans (hb2.mono K1.size)))
 rename_i hHeld
 clear hHeld
 go_wp2_with fail
 go_ret
 refine⟨ret_int ?_,B0.out.trans (K2.mono B0.out.size)⟩
 have hx6:x < 18446744073709551616:=Nat.lt_of_lt_of_le hx.out (by decide)
 have t1:tr 32 x a < 2 ^ 64:=Nat.lt_of_lt_of_le (tr_lt 32 x a hx.out) (by decide)
 have t2:tr 32 x b < 2 ^ 64:=Nat.lt_of_lt_of_le (tr_lt 32 x b hx.out) (by decide)
 rw[div_cast,u64_xor_nat _ _ t1 t2,u64_xor_nat _ _ (Nat.xor_lt_two_pow t1 t2) (Nat.lt_of_le_of_lt (Nat.div_le_self _ _) hx6)]
 rfl
set_option maxRecDepth 100000 in
theorem rbig32(x a b c:Nat)(w:World)(hx:Hid (x < 4294967296))(ha:1≤a)(ha':a < 32)(hb:1≤b)(hb':b < 32)(hc:1≤c)(hc':c < 32) :
  Calls Tryd.prog 93 #[.agg rv32,.int .u64 (x:Int),.int .u64 (a:Int),.int .u64 (b:Int),.int .u64 (c:Int)] w
   fun e w'=>e=.returned (.int .u64 ((gr 32 x a b c:Nat):Int))∧Below w.heap.size w w':=by
 have HA:=Lib.hid (fun w=>turn32 x a hx ha ha' w)
 have HB:=Lib.hid (fun w=>turn32 x b hx hb hb' w)
 have HD:=Lib.hid (fun w=>turn32 x c hx hc hc' w)
 unfold rv32 at HA HB HD ⊢
 go_enter Tryd.func93,Tryd.ntmps93
 go_wp2_with fail
 have c0:(w.alloc (.cells #[.int .u64 4294967296,.int .u64 32] 100)).cell? ⟨w.heap.size,0,none⟩=some (.int .u64 4294967296):=(Bl.new_ w 100 #[.int .u64 4294967296,.int .u64 32]).cell_ rfl
 have c1:(w.alloc (.cells #[.int .u64 4294967296,.int .u64 32] 100)).cell? ⟨w.heap.size,1,none⟩=some (.int .u64 32):=(Bl.new_ w 100 #[.int .u64 4294967296,.int .u64 32]).cell_ rfl
 have b0:Below w.heap.size w (w.alloc (.cells #[.int .u64 4294967296,.int .u64 32] 100)):=(Below.refl _ _).alloc (Nat.le_refl _) _
 generalize hw0:w.alloc _=w0 at c0 c1 b0 ⊢
 clear hw0
 have B0:=Lib.hid b0
 clear b0
 go_region_held3 (fun x'=>x'.cell? ⟨w.heap.size,0,none⟩=some (.int .u64 4294967296)∧x'.cell? ⟨w.heap.size,1,none⟩=some (.int .u64 32))
  (first|exact⟨c0,c1⟩|exact⟨keepc K3 c0,keepc K3 c1⟩|exact⟨keepc K2 c0,keepc K2 c1⟩|exact⟨keepc K1 c0,keepc K1 c1⟩)
  (first|(go_at_call 103;(with_reducible refine(HA.out _).mono ?_);rintro e w1 ⟨rfl,hb1⟩;have K1:=k_drew hb1)|(go_at_call 103;(with_reducible refine(HB.out _).mono ?_);rintro e w2 ⟨rfl,hb2⟩;have K2:=K1.trans (hb2.mono K1.size))|(go_at_call 103;(with_reducible refine(HD.out _).mono ?_);rintro e w3 ⟨rfl,hb3⟩;have K3:=K2.trans (hb3.mono K2.size)))
 rename_i hHeld
 clear hHeld
 go_wp2_with fail
 go_ret
 refine⟨ret_int ?_,B0.out.trans (K3.mono B0.out.size)⟩
 have t1:tr 32 x a < 2 ^ 64:=Nat.lt_of_lt_of_le (tr_lt 32 x a hx.out) (by decide)
 have t2:tr 32 x b < 2 ^ 64:=Nat.lt_of_lt_of_le (tr_lt 32 x b hx.out) (by decide)
 have t3:tr 32 x c < 2 ^ 64:=Nat.lt_of_lt_of_le (tr_lt 32 x c hx.out) (by decide)
 rw[u64_xor_nat _ _ t1 t2,u64_xor_nat _ _ (Nat.xor_lt_two_pow t1 t2) t3]
 rfl
end Go.Proofs.YtnnfpmebopgogaaDoor.Sh
