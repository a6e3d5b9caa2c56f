/- Joined texts. -/
import Derived.Outline
import Derived.Test.YtnnfpmebopgogaaDoorQkSaB
set_option linter.unusedVariables false
namespace Go.Proofs.YtnnfpmebopgogaaDoor.Sh
open Go.RowKit Go.Proofs.YtnnfpmebopgogaaDoor.Gn Go.Deep
attribute [local go_sem ↓] Go.wp_at_zero Go.wp_at_succ
def rv32:Array Value:=#[.int .u64 4294967296,.int .u64 32]
theorem cut32(X:Int)(h0:0≤X)(h1:Hid (X < 18446744073709551616))(w:World) :
  Calls Tryd.prog 85 #[.agg rv32,.int .u64 X] w fun e w'=>e=.returned (.int .u64 (X%4294967296))∧Below w.heap.size w w':=by
 unfold rv32
 go_enter Tryd.func85,Tryd.ntmps85
 go_wp2
 go_ret
 exact⟨ret_int (by first|rfl|(rw[Int.emod_eq_of_lt h0 h1.out])),(Below.refl _ _).alloc (Nat.le_refl _) _⟩
theorem turnI32(x n:Nat)(hx:x < 4294967296):bits .or .u64 ((x:Int) / 2 ^ n) (IntKind.u64.wrap ((x:Int)*2 ^ (32 - n)))=((x / 2 ^ n ||| x*2 ^ (32 - n)%18446744073709551616:Nat):Int):=by
 have e1:IntKind.u64.wrap ((x:Int)*2 ^ (32 - n))=((x*2 ^ (32 - n)%18446744073709551616:Nat):Int):=by rw[IntKind.wrap_u64];simp
 have h1:x / 2 ^ n≤x:=Nat.div_le_self _ _
 rw[e1,div_cast,u64_or_nat _ _ (by omega) (Nat.mod_lt _ (by decide))]
theorem turnM32(x n:Nat)(hx:x < 4294967296):(x / 2 ^ n ||| x*2 ^ (32 - n)%18446744073709551616)%4294967296=tr 32 x n:=by
 have h1:x / 2 ^ n≤x:=Nat.div_le_self _ _
 have e:=Nat.or_mod_two_pow (a:=x / 2 ^ n) (b:=x*2 ^ (32 - n)%18446744073709551616) (n:=32)
 have e2:x*2 ^ (32 - n)%18446744073709551616%2 ^ 32=x*2 ^ (32 - n)%2 ^ 32:=Nat.mod_mod_of_dvd _ (by decide)
 have e3:x / 2 ^ n%2 ^ 32=x / 2 ^ n:=Nat.mod_eq_of_lt (Nat.lt_of_le_of_lt h1 hx)
 rw[e2,e3] at e
 exact e
theorem turn32(x n:Nat)(hx:Hid (x < 4294967296))(h1:1≤n)(h2:n < 32)(w:World) :
  Calls Tryd.prog 103 #[.agg rv32,.int .u64 (x:Int),.int .u64 (n:Int)] w fun e w'=>e=.returned (.int .u64 ((tr 32 x n:Nat):Int))∧Below w.heap.size w w':=by
 have HC:=Lib.hid (show ∀w,Calls Tryd.prog 85 #[.agg rv32,.int .u64 (bits .or .u64 ((x:Int) / 2 ^ n) (IntKind.u64.wrap ((x:Int)*2 ^ (32 - n))))] w fun e w'=>e=.returned (.int .u64 ((tr 32 x n:Nat):Int))∧Below w.heap.size w w' from fun w=>by
  have hlt:x / 2 ^ n ||| x*2 ^ (32 - n)%18446744073709551616 < 2 ^ 64:=Nat.or_lt_two_pow (Nat.lt_of_le_of_lt (Nat.div_le_self _ _) (Nat.lt_of_lt_of_le hx.out (by decide))) (Nat.mod_lt _ (by decide))
  rw[turnI32 x n hx.out,←turnM32 x n hx.out]
  refine(cut32 _ (by omega) (Lib.hid (by omega)) w).mono fun e w' ⟨he,hb⟩=>⟨?_,hb⟩
  rw[he]
  exact ret_int (by simp))
 unfold rv32 at HC ⊢
 go_enter Tryd.func103,Tryd.ntmps103
 go_wp2_with (go_at_call 85;(with_reducible refine(HC.out _).mono ?_);rintro e w1 ⟨rfl,hb1⟩)
 go_ret
 exact⟨rfl,((Below.refl _ _).alloc (Nat.le_refl _) _).trans (hb1.mono (by simp))⟩
set_option maxRecDepth 100000 in
theorem rsmall32(x a b c:Nat)(w:World)(hx:Hid (x < 4294967296))(ha:1≤a)(ha':a < 32)(hb:1≤b)(hb':b < 32)(hc:c < 32) :
  Calls Tryd.prog 92 #[.agg rv32,.int .u64 (x:Int),.int .u64 (a:Int),.int .u64 (b:Int),.int .u64 (c:Int)] w
   fun e w'=>e=.returned (.int .u64 ((sm 32 x a b c:Nat):Int))∧Below w.heap.size w w':=by
 have HA:=Lib.hid (fun w=>turn32 x a hx ha ha' w)
 have HB:=Lib.hid (fun w=>turn32 x b hx hb hb' w)
 unfold rv32 at HA HB ⊢
 go_enter Tryd.func92,Tryd.ntmps92
 go_wp2_with fail
 have c0:(w.alloc (.cells #[.int .u64 4294967296,.int .u64 32] 100)).cell? ⟨w.heap.size,0,none⟩=some (.int .u64 4294967296):=(Bl.new_ w 100 #[.int .u64 4294967296,.int .u64 32]).cell_ rfl
 have c1:(w.alloc (.cells #[.int .u64 4294967296,.int .u64 32] 100)).cell? ⟨w.heap.size,1,none⟩=some (.int .u64 32):=(Bl.new_ w 100 #[.int .u64 4294967296,.int .u64 32]).cell_ rfl
 have b0:Below w.heap.size w (w.alloc (.cells #[.int .u64 4294967296,.int .u64 32] 100)):=(Below.refl _ _).alloc (Nat.le_refl _) _
 generalize hw0:w.alloc _=w0 at c0 c1 b0 ⊢
 clear hw0
 have B0:=Lib.hid b0
 clear b0
 go_region_held3 (fun x'=>x'.cell? ⟨w.heap.size,0,none⟩=some (.int .u64 4294967296)∧x'.cell? ⟨w.heap.size,1,none⟩=some (.int .u64 32))
  (first|exact⟨c0,c1⟩|exact⟨keepc K2 c0,keepc K2 c1⟩|exact⟨keepc K1 c0,keepc K1 c1⟩)
  (first|(go_at_call 103;(with_reducible refine(HA.out _).mono ?_);rintro e w1 ⟨rfl,hb1⟩;have K1:=k_drew hb1)|(go_at_call 103;(with_reducible refine(HB.out _).mono ?_);rintro e w2 ⟨rfl,hb2⟩;have K2:=K1.trans (hb2.mono K1.size)))
 rename_i hHeld
 clear hHeld
 go_wp2_with fail
 go_ret
 refine⟨ret_int ?_,B0.out.trans (K2.mono B0.out.size)⟩
 have hx6:x < 18446744073709551616:=Nat.lt_of_lt_of_le hx.out (by decide)
 have t1:tr 32 x a < 2 ^ 64:=Nat.lt_of_lt_of_le (tr_lt 32 x a hx.out) (by decide)
 have t2:tr 32 x b < 2 ^ 64:=Nat.lt_of_lt_of_le (tr_lt 32 x b hx.out) (by decide)
 rw[div_cast,u64_xor_nat _ _ t1 t2,u64_xor_nat _ _ (Nat.xor_lt_two_pow t1 t2) (Nat.lt_of_le_of_lt (Nat.div_le_self _ _) hx6)]
 rfl
set_option maxRecDepth 100000 in
theorem rbig32(x a b c:Nat)(w:World)(hx:Hid (x < 4294967296))(ha:1≤a)(ha':a < 32)(hb:1≤b)(hb':b < 32)(hc:1≤c)(hc':c < 32) :
  Calls Tryd.prog 93 #[.agg rv32,.int .u64 (x:Int),.int .u64 (a:Int),.int .u64 (b:Int),.int .u64 (c:Int)] w
   fun e w'=>e=.returned (.int .u64 ((gr 32 x a b c:Nat):Int))∧Below w.heap.size w w':=by
 have HA:=Lib.hid (fun w=>turn32 x a hx ha ha' w)
 have HB:=Lib.hid (fun w=>turn32 x b hx hb hb' w)
 have HD:=Lib.hid (fun w=>turn32 x c hx hc hc' w)
 unfold rv32 at HA HB HD ⊢
 go_enter Tryd.func93,Tryd.ntmps93
 go_wp2_with fail
 have c0:(w.alloc (.cells #[.int .u64 4294967296,.int .u64 32] 100)).cell? ⟨w.heap.size,0,none⟩=some (.int .u64 4294967296):=(Bl.new_ w 100 #[.int .u64 4294967296,.int .u64 32]).cell_ rfl
 have c1:(w.alloc (.cells #[.int .u64 4294967296,.int .u64 32] 100)).cell? ⟨w.heap.size,1,none⟩=some (.int .u64 32):=(Bl.new_ w 100 #[.int .u64 4294967296,.int .u64 32]).cell_ rfl
 have b0:Below w.heap.size w (w.alloc (.cells #[.int .u64 4294967296,.int .u64 32] 100)):=(Below.refl _ _).alloc (Nat.le_refl _) _
 generalize hw0:w.alloc _=w0 at c0 c1 b0 ⊢
 clear hw0
 have B0:=Lib.hid b0
 clear b0
 go_region_held3 (fun x'=>x'.cell? ⟨w.heap.size,0,none⟩=some (.int .u64 4294967296)∧x'.cell? ⟨w.heap.size,1,none⟩=some (.int .u64 32))
  (first|exact⟨c0,c1⟩|exact⟨keepc K3 c0,keepc K3 c1⟩|exact⟨keepc K2 c0,keepc K2 c1⟩|exact⟨keepc K1 c0,keepc K1 c1⟩)
  (first|(go_at_call 103;(with_reducible refine(HA.out _).mono ?_);rintro e w1 ⟨rfl,hb1⟩;have K1:=k_drew hb1)|(go_at_call 103;(with_reducible refine(HB.out _).mono ?_);rintro e w2 ⟨rfl,hb2⟩;have K2:=K1.trans (hb2.mono K1.size))|(go_at_call 103;(with_reducible refine(HD.out _).mono ?_);rintro e w3 ⟨rfl,hb3⟩;have K3:=K2.trans (hb3.mono K2.size)))
 rename_i hHeld
 clear hHeld
 go_wp2_with fail
 go_ret
 refine⟨ret_int ?_,B0.out.trans (K3.mono B0.out.size)⟩
 have t1:tr 32 x a < 2 ^ 64:=Nat.lt_of_lt_of_le (tr_lt 32 x a hx.out) (by decide)
 have t2:tr 32 x b < 2 ^ 64:=Nat.lt_of_lt_of_le (tr_lt 32 x b hx.out) (by decide)
 have t3:tr 32 x c < 2 ^ 64:=Nat.lt_of_lt_of_le (tr_lt 32 x c hx.out) (by decide)
 rw[u64_xor_nat _ _ t1 t2,u64_xor_nat _ _ (Nat.xor_lt_two_pow t1 t2) t3]
 rfl
end Go.Proofs.YtnnfpmebopgogaaDoor.Sh
