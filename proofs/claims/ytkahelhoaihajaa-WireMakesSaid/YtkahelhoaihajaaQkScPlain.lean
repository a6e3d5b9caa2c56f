/- Joined texts. -/
import Derived.WalkKit
set_option linter.unusedVariables false
namespace Go.Proofs.Ytkahelhoaihajaa.Sc
open Go
theorem and_shl(x m k:Nat):x &&& (m*2 ^ k)=(x / 2 ^ k &&& m)*2 ^ k:=by
 apply Nat.eq_of_testBit_eq
 intro i
 simp only[Nat.testBit_and,Nat.testBit_mul_two_pow,Nat.testBit_div_two_pow]
 by_cases h:k≤i
 ·simp[h,Nat.sub_add_cancel h]
 ·simp[h]
theorem and_exp(b:Nat):b &&& 9218868437227405312=b / 4503599627370496%2048*4503599627370496:=by
 have:=and_shl b 2047 52
 rw[nat_mask11] at this
 simpa using this
theorem andNot_sign(b:Nat):b &&& (18446744073709551615 - 9223372036854775808)=b%9223372036854775808 :=
 Nat.and_two_pow_sub_one_eq_mod b 63
theorem bits_and_exp(b:Nat)(h:b < 18446744073709551616):bits .and .u64 (b:Int) 9218868437227405312=((b / 4503599627370496%2048*4503599627370496:Nat):Int):=by
 rw[show(9218868437227405312:Int)=((9218868437227405312:Nat):Int) from rfl,u64_and_nat b _ h (by decide),and_exp]
theorem bits_andNot_sign(b:Nat)(h:b < 18446744073709551616):bits .andNot .u64 (b:Int) 9223372036854775808=((b%9223372036854775808:Nat):Int):=by
 rw[show(9223372036854775808:Int)=((9223372036854775808:Nat):Int) from rfl,u64_andNot_nat b _ h (by decide),andNot_sign]
def cls(b:Nat):Int :=
 if b%9223372036854775808=0 then(if b < 9223372036854775808 then 0 else 1)
 else if b%9223372036854775808 < 4503599627370496 then 2
 else if b%9223372036854775808 < 9218868437227405312 then 3
 else if b%9223372036854775808=9218868437227405312 then 4 else 5
def valid(b:Nat):Bool:=decide (cls b=0∨cls b=2∨cls b=3)
def pb(b:Nat):Bool:=decide (9223372036854775808≤b)
def pe(b:Nat):Nat:=b / 4503599627370496%2048
def pf(b:Nat):Nat:=b%4503599627370496
theorem cls_ref(b:Nat)(h:b < 18446744073709551616):cls b=if pe b=2047∧0 < pf b then 5 else if pe b=2047 then 4 else if 0 < pe b then 3 else if 0 < pf b then 2 else if pb b then 1 else 0:=by
 have h1:pb b=decide (9223372036854775808≤b):=rfl
 rw[h1]
 unfold cls pe pf
 repeat' split
 all_goals first|rfl|(exfalso;(try simp only[decide_eq_true_eq] at *);omega)
attribute [irreducible] pb pe pf cls valid
end Go.Proofs.Ytkahelhoaihajaa.Sc
