/- Joined texts. -/
import Derived.WalkKit
import Derived.WalkSpells
import Derived.WalkLawsBesides
import Derived.Lib.Hide
import Derived.Test.YtkahelhoaihajaaProg
import Derived.ProofKit
import Derived.OpenShut
import Derived.Deep.Slices
set_option linter.unusedVariables false
namespace Go.Proofs.Ytkahelhoaihajaa.Sc
open Go
theorem and_shl(x m k:Nat):x &&& (m*2 ^ k)=(x / 2 ^ k &&& m)*2 ^ k:=by
 apply Nat.eq_of_testBit_eq
 intro i
 simp only[Nat.testBit_and,Nat.testBit_mul_two_pow,Nat.testBit_div_two_pow]
 by_cases h:k≤i
 ·simp[h,Nat.sub_add_cancel h]
 ·simp[h]
theorem and_exp(b:Nat):b &&& 9218868437227405312=b / 4503599627370496%2048*4503599627370496:=by
 have:=and_shl b 2047 52
 rw[nat_mask11] at this
 simpa using this
theorem andNot_sign(b:Nat):b &&& (18446744073709551615 - 9223372036854775808)=b%9223372036854775808 :=
 Nat.and_two_pow_sub_one_eq_mod b 63
theorem bits_and_exp(b:Nat)(h:b < 18446744073709551616):bits .and .u64 (b:Int) 9218868437227405312=((b / 4503599627370496%2048*4503599627370496:Nat):Int):=by
 rw[show(9218868437227405312:Int)=((9218868437227405312:Nat):Int) from rfl,u64_and_nat b _ h (by decide),and_exp]
theorem bits_andNot_sign(b:Nat)(h:b < 18446744073709551616):bits .andNot .u64 (b:Int) 9223372036854775808=((b%9223372036854775808:Nat):Int):=by
 rw[show(9223372036854775808:Int)=((9223372036854775808:Nat):Int) from rfl,u64_andNot_nat b _ h (by decide),andNot_sign]
def cls(b:Nat):Int :=
 if b%9223372036854775808=0 then(if b < 9223372036854775808 then 0 else 1)
 else if b%9223372036854775808 < 4503599627370496 then 2
 else if b%9223372036854775808 < 9218868437227405312 then 3
 else if b%9223372036854775808=9218868437227405312 then 4 else 5
def valid(b:Nat):Bool:=decide (cls b=0∨cls b=2∨cls b=3)
def pb(b:Nat):Bool:=decide (9223372036854775808≤b)
def pe(b:Nat):Nat:=b / 4503599627370496%2048
def pf(b:Nat):Nat:=b%4503599627370496
theorem cls_ref(b:Nat)(h:b < 18446744073709551616):cls b=if pe b=2047∧0 < pf b then 5 else if pe b=2047 then 4 else if 0 < pe b then 3 else if 0 < pf b then 2 else if pb b then 1 else 0:=by
 have h1:pb b=decide (9223372036854775808≤b):=rfl
 rw[h1]
 unfold cls pe pf
 repeat' split
 all_goals first|rfl|(exfalso;(try simp only[decide_eq_true_eq] at *);omega)
attribute [irreducible] pb pe pf cls valid
end Go.Proofs.Ytkahelhoaihajaa.Sc
namespace Go.Proofs.Ytkahelhoaihajaa.Sc
open Go.RowKit
theorem run_f64bits(b:Nat)(w:World):(callFunc 72 #[.float .f64 b]).run Try.prog w=.ok (.value (.int .u64 b)) w:=rfl
theorem run_f64from(n:Int)(w:World):(callFunc 85 #[.int .u64 n]).run Try.prog w=.ok (.value (.float .f64 n.toNat)) w:=rfl
theorem ret_int{k:IntKind}{a b:Int}(h:a=b):Ending.returned (.int k a)=.returned (.int k b):=by rw[h]
theorem ret_bool{a b:Bool}(h:a=b):Ending.returned (.bool a)=.returned (.bool b):=by rw[h]
set_option maxHeartbeats 400000 in
theorem class_any(b:Nat)(w:World)(hb:b < 18446744073709551616) :
  Calls Try.prog 90 #[.float .f64 b] w fun e w'=>e=.returned (.int .i64 (cls b))∧w=w':=by
 have hfb:=run_f64bits
 have h1:=bits_and_exp b hb
 have h2:=bits_andNot_sign b hb
 go_enter Try.func90,Try.ntmps90
 go_wp2
 all_goals(go_ret;refine⟨ret_int ?_,rfl⟩;clear hfb h1 h2;simp at *;unfold cls)
 all_goals repeat' split
 all_goals first|rfl|omega
theorem ret_back{x y:Nat}{e f:Int}(h:x=y)(h':e=f):Ending.returned (.tuple #[.float .f64 x,.int .i64 e])=.returned (.tuple #[.float .f64 y,.int .i64 f]):=by rw[h,h']
set_option maxHeartbeats 400000 in
theorem valid_any(b:Nat)(w:World)(hb:b < 18446744073709551616) :
  Calls Try.prog 82 #[.float .f64 b] w fun e w'=>e=.returned (.bool (valid b))∧w=w':=by
 have HB:=Lib.hid hb
 clear hb
 go_enter Try.func82,Try.ntmps82
 go_wp2_with (go_at_call 90;refine(class_any _ _ HB.out).mono ?_;rintro e w' ⟨rfl,rfl⟩)
 all_goals(go_ret;refine⟨ret_bool ?_,rfl⟩;simp at *;unfold valid;simp;omega)
end Go.Proofs.Ytkahelhoaihajaa.Sc
namespace Go.Proofs.Ytkahelhoaihajaa.Sc
open Go.RowKit
set_option maxHeartbeats 400000 in
theorem parts_any(b:Nat)(w:World)(hb:b < 18446744073709551616) :
  Calls Try.prog 95 #[.float .f64 b] w fun e w'=>e=.returned (.tuple #[.bool (pb b),.int .u64 ((pe b:Nat):Int),.int .u64 ((pf b:Nat):Int)])∧w=w':=by
 have hfb:=run_f64bits
 have HB:=Lib.hid hb
 clear hb
 go_enter Try.func95,Try.ntmps95
 go_wp2
 go_ret3
 have hb:=HB.out
 have e1:(IntKind.u64.wrap ((b:Int) / 9223372036854775808) == 1)=pb b:=by
  rw[IntKind.wrap_u64,Bool.eq_iff_iff,beq_iff_eq];unfold pb;rw[decide_eq_true_eq];omega
 have e2:(IntKind.u64.wrap ((b:Int) / 4503599627370496)).tmod 2048=((pe b:Nat):Int):=by
  rw[IntKind.wrap_u64,Int.tmod_eq_emod_of_nonneg (by omega)];unfold pe;omega
 have e3:(b:Int)%4503599627370496=((pf b:Nat):Int):=by unfold pf;omega
 rw[e1,e2,e3]
 exact⟨rfl,rfl⟩
set_option maxHeartbeats 400000 in
theorem rclass_any(b:Nat)(w:World)(hb:b < 18446744073709551616) :
  Calls Try.prog 91 #[.float .f64 b] w fun e w'=>e=.returned (.int .i64 (cls b))∧w=w':=by
 have HB:=Lib.hid hb
 clear hb
 go_enter Try.func91,Try.ntmps91
 go_wp2_with (go_at_call 95;refine(parts_any _ _ HB.out).mono ?_;rintro e w' ⟨rfl,rfl⟩)
 all_goals(go_ret;refine⟨ret_int ?_,rfl⟩;rw[cls_ref b HB.out])
 all_goals repeat' split
 all_goals first|rfl|omega|(exfalso;simp_all)
set_option maxHeartbeats 400000 in
theorem rvalid_any(b:Nat)(w:World)(hb:b < 18446744073709551616) :
  Calls Try.prog 83 #[.float .f64 b] w fun e w'=>e=.returned (.bool (valid b))∧w=w':=by
 have HB:=Lib.hid hb
 clear hb
 go_enter Try.func83,Try.ntmps83
 go_wp2_with (go_at_call 91;refine(rclass_any _ _ HB.out).mono ?_;rintro e w' ⟨rfl,rfl⟩)
 all_goals(go_ret;refine⟨ret_bool ?_,rfl⟩;unfold valid;rw[Bool.eq_iff_iff];simp[*])
theorem rsame_any(a b:Nat)(w:World) :
  Calls Try.prog 39 #[.float .f64 a,.float .f64 b] w fun e w'=>e=.returned (.bool ((a:Int) == (b:Int)))∧w=w':=by
 have hfb:=run_f64bits
 go_enter Try.func39,Try.ntmps39
 go_wp2
 go_ret
 exact⟨rfl,rfl⟩
end Go.Proofs.Ytkahelhoaihajaa.Sc
namespace Go.Proofs.Ytkahelhoaihajaa.Sc
open Go.RowKit
def Sl(w:World)(A:Option Addr)(n:Nat)(xs:List Value):Prop :=
 xs.length=n∧∀k v,xs[k]?=some v→∃ad,A=some ad∧w.cell? (ad.add k)=some v
theorem Sl.at_{w:World}{A:Option Addr}{n:Nat}{xs:List Value}(h:Sl w A n xs){k:Nat}(hk:k < n):∃ad,A=some ad∧w.cell? (ad.add k)=xs[k]?:=by
 obtain⟨hl,hc⟩:=h
 have hk':k < xs.length:=by omega
 obtain⟨ad,rfl,hcell⟩:=hc k xs[k] (List.getElem?_eq_getElem hk')
 exact⟨ad,rfl,by rw[hcell,List.getElem?_eq_getElem hk']⟩
def fl(l:List Nat):List Value:=l.map (Value.float .f64)
theorem take_snoc{α:Type}(l:List α)(k:Nat)(x:α)(h:l[k]?=some x):l.take (k+1)=l.take k ++ [x]:=by
 rw[List.take_add_one,h];rfl
end Go.Proofs.Ytkahelhoaihajaa.Sc
namespace Go.Proofs.Ytkahelhoaihajaa.Sc
open Go.RowKit Go.ChangeShapes Go.WideShapes Go.ChangeAt Go.Deep
section
variable {H:Type} {enc:TypeId × Value→H} {P:Program} {w:World} {base:Nat} {spare:Nat→Bool} {held:Bool}
def FL(w:World)(a:Option Addr)(len:Nat)(l:List Nat):Prop:=Sl w a len (fl l)∧len≤9223372036854775807∧∀x∈l,x < 18446744073709551616
end
end Go.Proofs.Ytkahelhoaihajaa.Sc
