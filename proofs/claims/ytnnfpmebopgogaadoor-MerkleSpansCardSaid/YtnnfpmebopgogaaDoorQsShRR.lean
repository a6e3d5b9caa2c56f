/- Joined texts. -/
import Derived.Deep.DeepCutAuto
import Derived.Outline
import Derived.Test.YtnnfpmebopgogaaDoorQsMpHalf
set_option linter.unusedVariables false
namespace Go.Proofs.YtnnfpmebopgogaaDoor.Sh
open Go.RowKit Go.Proofs.YtnnfpmebopgogaaDoor.Gn Go.Deep
attribute [local go_sem ↓] Go.wp_at_zero Go.wp_at_succ
theorem ma_or(x y z:Nat):x &&& y ||| x &&& z ||| y &&& z=ma x y z:=by
 unfold ma
 apply Nat.eq_of_testBit_eq
 intro i
 simp only[Nat.testBit_or,Nat.testBit_xor,Nat.testBit_and]
 cases x.testBit i <;> cases y.testBit i <;> cases z.testBit i <;> rfl
theorem wrap_ge'(x:Int):0≤IntKind.u64.wrap x:=by rw[IntKind.wrap_u64];omega
theorem wrap_lt'(x:Int):IntKind.u64.wrap x < 18446744073709551616:=by rw[IntKind.wrap_u64];omega
def nl8(v:V8):List Value:=[.int .u64 (v.a:Int),.int .u64 (v.b:Int),.int .u64 (v.c:Int),.int .u64 (v.d:Int),.int .u64 (v.e:Int),.int .u64 (v.f:Int),.int .u64 (v.g:Int),.int .u64 (v.k:Int)]
theorem ch_or32(e f g:Nat)(he:e < 4294967296)(hf:f < 4294967296)(hg:g < 4294967296):e &&& f ||| (4294967296 - 1 - e) &&& g=ch false e f g:=by
 unfold ch
 rw[mo_false]
 apply Nat.eq_of_testBit_eq
 intro i
 have h2:(2 ^ 32 - (e+1)).testBit i=(decide (i < 32) && !e.testBit i):=Nat.testBit_two_pow_sub_succ (by exact he) i
 rw[show 4294967296 - 1 - e=2 ^ 32 - (e+1) by omega]
 simp only[Nat.testBit_or,Nat.testBit_xor,Nat.testBit_and,h2]
 cases e.testBit i <;> simp
theorem not_cut32(e:Nat)(he:e < 4294967296):bits .xor .u64 IntKind.u64.max (e:Int)%4294967296=((4294967296 - 1 - e:Nat):Int):=by
 have h:=notI64 e (Nat.lt_of_lt_of_le he (by decide))
 rw[h]
 omega
theorem chR32(e f g:Nat)(he:e < 4294967296)(hf:f < 4294967296)(hg:g < 4294967296) :
  bits .or .u64 (bits .and .u64 (e:Int) (f:Int)) (bits .and .u64 ((4294967296 - 1 - e:Nat):Int) (g:Int))=((ch false e f g:Nat):Int):=by
 have e6:e < 2 ^ 64:=Nat.lt_of_lt_of_le he (by decide)
 have f6:f < 2 ^ 64:=Nat.lt_of_lt_of_le hf (by decide)
 have g6:g < 2 ^ 64:=Nat.lt_of_lt_of_le hg (by decide)
 have n6:4294967296 - 1 - e < 2 ^ 64:=Nat.lt_of_lt_of_le (show 4294967296 - 1 - e < 4294967296 by omega) (by decide)
 rw[u64_and_nat _ _ e6 f6,u64_and_nat _ _ n6 g6,u64_or_nat _ _ (Nat.and_lt_two_pow _ f6) (Nat.and_lt_two_pow _ g6),ch_or32 e f g he hf hg]
theorem maR32(x y z:Nat)(hx:x < 4294967296)(hy:y < 4294967296)(hz:z < 4294967296) :
  bits .or .u64 (bits .or .u64 (bits .and .u64 (x:Int) (y:Int)) (bits .and .u64 (x:Int) (z:Int))) (bits .and .u64 (y:Int) (z:Int))=((ma x y z:Nat):Int):=by
 have x6:x < 2 ^ 64:=Nat.lt_of_lt_of_le hx (by decide)
 have y6:y < 2 ^ 64:=Nat.lt_of_lt_of_le hy (by decide)
 have z6:z < 2 ^ 64:=Nat.lt_of_lt_of_le hz (by decide)
 rw[u64_and_nat _ _ x6 y6,u64_and_nat _ _ x6 z6,u64_and_nat _ _ y6 z6,u64_or_nat _ _ (Nat.and_lt_two_pow _ y6) (Nat.and_lt_two_pow _ z6),u64_or_nat _ _ (Nat.or_lt_two_pow (Nat.and_lt_two_pow _ y6) (Nat.and_lt_two_pow _ z6)) (Nat.and_lt_two_pow _ z6),ma_or]
set_option maxRecDepth 100000 in
set_option maxHeartbeats 4000000 in
theorem round32_any(g c:Nat)(V:V8)(hV:Lt8 false V)(k x:Nat)(w:World)(hs:Sl w (some ⟨g,0,none⟩) 8 (nl8 V)) :
  Calls Tryd.prog 84 #[.agg rv32,.slice (some ⟨g,0,none⟩) 8 c,.int .u64 (k:Int),.int .u64 (x:Int)] w
   fun e w'=>∃q,e=.returned (.slice (some ⟨q,0,none⟩) 8 8)∧Bl w' q 97 (nl8 (rnd false (k / 2 ^ (64 - 32)) x V)).toArray∧Below w.heap.size w w':=by
 have LV:=Lib.hid hV
 have cs:∀j v,(nl8 V)[j]?=some v→w.cell? ⟨g,j,none⟩=some v:=fun j v hj=>by
  obtain⟨ad,e,hc⟩:=hs.2 j v hj
  cases e
  rw[←add_at];exact hc
 have k0:=cs 0 _ rfl
 have k1:=cs 1 _ rfl
 have k2:=cs 2 _ rfl
 have k3:=cs 3 _ rfl
 have k4:=cs 4 _ rfl
 have k5:=cs 5 _ rfl
 have k6:=cs 6 _ rfl
 have k7:=cs 7 _ rfl
 clear hs hV cs
 obtain⟨a,b,c2,d,e,f,g2,k8⟩:=V
 simp only at k0 k1 k2 k3 k4 k5 k6 k7
 have GA:=Lib.hid (show ∀w,Calls Tryd.prog 93 #[.agg #[.int .u64 4294967296,.int .u64 32],.int .u64 (a:Int),(.int .u64 2),(.int .u64 13),(.int .u64 22)] w fun e w'=>e=.returned (.int .u64 ((g0 false a:Nat):Int))∧Below w.heap.size w w' from fun w=>rbig32 a _ _ _ w (Lib.hid (by have:=LV.out.a;rwa [mo_false] at this)) (by decide) (by decide) (by decide) (by decide) (by decide) (by decide))
 have GE:=Lib.hid (show ∀w,Calls Tryd.prog 93 #[.agg #[.int .u64 4294967296,.int .u64 32],.int .u64 (e:Int),(.int .u64 6),(.int .u64 11),(.int .u64 25)] w fun e' w'=>e'=.returned (.int .u64 ((g1 false e:Nat):Int))∧Below w.heap.size w w' from fun w=>rbig32 e _ _ _ w (Lib.hid (by have:=LV.out.e;rwa [mo_false] at this)) (by decide) (by decide) (by decide) (by decide) (by decide) (by decide))
 unfold rv32
 go_enter Tryd.func84,Tryd.ntmps84
 go_upto_region 1 with fail
 have c0:(w.alloc (.cells #[.int .u64 4294967296,.int .u64 32] 100)).cell? ⟨w.heap.size,0,none⟩=some (.int .u64 4294967296):=(Bl.new_ w 100 #[.int .u64 4294967296,.int .u64 32]).cell_ rfl
 have c1:(w.alloc (.cells #[.int .u64 4294967296,.int .u64 32] 100)).cell? ⟨w.heap.size,1,none⟩=some (.int .u64 32):=(Bl.new_ w 100 #[.int .u64 4294967296,.int .u64 32]).cell_ rfl
 have b0:Below w.heap.size w (w.alloc (.cells #[.int .u64 4294967296,.int .u64 32] 100)):=(Below.refl _ _).alloc (Nat.le_refl _) _
 generalize hw0:w.alloc _=w0 at c0 c1 b0 ⊢
 clear hw0
 have j0:=keepc b0 k0
 have j1:=keepc b0 k1
 have j2:=keepc b0 k2
 have j3:=keepc b0 k3
 have j4:=keepc b0 k4
 have j5:=keepc b0 k5
 have j6:=keepc b0 k6
 have j7:=keepc b0 k7
 have B0:=Lib.hid b0
 clear b0 k0 k1 k2 k3 k4 k5 k6 k7
 go_quiet (fail)
 obtain⟨w1,hw1⟩:∃w1,w1=w0.drewN nq:=⟨_,rfl⟩
 rw[←hw1]
 have B1:=Lib.hid (show Below w.heap.size w w1 by rw[hw1];exact below_drewN B0.out nq)
 have FK:=Lib.hid (show ∀y:World,Below w1.heap.size w1 y→y.cell? ⟨w.heap.size,0,none⟩=some (.int .u64 4294967296)∧y.cell? ⟨w.heap.size,1,none⟩=some (.int .u64 32)∧y.cell? ⟨g,3,none⟩=some (.int .u64 (d:Int))∧y.cell? ⟨g,7,none⟩=some (.int .u64 (k8:Int)) from
  fun y hy=>by rw[hw1] at hy;exact⟨keepc hy c0,keepc hy c1,keepc hy j3,keepc hy j7⟩)
 clear c0 c1 j0 j1 j2 j3 j4 j5 j6 j7 hw1
 have HC:=Lib.hid (fun X h0 h1 w=>cut32 X h0 h1 w)
 have HCE:=Lib.hid (show ∀w,Calls Tryd.prog 85 #[.agg rv32,.int .u64 (bits .xor .u64 IntKind.u64.max (e:Int))] w fun e' w'=>e'=.returned (.int .u64 ((4294967296 - 1 - e:Nat):Int))∧Below w.heap.size w w' from fun w=>by
  have he:e < 4294967296:=by have:=LV.out.e;rwa [mo_false] at this
  have h6:=notI64 e (Nat.lt_of_lt_of_le he (by decide))
  rw[←not_cut32 e he]
  exact cut32 _ (by rw[h6];omega) (Lib.hid (by rw[h6];omega)) w)
 unfold rv32 at HC HCE
 obtain⟨c0,c1,j3,j7⟩:=FK.out _ (Below.refl _ _)
 go_wp2_with (first|(go_at_call 93;(with_reducible refine(GE.out _).mono ?_);rintro e' w2 ⟨rfl,hb2⟩;have K2:=Lib.hid hb2;clear hb2 c0 c1 j3 j7;obtain⟨c0,c1,j3,j7⟩:=FK.out _ K2.out)|(go_at_call 93;(with_reducible refine(GA.out _).mono ?_);rintro e' w3 ⟨rfl,hb3⟩;have K3:=Lib.hid (K2.out.trans (hb3.mono K2.out.size));clear hb3 c0 c1 j3 j7;obtain⟨c0,c1,j3,j7⟩:=FK.out _ K3.out)|(go_at_call 85;(with_reducible refine(HCE.out _).mono ?_);rintro e' w4 ⟨rfl,hb4⟩;have K4:=Lib.hid (K3.out.trans (hb4.mono K3.out.size));clear hb4 c0 c1 j3 j7;obtain⟨c0,c1,j3,j7⟩:=FK.out _ K4.out))
 have he:e < 4294967296:=by have:=LV.out.e;rwa [mo_false] at this
 have hf:f < 4294967296:=by have:=LV.out.f;rwa [mo_false] at this
 have hg2:g2 < 4294967296:=by have:=LV.out.g;rwa [mo_false] at this
 have ha:a < 4294967296:=by have:=LV.out.a;rwa [mo_false] at this
 have hb:b < 4294967296:=by have:=LV.out.b;rwa [mo_false] at this
 have hc2:c2 < 4294967296:=by have:=LV.out.c;rwa [mo_false] at this
 have eC:bits .or .u64 (bits .and .u64 (e:Int) (f:Int)) (bits .and .u64 ((4294967295 - e:Nat):Int) (g2:Int))=((ch false e f g2:Nat):Int):=chR32 e f g2 he hf hg2
 rw[eC,maR32 a b c2 ha hb hc2]
 clear eC he hf hg2 ha hb hc2
 generalize hT:IntKind.u64.wrap (IntKind.u64.wrap (IntKind.u64.wrap (IntKind.u64.wrap ((k8:Int)+((g1 false e:Nat):Int))+((ch false e f g2:Nat):Int))+IntKind.u64.wrap ((k:Int) / 4294967296))+(x:Int))=T
 have HT:=Lib.hid hT
 clear hT j7
 go_region_held3 (fun x'=>x'.cell? ⟨w.heap.size,0,none⟩=some (.int .u64 4294967296)∧x'.cell? ⟨w.heap.size,1,none⟩=some (.int .u64 32)∧x'.cell? ⟨g,3,none⟩=some (.int .u64 (d:Int)))
  (first|exact⟨c0,c1,j3⟩|exact⟨keepc L2 c0,keepc L2 c1,keepc L2 j3⟩|exact⟨keepc L1 c0,keepc L1 c1,keepc L1 j3⟩|exact⟨keepc (L2.alloc L2.size _) c0,keepc (L2.alloc L2.size _) c1,keepc (L2.alloc L2.size _) j3⟩)
  (first|(go_at_call 85;(with_reducible refine(HC.out _ (wrap_ge' _) (Lib.hid (wrap_lt' _)) _).mono ?_);rintro e' w5 ⟨rfl,hb5⟩;(first|(have L2:=L1.trans (hb5.mono L1.size))|(have L1:=k_drew hb5))))
 rename_i hHeld
 clear hHeld
 have B5:=Lib.hid ((B1.out.trans (K4.out.mono B1.out.size)).trans (L2.mono (by have:=B1.out.size;have:=K4.out.size;omega)))
 clear L1 L2 c0 c1 j3 hb5
 go_wp2_with fail
 go_ret
 have eK:(k:Int) / 2 ^ (64 - 32)=((k / 2 ^ (64 - 32):Nat):Int):=by simp
 have hT:=HT.out
 have e1:IntKind.u64.wrap (IntKind.u64.wrap (T+((g0 false a:Nat):Int))+((ma a b c2:Nat):Int))%4294967296=(((rnd false (k / 2 ^ (64 - 32)) x ⟨a,b,c2,d,e,f,g2,k8⟩).a:Nat):Int):=by
  simp only[rnd,rx,ry,mo_false]
  simp only[IntKind.wrap_u64] at hT ⊢
  omega
 have e2:IntKind.u64.wrap ((d:Int)+T)%4294967296=(((rnd false (k / 2 ^ (64 - 32)) x ⟨a,b,c2,d,e,f,g2,k8⟩).e:Nat):Int):=by
  simp only[rnd,rx,ry,mo_false]
  simp only[IntKind.wrap_u64] at hT ⊢
  omega
 rw[e1,e2]
 exact⟨_,rfl,Bl.new_ _ _ _,B5.out.alloc B5.out.size _⟩
end Go.Proofs.YtnnfpmebopgogaaDoor.Sh
