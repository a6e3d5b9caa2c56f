/- Joined texts. -/
import Derived.Test.YtnnfpmebopgogaaDoorQsMkA
import Derived.Lib.BitFns
set_option linter.unusedVariables false
namespace Go.Proofs.YtnnfpmebopgogaaDoor.Mk
open Go.RowKit Go.Proofs.YtnnfpmebopgogaaDoor.Gn Go.Proofs.YtnnfpmebopgogaaDoor.Fd Go.Deep
theorem digest_two(b:Nat)(bi:Int)(hbi:(b:Int)=bi)(hb:b < 256){A B:Option Addr}{n m c d:Nat}{x y:List Nat}{w:World}(h:Pc w (A,n,c,x))(k:Pc w (B,m,d,y))(htot:(x ++ y).length < 1048576)(ts:Sh.Tab w) :
  Calls Tryd.prog 34 #[.int .u8 bi,.slice (some ⟨w.heap.size,0,none⟩) 2 2] (w.alloc (.cells #[.slice A n c,.slice B m d] 22)) (Ret32 (Sh.dg false (b :: (x ++ y))) w):=by
 subst hbi
 have BB:=(Below.refl w.heap.size w).alloc (Nat.le_refl _) (.cells #[.slice A n c,.slice B m d] 22)
 have e:cat [(A,n,c,x),(B,m,d,y)]=x ++ y:=by simp[cat]
 have:=digest_any b hb [(A,n,c,x),(B,m,d,y)] _ 2 2 _ (two_sl w _ _) (by intro r hx;simp at hx;rcases hx with rfl|rfl <;> first|exact h.below BB|exact k.below BB) (by decide) (by rw[e];exact htot) (ts.below BB)
 rw[e] at this
 refine this.mono fun e w' h=>?_
 obtain⟨g,h1,h2,h3,h4⟩:=h
 exact⟨g,h1,h2,Nat.le_trans BB.size h3,BB.trans (h4.mono BB.size)⟩
set_option maxRecDepth 100000 in
set_option maxHeartbeats 2000000 in
theorem joined_any{A B:Option Addr}{n m c d:Nat}{x y:List Nat}{w:World}(h:Pc w (A,n,c,x))(k:Pc w (B,m,d,y))(htot:(x ++ y).length < 1048576)(ts:Sh.Tab w) :
  Calls Tryd.prog 47 #[.slice A n c,.slice B m d] w (Ret32 (Sh.dg false (1 :: (x ++ y))) w):=by
 have C:=Lib.hid (digest_two 1 1 rfl (by decide) h k htot ts)
 clear h k htot ts
 go_enter Tryd.func47,Tryd.ntmps47
 go_wp2_with (go_at_call 34;(with_reducible refine C.out.mono ?_);rintro e w1 ⟨g,rfl,p1,g1,b1⟩;have P1:=Lib.hid p1;have G1:=Lib.hid g1;have D1:=Lib.hid b1;clear p1 g1 b1)
 go_ret
 exact⟨g,rfl,P1.out,G1.out,D1.out⟩
set_option maxRecDepth 100000 in
set_option maxHeartbeats 2000000 in
theorem sealed_any(n:Nat)(hn:n≤9223372036854775807){A:Option Addr}{m c:Nat}{x:List Nat}{w:World}(h:Pc w (A,m,c,x))(hx:x.length < 1000000)(ts:Sh.Tab w) :
  Calls Tryd.prog 39 #[.int .i64 (n:Int),.slice A m c] w (Ret32 (Sh.dg false (2 :: (eight n ++ x))) w):=by
 have C1:=Lib.hid (count_any n w hn)
 have C2:=Lib.hid (fun(g:Nat) (w1:World) (hp:Pc w1 (some ⟨g,0,none⟩,8,8,eight n)) (hb:Below w.heap.size w w1)=>digest_two 2 2 rfl (by decide) hp (h.below hb) (by rw[List.length_append,eight_len];omega) (ts.below hb))
 clear h hx ts
 go_enter Tryd.func39,Tryd.ntmps39
 go_wp2_with (go_at_call 35;(with_reducible refine C1.out.mono ?_);rintro e w1 ⟨g,rfl,p1,g1,b1⟩;have C3:=Lib.hid (C2.out g w1 p1 b1);have D1:=Lib.hid b1;clear p1 g1 b1 C2)
 go_wp2_with (go_at_call 34;(with_reducible refine C3.out.mono ?_);rintro e w2 ⟨g2,rfl,p1,g1,b1⟩;have P1:=Lib.hid p1;have G1:=Lib.hid (Nat.le_trans D1.out.size g1);have D2:=Lib.hid (D1.out.trans (b1.mono D1.out.size));clear p1 g1 b1)
 go_ret
 exact⟨g2,rfl,P1.out,G1.out,D2.out⟩
set_option maxRecDepth 100000 in
set_option maxHeartbeats 2000000 in
theorem Leaf_any(n:Nat)(hn:n≤9223372036854775807){A:Option Addr}{m c:Nat}{x:List Nat}{w:World}(h:Pc w (A,m,c,x))(hx:m≤1024)(ts:Sh.Tab w) :
  Calls Tryd.prog 9 #[.int .i64 (n:Int),.slice A m c] w fun e w'=>∃g,e=.returned (.tuple #[.slice (some ⟨g,0,none⟩) 32 32,.int .i64 0])∧Pc w' (some ⟨g,0,none⟩,32,32,Sh.dg false (0 :: (eight n ++ x)))∧w.heap.size≤g∧Below w.heap.size w w':=by
 have hxl:x.length≤1024:=by rw[←h.len];exact hx
 have C1:=Lib.hid (count_any n w hn)
 have C2:=Lib.hid (fun(g:Nat) (w1:World) (hp:Pc w1 (some ⟨g,0,none⟩,8,8,eight n)) (hb:Below w.heap.size w w1)=>digest_two 0 0 rfl (by decide) hp (h.below hb) (by rw[List.length_append,eight_len];omega) (ts.below hb))
 clear h hxl ts
 go_enter Tryd.func9,Tryd.ntmps9
 go_wp2_with (go_at_call 35;(with_reducible refine C1.out.mono ?_);rintro e w1 ⟨g,rfl,p1,g1,b1⟩;have C3:=Lib.hid (C2.out g w1 p1 b1);have D1:=Lib.hid b1;clear p1 g1 b1 C2)
 go_wp2_with (go_at_call 34;(with_reducible refine C3.out.mono ?_);rintro e w2 ⟨g2,rfl,p1,g1,b1⟩;have P1:=Lib.hid p1;have G1:=Lib.hid (Nat.le_trans D1.out.size g1);have D2:=Lib.hid (D1.out.trans (b1.mono D1.out.size));clear p1 g1 b1)
 go_ret2
 exact⟨g2,rfl,P1.out,G1.out,D2.out⟩
end Go.Proofs.YtnnfpmebopgogaaDoor.Mk
namespace Go.Proofs.YtnnfpmebopgogaaDoor.Mk
open Go.RowKit Go.Proofs.YtnnfpmebopgogaaDoor.Gn Go.Proofs.YtnnfpmebopgogaaDoor.Fd Go.Deep
def rootOf(n:Nat)(x:List Nat):List Nat:=Sh.dg false (2 :: (eight n ++ x))
set_option maxRecDepth 100000 in
set_option maxHeartbeats 2000000 in
theorem compared_any{R A:Option Addr}{r c m d:Nat}{lr x:List Nat}(n:Nat)(hn:n≤9223372036854775807){w:World}(hr:Pc w (R,r,c,lr))(h:Pc w (A,m,d,x))(hx:x.length < 1000000)(ts:Sh.Tab w) :
  Calls Tryd.prog 48 #[.slice R r c,.int .i64 (n:Int),.slice A m d] w fun e w'=>e=.returned (.int .i64 (if lr=rootOf n x then 0 else 50))∧Below w.heap.size w w':=by
 have C1:=Lib.hid (show Calls Tryd.prog 39 #[.int .i64 (n:Int),.slice A m d] w (Ret32 (rootOf n x) w) from sealed_any n hn h hx ts)
 have hl:lr.length=r:=hr.len.symm
 have C2:=Lib.hid (fun(g:Nat) (w1:World) (hp:Pc w1 (some ⟨g,0,none⟩,32,32,rootOf n x)) (hb:Below w.heap.size w w1) =>
  Equal_any (c:=c) (d:=32) (show Sl w1 R r (bl lr) from by have:=(hr.below hb).row;rwa [show(R,r,c,lr).2.2.2=lr from rfl,hl] at this) (show Sl w1 (some ⟨g,0,none⟩) 32 (bl (rootOf n x)) from by have:=hp.row;rwa [show((some ⟨g,0,none⟩:Option Addr),32,32,rootOf n x).2.2.2=rootOf n x from rfl,show(rootOf n x).length=32 from dg32_len _] at this) hr.lt hp.lt)
 clear hr h hx ts hl
 generalize rootOf n x=Z at C1 C2 ⊢
 by_cases hz:lr=Z
 ·rw[if_pos hz]
  rw[decide_eq_true hz] at C2
  clear hz
  go_enter Tryd.func48,Tryd.ntmps48
  go_wp2_with (go_at_call 39;(with_reducible refine C1.out.mono ?_);rintro e w1 ⟨g,rfl,p1,g1,b1⟩;have C3:=Lib.hid (C2.out g w1 p1 b1);have D1:=Lib.hid b1;clear p1 g1 b1 C2)
  go_wp2_with (go_at_call 72;(with_reducible refine C3.out.mono ?_);rintro e w2 ⟨rfl,rfl⟩)
  go_ret
  exact⟨rfl,D1.out⟩
 ·rw[if_neg hz]
  rw[decide_eq_false hz] at C2
  clear hz
  go_enter Tryd.func48,Tryd.ntmps48
  go_wp2_with (go_at_call 39;(with_reducible refine C1.out.mono ?_);rintro e w1 ⟨g,rfl,p1,g1,b1⟩;have C3:=Lib.hid (C2.out g w1 p1 b1);have D1:=Lib.hid b1;clear p1 g1 b1 C2)
  go_wp2_with (go_at_call 72;(with_reducible refine C3.out.mono ?_);rintro e w2 ⟨rfl,rfl⟩)
  go_ret
  exact⟨rfl,D1.out⟩
end Go.Proofs.YtnnfpmebopgogaaDoor.Mk
namespace Go.Proofs.YtnnfpmebopgogaaDoor.Mk
theorem bitLen_log:∀(x:Nat),0 < x→x < 18446744073709551616→Lib.bitLen x=Nat.log2 x+1:=by
 intro x
 induction x using Nat.strongRecOn with
 |_ x ih =>
  intro h0 h1
  rw[Lib.bitLen_half x (by omega) (by omega),Nat.log2_def]
  by_cases h:2≤x
  ·rw[if_pos h,ih (x / 2) (by omega) (by omega) (by omega)];omega
  ·obtain rfl:x=1:=by omega
   rfl
def half(n:Nat):Nat:=2 ^ Nat.log2 (n - 1)
theorem half_spec{n:Nat}(h:2≤n):1≤half n∧half n < n∧n≤2*half n:=by
 have h1:=Nat.log2_self_le (n:=n - 1) (by omega)
 have h2:=Nat.lt_log2_self (n:=n - 1)
 have h3:1≤2 ^ Nat.log2 (n - 1):=Nat.one_le_two_pow
 unfold half
 rw[Nat.pow_succ] at h2
 omega
theorem half_unique{n j:Nat}(h1:2 ^ j < n)(h2:n≤2*2 ^ j):2 ^ j=half n:=by
 have h:2≤n:=by have:1≤2 ^ j:=Nat.one_le_two_pow;omega
 obtain⟨-, h3,h4⟩:=half_spec h
 unfold half at *
 have e:j=Nat.log2 (n - 1):=by
  rcases Nat.lt_trichotomy j (Nat.log2 (n - 1)) with c|c|c
  ·have:2 ^ (j+1)≤2 ^ Nat.log2 (n - 1):=Nat.pow_le_pow_right (by omega) c
   rw[Nat.pow_succ] at this
   omega
  ·exact c
  ·have:2 ^ (Nat.log2 (n - 1)+1)≤2 ^ j:=Nat.pow_le_pow_right (by omega) c
   rw[Nat.pow_succ] at this
   omega
 rw[e]
end Go.Proofs.YtnnfpmebopgogaaDoor.Mk
