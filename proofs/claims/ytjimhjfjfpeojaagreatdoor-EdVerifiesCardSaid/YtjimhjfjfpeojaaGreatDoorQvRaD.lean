/- Joined texts. -/
import Derived.Test.YtjimhjfjfpeojaaGreatDoorQvRaB
import Derived.Test.YtjimhjfjfpeojaaGreatDoorQvFaA
set_option maxRecDepth 100000
set_option maxHeartbeats 8000000
set_option linter.unusedVariables false
namespace Go.Proofs.YtjimhjfjfpeojaaGreatDoor.Fd
open Go.RowKit Go.Proofs.YtjimhjfjfpeojaaGreatDoor.Gn Go.Deep
theorem RetN.slice{n m:Nat}{w w1 w':World}{e:Ending}(h:RetN n w1 e w')(hn:n=m)(hb:Below w.heap.size w w1):∃A k c,e=.returned (.slice A k c)∧RetN m w (.returned (.slice A k c)) w':=by
 obtain⟨A,k,c,h1,h2,h3,h4⟩:=h.of hn hb
 exact⟨A,k,c,h1,A,k,c,rfl,h2,h3,h4⟩
theorem Zi1(A B:Option Addr)(n m c d:Nat)(a b:Nat)(w:World)(hn:n≤100)(hm:m≤100)(ha:Sl w A n (nl (dg a)))(hb:Sl w B m (nl (dg b))) :
  Calls Tryz.prog 64 #[.slice A n c,.slice B m d] w (RetN ((a+b)%pp) w):=by
 have C:=Z48 A B n m c d (dg a) (dg b) w (by omega) (by omega) (Z0o _) (Z0o _) ha hb
 rw[Z0l,Z0l] at C
 have KB:∀k,(dg (a+b)).length=k→k≤1000:=fun k hk=>by
  have h1:=Z09 ha
  have h2:=Z09 hb
  have h3:a < 65536 ^ 100:=(dg_len a 100).1 (by omega)
  have h4:b < 65536 ^ 100:=(dg_len b 100).1 (by omega)
  rw[←hk]
  refine Nat.le_trans (Z1c (k:=101) ?_) (by decide)
  rw[Nat.pow_succ];omega
 have C:=Lib.hid C
 have KB:=Lib.hid KB
 clear ha hb
 go_enter Tryz.func64,Tryz.ntmps64
 go_wp2_with fail
 (with_reducible refine C.out.mono ?_)
 rintro e w1 ⟨A1,k1,c1,rfl,h11,h12,h13⟩
 have K1:=Lib.hid (KB.out k1 (Z09 h11))
 have T1:=Lib.hid h11
 have W1:=Lib.hid h13
 clear h11 h13 C KB
 go_wp2_with fail
 (with_reducible refine(Zaj A1 k1 c1 (a+b) w1 K1.out h12 T1.out).mono ?_)
 intro e w2 h2
 obtain⟨A2,k2,c2,rfl,h3⟩:=h2.slice rfl W1.out
 have R:=Lib.hid h3
 clear h2 h3
 go_wp2
 go_ret
 exact R.out
theorem Z81(A B:Option Addr)(n m c d:Nat)(a b:Nat)(w:World)(hn:n≤100)(hm:m≤16)(hbp:b < pp)(ha:Sl w A n (nl (dg a)))(hb:Sl w B m (nl (dg b))) :
  Calls Tryz.prog 63 #[.slice A n c,.slice B m d] w (RetN ((a+(pp - b))%pp) w):=by
 have HA:=Lib.hid ha
 have HB:=Lib.hid hb
 have HBP:=Lib.hid hbp
 have KA:=Lib.hid (show a < 65536 ^ 100 from(dg_len a 100).1 (by rw[Z09 ha];exact hn))
 clear ha hb hbp
 go_enter Tryz.func63,Tryz.ntmps63
 go_wp2_with fail
 (with_reducible refine(Zai w).mono ?_)
 rintro e w1 ⟨A1,k1,c1,rfl,h11,h12,h13⟩
 have K1:=Lib.hid (show k1=16 by rw[←Z09 h11,Z69];rfl)
 have T1:=Lib.hid h11
 have W1:=Lib.hid h13
 have MM:=Z2n A1 B k1 m c1 d (dg pp) (dg b) w1 (by have:=K1.out;omega) (by have:=K1.out;omega) (Z0o _) (Z0o _) (by rw[Z0l,Z0l];exact Nat.le_of_lt HBP.out) T1.out (HB.out.below W1.out)
 rw[Z0l,Z0l] at MM
 have MM:=Lib.hid MM
 clear h11 h13
 go_wp2_with fail
 (with_reducible refine MM.out.mono ?_)
 rintro e w2 ⟨A2,k2,c2,rfl,h21,h22,h23⟩
 have T2:=Lib.hid h21
 have W2:=Lib.hid (Z0g W1.out (Nat.le_refl _) h23)
 have K2:=Lib.hid (show k2≤16 by
  rw[←Z09 h21]
  refine Nat.le_trans (Z0y (b:=pp) (Nat.sub_le _ _)) ?_
  rw[Z69];exact Nat.le_refl _)
 have SS:=Z48 A A2 n k2 c c2 (dg a) (dg (pp - b)) w2 (by omega) (by have:=K2.out;omega) (Z0o _) (Z0o _) (HA.out.below W2.out) T2.out
 rw[Z0l,Z0l] at SS
 have SS:=Lib.hid SS
 clear h21 h23 MM
 go_wp2_with fail
 (with_reducible refine SS.out.mono ?_)
 rintro e w3 ⟨A3,k3,c3,rfl,h31,h32,h33⟩
 have T3:=Lib.hid h31
 have W3:=Lib.hid (Z0g W2.out (Nat.le_refl _) h33)
 have K3:=Lib.hid (show k3≤1000 by
  rw[←Z09 h31]
  refine Nat.le_trans (Z1c (k:=101) ?_) (by decide)
  have h1:=KA.out
  have h2:pp < 65536 ^ 100:=by
   rw[←Zk0]
   exact Nat.lt_of_lt_of_le (Z3z _ Zk1) (Nat.pow_le_pow_right (by decide) (by decide))
  rw[Nat.pow_succ];omega)
 clear h31 h33 SS
 go_wp2_with fail
 (with_reducible refine(Zaj A3 k3 c3 (a+(pp - b)) w3 K3.out h32 T3.out).mono ?_)
 intro e w4 h4
 obtain⟨A4,k4,c4,rfl,h5⟩:=h4.slice rfl W3.out
 have R:=Lib.hid h5
 clear h4 h5
 go_wp2
 go_ret
 exact R.out
theorem Z6e(A B:Option Addr)(n m c d:Nat)(a b:Nat)(w:World)(hn:n≤1000)(hm:m≤1000)(ha:Sl w A n (nl (dg a)))(hb:Sl w B m (nl (dg b))) :
  Calls Tryz.prog 52 #[.slice A n c,.slice B m d] w fun e w'=>e=.returned (.bool (decide (a=b)))∧Below w.heap.size w w':=by
 have L1:=Z26 A B n m c d a b w (by omega) (by omega) ha hb
 have HA:=Lib.hid ha
 have HB:=Lib.hid hb
 clear ha hb
 by_cases h1:a < b
 ·rw[decide_eq_true h1] at L1
  have L1:=Lib.hid L1
  have HE:=Lib.hid (show decide (a=b)=false from decide_eq_false (by omega))
  clear h1
  go_enter Tryz.func52,Tryz.ntmps52
  go_wp2_with fail
  (with_reducible refine L1.out.mono ?_)
  rintro e w1 ⟨rfl,hb1⟩
  go_wp2_with fail
  go_ret
  exact⟨Z3n HE.out.symm,hb1⟩
 ·rw[decide_eq_false h1] at L1
  have L1:=Lib.hid L1
  have H1:=Lib.hid h1
  clear h1
  go_enter Tryz.func52,Tryz.ntmps52
  go_wp2_with fail
  (with_reducible refine L1.out.mono ?_)
  rintro e w1 ⟨rfl,hb1⟩
  have W1:=Lib.hid hb1
  have L2:=Z26 B A m n d c b a w1 (by omega) (by omega) (HB.out.below hb1) (HA.out.below hb1)
  clear hb1
  by_cases h2:b < a
  ·rw[decide_eq_true h2] at L2
   have L2:=Lib.hid L2
   have HE:=Lib.hid (show decide (a=b)=false from decide_eq_false (by omega))
   clear h2
   go_wp2_with fail
   (with_reducible refine L2.out.mono ?_)
   rintro e w2 ⟨rfl,hb2⟩
   have W2:=Lib.hid (Z0g W1.out (Nat.le_refl _) hb2)
   clear hb2
   go_wp2_with fail
   go_ret
   exact⟨Z3n HE.out.symm,W2.out⟩
  ·rw[decide_eq_false h2] at L2
   have L2:=Lib.hid L2
   have HE:=Lib.hid (show decide (a=b)=true from decide_eq_true (by have:=H1.out;omega))
   clear h2
   go_wp2_with fail
   (with_reducible refine L2.out.mono ?_)
   rintro e w2 ⟨rfl,hb2⟩
   have W2:=Lib.hid (Z0g W1.out (Nat.le_refl _) hb2)
   clear hb2
   go_wp2_with fail
   go_ret
   exact⟨Z3n HE.out.symm,W2.out⟩
def hzB(B:Nat)(x:E5)(j:Nat):Nat:=(x.l.drop j).foldr (fun a s=>a+s*B) 0
def b51:Nat:=2251799813685248
attribute [irreducible] b51
def hz(x:E5)(j:Nat):Nat:=hzB b51 x j
end Go.Proofs.YtjimhjfjfpeojaaGreatDoor.Fd
