/- Joined texts. -/
import Derived.Test.YtjimhjfjfpeojaaGreatDoorQsRaB
import Derived.Test.YtjimhjfjfpeojaaGreatDoorQsFaA
set_option linter.unusedVariables false
namespace Go.Proofs.YtjimhjfjfpeojaaGreatDoor.Fd
open Go.RowKit Go.Proofs.YtjimhjfjfpeojaaGreatDoor.Gn Go.Deep
theorem RetN.slice{n m:Nat}{w w1 w':World}{e:Ending}(h:RetN n w1 e w')(hn:n=m)(hb:Below w.heap.size w w1):∃A k c,e=.returned (.slice A k c)∧RetN m w (.returned (.slice A k c)) w':=by
 obtain⟨A,k,c,h1,h2,h3,h4⟩:=h.of hn hb
 exact⟨A,k,c,h1,A,k,c,rfl,h2,h3,h4⟩
theorem Plus_any(A B:Option Addr)(n m c d:Nat)(a b:Nat)(w:World)(hn:n≤100)(hm:m≤100)(ha:Sl w A n (nl (dg a)))(hb:Sl w B m (nl (dg b))) :
  Calls Tryz.prog 64 #[.slice A n c,.slice B m d] w (RetN ((a+b)%pp) w):=by
 have C:=sum_any A B n m c d (dg a) (dg b) w (by omega) (by omega) (dg_dg _) (dg_dg _) ha hb
 rw[vl_dg,vl_dg] at C
 have KB:∀k,(dg (a+b)).length=k→k≤1000:=fun k hk=>by
  have h1:=sl_len ha
  have h2:=sl_len hb
  have h3:a < 65536 ^ 100:=(dg_len a 100).1 (by omega)
  have h4:b < 65536 ^ 100:=(dg_len b 100).1 (by omega)
  rw[←hk]
  refine Nat.le_trans (dg_len' (k:=101) ?_) (by decide)
  rw[Nat.pow_succ];omega
 have C:=Lib.hid C
 have KB:=Lib.hid KB
 clear ha hb
 go_enter Tryz.func64,Tryz.ntmps64
 go_wp2_with fail
 (with_reducible refine C.out.mono ?_)
 rintro e w1 ⟨A1,k1,c1,rfl,h11,h12,h13⟩
 have K1:=Lib.hid (KB.out k1 (sl_len h11))
 have T1:=Lib.hid h11
 have W1:=Lib.hid h13
 clear h11 h13 C KB
 go_wp2_with fail
 (with_reducible refine(Mod_any A1 k1 c1 (a+b) w1 K1.out h12 T1.out).mono ?_)
 intro e w2 h2
 obtain⟨A2,k2,c2,rfl,h3⟩:=h2.slice rfl W1.out
 have R:=Lib.hid h3
 clear h2 h3
 go_wp2
 go_ret
 exact R.out
theorem Less_any(A B:Option Addr)(n m c d:Nat)(a b:Nat)(w:World)(hn:n≤100)(hm:m≤16)(hbp:b < pp)(ha:Sl w A n (nl (dg a)))(hb:Sl w B m (nl (dg b))) :
  Calls Tryz.prog 63 #[.slice A n c,.slice B m d] w (RetN ((a+(pp - b))%pp) w):=by
 have HA:=Lib.hid ha
 have HB:=Lib.hid hb
 have HBP:=Lib.hid hbp
 have KA:=Lib.hid (show a < 65536 ^ 100 from(dg_len a 100).1 (by rw[sl_len ha];exact hn))
 clear ha hb hbp
 go_enter Tryz.func63,Tryz.ntmps63
 go_wp2_with fail
 (with_reducible refine(P_any w).mono ?_)
 rintro e w1 ⟨A1,k1,c1,rfl,h11,h12,h13⟩
 have K1:=Lib.hid (show k1=16 by rw[←sl_len h11,dg_pp];rfl)
 have T1:=Lib.hid h11
 have W1:=Lib.hid h13
 have MM:=minus_any A1 B k1 m c1 d (dg pp) (dg b) w1 (by have:=K1.out;omega) (by have:=K1.out;omega) (dg_dg _) (dg_dg _) (by rw[vl_dg,vl_dg];exact Nat.le_of_lt HBP.out) T1.out (HB.out.below W1.out)
 rw[vl_dg,vl_dg] at MM
 have MM:=Lib.hid MM
 clear h11 h13
 go_wp2_with fail
 (with_reducible refine MM.out.mono ?_)
 rintro e w2 ⟨A2,k2,c2,rfl,h21,h22,h23⟩
 have T2:=Lib.hid h21
 have W2:=Lib.hid (bel_nx W1.out (Nat.le_refl _) h23)
 have K2:=Lib.hid (show k2≤16 by
  rw[←sl_len h21]
  refine Nat.le_trans (dg_len_mono (b:=pp) (Nat.sub_le _ _)) ?_
  rw[dg_pp];exact Nat.le_refl _)
 have SS:=sum_any A A2 n k2 c c2 (dg a) (dg (pp - b)) w2 (by omega) (by have:=K2.out;omega) (dg_dg _) (dg_dg _) (HA.out.below W2.out) T2.out
 rw[vl_dg,vl_dg] at SS
 have SS:=Lib.hid SS
 clear h21 h23 MM
 go_wp2_with fail
 (with_reducible refine SS.out.mono ?_)
 rintro e w3 ⟨A3,k3,c3,rfl,h31,h32,h33⟩
 have T3:=Lib.hid h31
 have W3:=Lib.hid (bel_nx W2.out (Nat.le_refl _) h33)
 have K3:=Lib.hid (show k3≤1000 by
  rw[←sl_len h31]
  refine Nat.le_trans (dg_len' (k:=101) ?_) (by decide)
  have h1:=KA.out
  have h2:pp < 65536 ^ 100:=by
   rw[←ppl_vl]
   exact Nat.lt_of_lt_of_le (vl_lt _ ppl_dg) (Nat.pow_le_pow_right (by decide) (by decide))
  rw[Nat.pow_succ];omega)
 clear h31 h33 SS
 go_wp2_with fail
 (with_reducible refine(Mod_any A3 k3 c3 (a+(pp - b)) w3 K3.out h32 T3.out).mono ?_)
 intro e w4 h4
 obtain⟨A4,k4,c4,rfl,h5⟩:=h4.slice rfl W3.out
 have R:=Lib.hid h5
 clear h4 h5
 go_wp2
 go_ret
 exact R.out
end Go.Proofs.YtjimhjfjfpeojaaGreatDoor.Fd
namespace Go.Proofs.YtjimhjfjfpeojaaGreatDoor.Fd
open Go.RowKit Go.Proofs.YtjimhjfjfpeojaaGreatDoor.Gn Go.Deep
def hzB(B:Nat)(x:E5)(j:Nat):Nat:=(x.l.drop j).foldr (fun a s=>a+s*B) 0
def b51:Nat:=2251799813685248
attribute [irreducible] b51
def hz(x:E5)(j:Nat):Nat:=hzB b51 x j
end Go.Proofs.YtjimhjfjfpeojaaGreatDoor.Fd
