/- Joined texts. -/
import Derived.Test.YtjimhjfjfpeojaaGreatDoorQbRaB
import Derived.Test.YtjimhjfjfpeojaaGreatDoorQbFaA
set_option linter.unusedVariables false
namespace Go.Proofs.YtjimhjfjfpeojaaGreatDoor.Fd
open Go.RowKit Go.Proofs.YtjimhjfjfpeojaaGreatDoor.Gn Go.Deep
theorem RetN.slice{n m:Nat}{w w1 w':World}{e:Ending}(h:RetN n w1 e w')(hn:n=m)(hb:Below w.heap.size w w1):∃A k c,e=.returned (.slice A k c)∧RetN m w (.returned (.slice A k c)) w':=by
 obtain⟨A,k,c,h1,h2,h3,h4⟩:=h.of hn hb
 exact⟨A,k,c,h1,A,k,c,rfl,h2,h3,h4⟩
theorem Plus_any(A B:Option Addr)(n m c d:Nat)(a b:Nat)(w:World)(hn:n≤100)(hm:m≤100)(ha:Sl w A n (nl (dg a)))(hb:Sl w B m (nl (dg b))) :
  Calls Tryz.prog 64 #[.slice A n c,.slice B m d] w (RetN ((a+b)%pp) w):=by
 have C:=sum_any A B n m c d (dg a) (dg b) w (by omega) (by omega) (dg_dg _) (dg_dg _) ha hb
 rw[vl_dg,vl_dg] at C
 have KB:∀k,(dg (a+b)).length=k→k≤1000:=fun k hk=>by
  have h1:=sl_len ha
  have h2:=sl_len hb
  have h3:a < 65536 ^ 100:=(dg_len a 100).1 (by omega)
  have h4:b < 65536 ^ 100:=(dg_len b 100).1 (by omega)
  rw[←hk]
  refine Nat.le_trans (dg_len' (k:=101) ?_) (by decide)
  rw[Nat.pow_succ];omega
 have C:=Lib.hid C
 have KB:=Lib.hid KB
 clear ha hb
 go_enter Tryz.func64,Tryz.ntmps64
 go_wp2_with fail
 (with_reducible refine C.out.mono ?_)
 rintro e w1 ⟨A1,k1,c1,rfl,h11,h12,h13⟩
 have K1:=Lib.hid (KB.out k1 (sl_len h11))
 have T1:=Lib.hid h11
 have W1:=Lib.hid h13
 clear h11 h13 C KB
 go_wp2_with fail
 (with_reducible refine(Mod_any A1 k1 c1 (a+b) w1 K1.out h12 T1.out).mono ?_)
 intro e w2 h2
 obtain⟨A2,k2,c2,rfl,h3⟩:=h2.slice rfl W1.out
 have R:=Lib.hid h3
 clear h2 h3
 go_wp2
 go_ret
 exact R.out
theorem Less_any(A B:Option Addr)(n m c d:Nat)(a b:Nat)(w:World)(hn:n≤100)(hm:m≤16)(hbp:b < pp)(ha:Sl w A n (nl (dg a)))(hb:Sl w B m (nl (dg b))) :
  Calls Tryz.prog 63 #[.slice A n c,.slice B m d] w (RetN ((a+(pp - b))%pp) w):=by
 have HA:=Lib.hid ha
 have HB:=Lib.hid hb
 have HBP:=Lib.hid hbp
 have KA:=Lib.hid (show a < 65536 ^ 100 from(dg_len a 100).1 (by rw[sl_len ha];exact hn))
 clear ha hb hbp
 go_enter Tryz.func63,Tryz.ntmps63
 go_wp2_with fail
 (with_reducible refine(P_any w).mono ?_)
 rintro e w1 ⟨A1,k1,c1,rfl,h11,h12,h13⟩
 have K1:=Lib.hid (show k1=16 by rw[←sl_len h11,dg_pp];rfl)
 have T1:=Lib.hid h11
 have W1:=Lib.hid h13
 have MM:=minus_any A1 B k1 m c1 d (dg pp) (dg b) w1 (by have:=K1.out;omega) (by have:=K1.out;omega) (dg_dg _) (dg_dg _) (by rw[vl_dg,vl_dg];exact Nat.le_of_lt HBP.out) T1.out (HB.out.below W1.out)
 rw[vl_dg,vl_dg] at MM
 have MM:=Lib.hid MM
 clear h11 h13
 go_wp2_with fail
 (with_reducible refine MM.out.mono ?_)
 rintro e w2 ⟨A2,k2,c2,rfl,h21,h22,h23⟩
 have T2:=Lib.hid h21
 have W2:=Lib.hid (bel_nx W1.out (Nat.le_refl _) h23)
 have K2:=Lib.hid (show k2≤16 by
  rw[←sl_len h21]
  refine Nat.le_trans (dg_len_mono (b:=pp) (Nat.sub_le _ _)) ?_
  rw[dg_pp];exact Nat.le_refl _)
 have SS:=sum_any A A2 n k2 c c2 (dg a) (dg (pp - b)) w2 (by omega) (by have:=K2.out;omega) (dg_dg _) (dg_dg _) (HA.out.below W2.out) T2.out
 rw[vl_dg,vl_dg] at SS
 have SS:=Lib.hid SS
 clear h21 h23 MM
 go_wp2_with fail
 (with_reducible refine SS.out.mono ?_)
 rintro e w3 ⟨A3,k3,c3,rfl,h31,h32,h33⟩
 have T3:=Lib.hid h31
 have W3:=Lib.hid (bel_nx W2.out (Nat.le_refl _) h33)
 have K3:=Lib.hid (show k3≤1000 by
  rw[←sl_len h31]
  refine Nat.le_trans (dg_len' (k:=101) ?_) (by decide)
  have h1:=KA.out
  have h2:pp < 65536 ^ 100:=by
   rw[←ppl_vl]
   exact Nat.lt_of_lt_of_le (vl_lt _ ppl_dg) (Nat.pow_le_pow_right (by decide) (by decide))
  rw[Nat.pow_succ];omega)
 clear h31 h33 SS
 go_wp2_with fail
 (with_reducible refine(Mod_any A3 k3 c3 (a+(pp - b)) w3 K3.out h32 T3.out).mono ?_)
 intro e w4 h4
 obtain⟨A4,k4,c4,rfl,h5⟩:=h4.slice rfl W3.out
 have R:=Lib.hid h5
 clear h4 h5
 go_wp2
 go_ret
 exact R.out
set_option maxHeartbeats 1000000 in
theorem RSame_any(A B:Option Addr)(n m c d:Nat)(a b:Nat)(w:World)(hn:n≤1000)(hm:m≤1000)(ha:Sl w A n (nl (dg a)))(hb:Sl w B m (nl (dg b))) :
  Calls Tryz.prog 52 #[.slice A n c,.slice B m d] w fun e w'=>e=.returned (.bool (decide (a=b)))∧Below w.heap.size w w':=by
 have L1:=least_any A B n m c d a b w (by omega) (by omega) ha hb
 have HA:=Lib.hid ha
 have HB:=Lib.hid hb
 clear ha hb
 by_cases h1:a < b
 ·rw[decide_eq_true h1] at L1
  have L1:=Lib.hid L1
  have HE:=Lib.hid (show decide (a=b)=false from decide_eq_false (by omega))
  clear h1
  go_enter Tryz.func52,Tryz.ntmps52
  go_wp2_with fail
  (with_reducible refine L1.out.mono ?_)
  rintro e w1 ⟨rfl,hb1⟩
  go_wp2_with fail
  go_ret
  exact⟨ret_bool HE.out.symm,hb1⟩
 ·rw[decide_eq_false h1] at L1
  have L1:=Lib.hid L1
  have H1:=Lib.hid h1
  clear h1
  go_enter Tryz.func52,Tryz.ntmps52
  go_wp2_with fail
  (with_reducible refine L1.out.mono ?_)
  rintro e w1 ⟨rfl,hb1⟩
  have W1:=Lib.hid hb1
  have L2:=least_any B A m n d c b a w1 (by omega) (by omega) (HB.out.below hb1) (HA.out.below hb1)
  clear hb1
  by_cases h2:b < a
  ·rw[decide_eq_true h2] at L2
   have L2:=Lib.hid L2
   have HE:=Lib.hid (show decide (a=b)=false from decide_eq_false (by omega))
   clear h2
   go_wp2_with fail
   (with_reducible refine L2.out.mono ?_)
   rintro e w2 ⟨rfl,hb2⟩
   have W2:=Lib.hid (bel_nx W1.out (Nat.le_refl _) hb2)
   clear hb2
   go_wp2_with fail
   go_ret
   exact⟨ret_bool HE.out.symm,W2.out⟩
  ·rw[decide_eq_false h2] at L2
   have L2:=Lib.hid L2
   have HE:=Lib.hid (show decide (a=b)=true from decide_eq_true (by have:=H1.out;omega))
   clear h2
   go_wp2_with fail
   (with_reducible refine L2.out.mono ?_)
   rintro e w2 ⟨rfl,hb2⟩
   have W2:=Lib.hid (bel_nx W1.out (Nat.le_refl _) hb2)
   clear hb2
   go_wp2_with fail
   go_ret
   exact⟨ret_bool HE.out.symm,W2.out⟩
end Go.Proofs.YtjimhjfjfpeojaaGreatDoor.Fd
namespace Go.Proofs.YtjimhjfjfpeojaaGreatDoor.Fd
open Go.RowKit Go.Proofs.YtjimhjfjfpeojaaGreatDoor.Gn Go.Deep
def hzB(B:Nat)(x:E5)(j:Nat):Nat:=(x.l.drop j).foldr (fun a s=>a+s*B) 0
theorem hzB_step(B:Nat)(x:E5)(p:Nat)(hp:p < 5):hzB B x p=hzB B x (p+1)*B+x.l.getD p 0:=by
 obtain⟨a,b,c,d,e⟩:=x
 unfold hzB E5.l
 match p,hp with
 |0,_=>simp only[List.drop_zero,List.drop_succ_cons,List.foldr_cons,List.foldr_nil,List.getD_cons_zero];omega
 |1,_=>simp only[List.drop_zero,List.drop_succ_cons,List.foldr_cons,List.foldr_nil,List.getD_cons_succ,List.getD_cons_zero];omega
 |2,_=>simp only[List.drop_zero,List.drop_succ_cons,List.foldr_cons,List.foldr_nil,List.getD_cons_succ,List.getD_cons_zero];omega
 |3,_=>simp only[List.drop_zero,List.drop_succ_cons,List.foldr_cons,List.foldr_nil,List.getD_cons_succ,List.getD_cons_zero];omega
 |4,_=>simp only[List.drop_zero,List.drop_succ_cons,List.foldr_cons,List.foldr_nil,List.getD_cons_succ,List.getD_cons_zero];omega
theorem hzB_five(B:Nat)(x:E5):hzB B x 5=0:=rfl
theorem hzB_get(B:Nat)(x:E5):hzB B x 0=(((x.e*B+x.d)*B+x.c)*B+x.b)*B+x.a:=by
 rw[hzB_step B x 0 (by decide),hzB_step B x 1 (by decide),hzB_step B x 2 (by decide),hzB_step B x 3 (by decide),hzB_step B x 4 (by decide),hzB_five,Nat.zero_mul,Nat.zero_add]
 rfl
def b51:Nat:=2251799813685248
theorem b51_eq:b51=2251799813685248:=rfl
attribute [irreducible] b51
def hz(x:E5)(j:Nat):Nat:=hzB b51 x j
theorem hz_step(x:E5)(p:Nat)(hp:p < 5):hz x p=hz x (p+1)*b51+x.l.getD p 0:=hzB_step b51 x p hp
theorem hz_five(x:E5):hz x 5=0:=hzB_five b51 x
theorem hz_zero(x:E5):hz x 0=x.val:=by
 have h:=hzB_get b51 x
 have v:=E5.val_horner x
 rw[←b51_eq] at v
 exact h.trans v
theorem fold_lt(B C:Nat)(hB:B≤C)(hC:0 < C):∀(n:Nat) (l:List Nat),l.length≤n→(∀a∈l,a < C)→l.foldr (fun a s=>a+s*B) 0 < C ^ (n+1):=by
 intro n
 induction n with
 |zero=>intro l hl ha;obtain rfl:l=[]:=List.length_eq_zero_iff.1 (by omega);simpa using hC
 |succ n ih =>
  intro l hl ha
  cases l with
  |nil=>exact Nat.pow_pos hC
  |cons a l =>
   have h1:=ih l (by simpa using hl) (fun y hy=>ha y (List.mem_cons_of_mem _ hy))
   have h2:=ha a List.mem_cons_self
   rw[List.foldr_cons,Nat.pow_succ]
   generalize l.foldr (fun a s=>a+s*B) 0=s at *
   have h3:=Nat.mul_le_mul_left s hB
   have h4:=Nat.mul_le_mul_right C (show s+1≤C ^ (n+1) from h1)
   rw[Nat.add_mul] at h4
   omega
theorem big6:(18446744073709551616:Nat) ^ 6≤65536 ^ 25:=by decide
theorem E5.ok_mem{x:E5}(hx:x.ok):∀a∈x.l,a < 18446744073709551616:=by
 intro a ha
 obtain⟨h0,h1,h2,h3,h4⟩:=hx
 simp only[E5.l,List.mem_cons,List.not_mem_nil,or_false] at ha
 rcases ha with rfl|rfl|rfl|rfl|rfl <;> assumption
theorem hz_le(x:E5)(hx:x.ok)(j:Nat):hz x j < 65536 ^ 25:=by
 refine Nat.lt_of_lt_of_le (fold_lt b51 18446744073709551616 (by rw[b51_eq];decide) (by decide) 5 (x.l.drop j) ?_ ?_) big6
 ·rw[List.length_drop];have:x.l.length=5:=rfl;omega
 ·exact fun a ha=>E5.ok_mem hx a (List.mem_of_mem_drop ha)
theorem hz_mul_le(x:E5)(hx:x.ok)(j:Nat):hz x j*b51 < 65536 ^ 29:=by
 rw[b51_eq]
 have:=hz_le x hx j
 have:(65536:Nat) ^ 29=65536 ^ 25*18446744073709551616:=by decide
 omega
def OfRel(x:E5)(w0:World)(o i:Value)(wr:World):Prop :=
 ∃(j k c:Nat) (A:Option Addr),j≤5∧i=.int .i64 ((j:Int) - 1)∧o=.slice A k c∧Sl wr A k (nl (dg (hz x j)))∧k≤c∧Below w0.heap.size w0 wr
def LdRel(limb:Nat)(w1:World)(l x:Value)(wr:World):Prop :=
 ∃(rem n:Nat) (t:List Nat),l=.int .u64 (rem:Int)∧t.length=n∧Dg t∧vl t+65536 ^ n*rem=limb∧n≤4∧wr.ownsRow w1.heap.size 24 1 x n (nl t)∧Below w1.heap.size w1 wr
theorem ld_step(t:List Nat)(n rem limb:Nat)(ht:t.length=n)(hv:vl t+65536 ^ n*rem=limb):vl (t ++ [rem%65536])+65536 ^ (n+1)*(rem / 65536)=limb:=by
 rw[vl_append,ht,←hv,vl_cons,vl_nil,Nat.pow_succ,Nat.mul_assoc,Nat.mul_zero,Nat.add_zero,Nat.add_assoc,←Nat.mul_add,Nat.mod_add_div]
theorem ld_short(t:List Nat)(n rem limb:Nat)(hl:limb < 18446744073709551616)(h0:0 < rem)(hn:n≤4)(hv:vl t+65536 ^ n*rem=limb):n≤3:=by
 rcases Nat.lt_or_ge n 4 with h|h
 ·omega
 ·obtain rfl:n=4:=by omega
  rw[show(65536:Nat) ^ 4=18446744073709551616 from rfl] at hv
  omega
set_option maxHeartbeats 4000000 in
set_option maxRecDepth 100000 in
theorem Of_any(x:E5)(w:World)(hx:x.ok) :
  Calls Tryz.prog 51 #[.agg x.v] w (RetN (x.val%pp) w):=by
 obtain⟨i0,hi,hz0,hz1,hz2⟩:=info_parts info64
 have HX:=Lib.hid hx
 have B0:=Lib.hid (Bl.new_ w 26 x.v)
 have D0:=Lib.hid ((Below.refl w.heap.size w).alloc (Nat.le_refl _) (.cells x.v 26))
 clear hx
 go_enter Tryz.func51,Tryz.ntmps51
 go_wp2_with fail
 change Code.wp _ _ _ _ (w.alloc (.cells x.v 26))
 generalize w.alloc (.cells x.v 26)=w0 at B0 D0 ⊢
 have R0:=Lib.hid (show OfRel x w0 (.slice none 0 0) (.int .i64 4) w0 from⟨5,0,0,none,Nat.le_refl _,rfl,rfl,by rw[hz_five,dg_zero];exact Sl.nil_ _ _,Nat.le_refl _,Below.refl _ _⟩)
 go_loopw [3,4] (fun o i wr=>OfRel x w0 o i wr) (fun _ i _=>(intOf i+1).toNat)
 case atStart=>exact R0.out
 case round =>
  clear R0
  obtain⟨wq,rfl⟩:∃wq:World,wq=wr:=⟨_,rfl⟩
  obtain⟨j,k,c,A,hj,rfl,rfl,hsl,hkc,hbw⟩:=hrel
  have S0:=Lib.hid hsl
  have W0:=Lib.hid hbw
  have K0:=Lib.hid (show k≤25 by rw[←sl_len hsl];exact dg_len' (hz_le x HX.out j))
  clear hsl hbw
  rcases j with _|p
  ·have K1:=Lib.hid (show k≤1000 from Nat.le_trans K0.out (by decide))
   go_wp2_with fail
   (with_reducible refine(Mod_any A k c (hz x 0) wq K1.out hkc S0.out).mono ?_)
   intro e w2 h2
   have R2:=Lib.hid (h2.of (show hz x 0%pp=x.val%pp by rw[hz_zero]) (bel_nx D0.out (Nat.le_refl _) W0.out))
   clear h2
   obtain⟨A2,k2,c2,rfl,h3,h4,h5⟩:=R2.out
   have R3:=Lib.hid (show RetN (x.val%pp) w (.returned (.slice A2 k2 c2)) w2 from R2.out)
   clear R2 h3 h4 h5
   go_wp2
   go_ret
   exact R3.out
  ·have e:(((p+1:Nat):Int) - 1)=(p:Int):=by omega
   rw[e]
   clear e
   have p5:(p:Int) < 5:=by omega
   have p0:(0:Int)≤(p:Int):=by omega
   have A8:=(Below.refl wq.heap.size wq).alloc (Nat.le_refl _) (.cells #[.int .u64 0,.int .u64 0,.int .u64 0,.int .u64 8] 24)
   have S8:=Lib.hid (show Sl (wq.alloc (.cells #[.int .u64 0,.int .u64 0,.int .u64 0,.int .u64 8] 24)) (some ⟨wq.heap.size,0,none⟩) 4 (nl [0,0,0,8]) from nl_sl (Bl.new_ wq 24 (nl [0,0,0,8]).toArray) rfl)
   have S1:=Lib.hid (S0.out.below A8)
   have W1:=Lib.hid (bel_nx W0.out (Nat.le_refl _) A8)
   clear A8
   go_wp2_with fail
   (with_reducible refine(times_any A _ k 4 c 4 (dg (hz x (p+1))) [0,0,0,8] _ (by have:=K0.out;omega) (by decide) (dg_dg _) (by unfold Dg;decide) S1.out S8.out).mono ?_)
   rintro e w2 ⟨A2,k2,c2,rfl,h21,h22,h23⟩
   rw[vl_dg,vl_51,←b51_eq] at h21
   have K2:=Lib.hid (show k2≤29 by rw[←sl_len h21];exact dg_len' (hz_mul_le x HX.out (p+1)))
   have T2:=Lib.hid h21
   have W2:=Lib.hid (W1.out.trans (h23.mono W1.out.size))
   have hx2:=B0.out.below' W2.out
   obtain⟨limb,hlimb⟩:∃limb,x.l.getD p 0=limb:=⟨_,rfl⟩
   have cl:=hx2.cell_ (x.v_get (show p < 5 by omega))
   rw[hlimb] at cl
   have LB:=Lib.hid (show limb < 18446744073709551616 by
    obtain⟨h0,h1,h2,h3,h4⟩:=HX.out
    rw[←hlimb]
    have hp5:p < 5:=by omega
    match p,hp5 with
    |0,_=>exact h0
    |1,_=>exact h1
    |2,_=>exact h2
    |3,_=>exact h3
    |4,_=>exact h4)
   have HLB:=Lib.hid hlimb
   clear h21 h23 hx2 hlimb S1 S8 W1
   have L0:=Lib.hid (show LdRel limb w2 (.int .u64 (limb:Int)) (.slice none 0 0) w2 from⟨limb,0,[],rfl,rfl,Dg.nil,by simp[vl_nil],Nat.zero_le _,own_nil _ _ _,Below.refl _ _⟩)
   go_wp2_with fail
   clear cl
   go_loopw [5,6] (fun l x wx=>LdRel limb w2 l x wx) (fun l _ _=>(intOf l).toNat)
   case atStart=>exact L0.out
   case round =>
    clear L0
    obtain⟨rem,n,t,rfl,htl,htd,htv,hn4,hown,hbw⟩:=hrel
    have HO:=Lib.hid hown
    have HW:=Lib.hid hbw
    have TL:=Lib.hid htl
    have TD:=Lib.hid htd
    have TV:=Lib.hid htv
    obtain⟨A3,cap3,rfl,hsl3,hnil3,hlc3,hmax3,hA3⟩:=Sl.own hown
    have S3:=Lib.hid hsl3
    have HA3:=Lib.hid hA3
    clear hown hbw htl htd htv hsl3 hnil3 hmax3 hA3
    by_cases h0:0 < rem
    ·have n3:n≤3:=ld_short t n rem limb LB.out h0 hn4 TV.out
     obtain⟨r,hr⟩:∃r,r=rem%65536:=⟨_,rfl⟩
     obtain⟨q,hq⟩:∃q,q=rem / 65536:=⟨_,rfl⟩
     have er:(rem:Int)%65536=(r:Int):=by omega
     have eq:(rem:Int) / 65536=(q:Int):=by omega
     have ST:=Lib.hid (show vl (t ++ [r])+65536 ^ (n+1)*q=limb by rw[hr,hq];exact ld_step t n rem limb TL.out TV.out)
     have QL:=Lib.hid (show q < rem by omega)
     have RB:=Lib.hid (show r < 65536 by omega)
     have t0:decide (0 < rem)=true:=by simp;omega
     have rem64:rem < 18446744073709551616:=by
      have h1:=Nat.le_mul_of_pos_left rem (Nat.pow_pos (show 0 < 65536 by decide) (n:=n))
      have:=TV.out;have:=LB.out;omega
     have er':IntKind.u64.wrap (r:Int)=(r:Int):=by rw[IntKind.wrap_u64];omega
     have eq':IntKind.u64.wrap (q:Int)=(q:Int):=by rw[IntKind.wrap_u64];omega
     clear rem64
     clear hr hq h0
     go_wp2_with (at_builtin;refine wpList_append_sl rfl _ _ 32 rfl w2.heap.size 24 i0 _ 8 Tryz.underlying32 hi hz0 hz1 hz2 rfl _ n (nl t) rfl (own_below HO.out ((Below.refl _ _).alloc (Nat.le_refl _) _)) (some ⟨wr.heap.size,0,none⟩) 1 1 [.int .u64 (r:Int)] rfl (fun h=>by cases h) ?c1 ?c2 ?c3 ?c4 ?c5 ?_)
     case c1=>exact Sl.new_ wr _ [.int .u64 (r:Int)]
     case c2=>first|rfl|exact nl_one [r]
     case c3=>unfold maxLen;omega
     case c4=>omega
     case c5=>have:=HW.out.size;simp;omega
     intro v' w5 hown1 hgrow
     have HB5:=Lib.hid (show Below w2.heap.size w2 w5 from(HW.out.alloc HW.out.size _).grown hgrow (by have:=HW.out.size;simp;omega) (by
      intro g hg;simp only[Value.ownBlock] at hg;cases hA':A3 with
      |none=>rw[hA'] at hg;cases hg
      |some a=>rw[hA'] at hg;simp at hg;have:=HA3.out a hA';omega))
     have HO1:=Lib.hid (show w5.ownsRow w2.heap.size 24 1 v' (n+1) (nl (t ++ [r])) by rw[nl_append];exact hown1)
     clear hown1 hgrow er
     go_wp2_with fail
     go_roundw
     case rel=>exact⟨q,n+1,t ++ [r],rfl,by rw[List.length_append,TL.out];rfl,TD.out.append (.cons RB.out .nil),ST.out,by omega,HO1.out,HB5.out⟩
     case measure=>have:=QL.out;simp[intOf];omega
    ·obtain rfl:rem=0:=by omega
     have TVL:=Lib.hid (show vl t=limb by have:=TV.out;rw[Nat.mul_zero,Nat.add_zero] at this;exact this)
     have T3:=Lib.hid (T2.out.below HW.out)
     clear h0
     go_wp2_with fail
     (with_reducible refine(sum_any _ _ k2 n c2 cap3 (dg (hz x (p+1)*b51)) t _ (by have:=K2.out;omega) (by omega) (dg_dg _) TD.out T3.out S3.out).mono ?_)
     rintro e w4 ⟨A4,k4,c4,rfl,h41,h42,h43⟩
     rw[vl_dg,TVL.out,←HLB.out,←hz_step x p (by omega)] at h41
     have T4:=Lib.hid h41
     have W4:=Lib.hid (bel_nx W2.out (Nat.le_refl _) HW.out)
     have W5:=Lib.hid (bel_nx W4.out (Nat.le_refl _) h43)
     clear h41 h43
     go_wp2_with fail
     go_roundw
     case rel=>exact⟨p,k4,c4,A4,by omega,rfl,rfl,T4.out,h42,W5.out⟩
     case measure=>simp[intOf] <;> omega
end Go.Proofs.YtjimhjfjfpeojaaGreatDoor.Fd
