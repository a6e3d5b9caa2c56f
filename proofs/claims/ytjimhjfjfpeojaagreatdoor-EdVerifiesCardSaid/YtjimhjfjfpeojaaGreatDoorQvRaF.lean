/- Joined texts. -/
import Derived.Test.YtjimhjfjfpeojaaGreatDoorQvRaA
import Derived.Test.YtjimhjfjfpeojaaGreatDoorQvRaD
import Derived.Test.YtjimhjfjfpeojaaGreatDoorQvRaE
set_option maxRecDepth 100000
set_option maxHeartbeats 8000000
set_option linter.unusedVariables false
namespace Go.Proofs.YtjimhjfjfpeojaaGreatDoor.Fd
open Go.RowKit Go.Proofs.YtjimhjfjfpeojaaGreatDoor.Gn Go.Deep
theorem Zk5{w a b:World}(h:Below w.heap.size w a)(k:Below a.heap.size a b):Below w.heap.size w b:=h.trans (k.mono h.size)
def hf(m i:Nat):List Nat:=(List.range i).map fun j=>(m / 2) / 65536 ^ j%65536
theorem Zex(m i x:Nat)(hx:x=(m / 2) / 65536 ^ i%65536):hf m i ++ [x]=hf m (i+1):=by unfold hf;rw[List.range_succ,List.map_append,hx];rfl
theorem Zsc(m i:Nat):Dg (hf m i):=by
 intro x hx
 obtain⟨j,-, rfl⟩:=List.mem_map.1 hx
 exact Nat.mod_lt _ (by decide)
theorem Zpf(m k:Nat)(h:m < 65536 ^ k):vl (hf m k)=m / 2:=by
 have e:hf m k=dgk (m / 2) k k:=by
  unfold hf dgk
  apply List.map_congr_left
  intro j hj
  rw[if_pos (List.mem_range.1 hj)]
 rw[e]
 exact Z66 (Nat.lt_of_le_of_lt (Nat.div_le_self _ _) h)
theorem Zi5(m j:Nat):(m / 2) / 65536 ^ j%65536=(dg m).getD j 0 / 2+(dg m).getD (j+1) 0%2*32768:=by
 have:=Z67 (dg m) (Z0o m) 0 j 1 2 32768 rfl rfl
 rwa [Z0l,Nat.pow_zero,Nat.one_mul,Nat.zero_add] at this
theorem Z5d(M t:Nat):M / 2 ^ t / 2=M / 2 ^ (t+1):=by rw[Nat.div_div_eq_div_mul,Nat.pow_succ]
def Zpg(M T:Nat)(w0:World)(a n:Value)(wr:World):Prop :=
 ∃(t k c:Nat) (A:Option Addr),t≤T∧n=.int .i64 ((T - t:Nat):Int)∧a=.slice A k c∧Sl wr A k (nl (dg (M / 2 ^ t)))∧k≤c∧k≤100∧Below w0.heap.size w0 wr
def Zk6(m k:Nat)(w1:World)(o i:Value)(wr:World):Prop :=
 ∃j:Nat,j≤k∧i=.int .i64 (j:Int)∧wr.ownsRow w1.heap.size 24 1 o j (nl (hf m j))∧Below w1.heap.size w1 wr
theorem half_any(A:Option Addr)(n c T:Nat)(M:Nat)(w:World)(hn:n≤100)(hc:n≤c)(hT:T≤1000)(ha:Sl w A n (nl (dg M))) :
  Calls Tryz.prog 116 #[.slice A n c,.int .i64 (T:Int)] w (RetN (M / 2 ^ T) w):=by
 obtain⟨i0,hi,hz0,hz1,hz2⟩:=info_parts info64
 have R0:=Lib.hid (show Zpg M T w (.slice A n c) (.int .i64 (T:Int)) w from⟨0,n,c,A,Nat.zero_le _,rfl,rfl,by rw[Nat.pow_zero,Nat.div_one];exact ha,hc,hn,Below.refl _ _⟩)
 clear ha hn hc
 go_enter Tryz.func116,Tryz.ntmps116
 go_wp2_with fail
 go_loopw [0,1] (fun a n wr=>Zpg M T w a n wr) (fun _ n _=>(intOf n).toNat)
 case atStart=>exact R0.out
 case round =>
  clear R0
  obtain⟨wq,rfl⟩:∃wq:World,wq=wr:=⟨_,rfl⟩
  obtain⟨t,k,c,A,ht,rfl,rfl,hsl,hkc,hk,hbw⟩:=hrel
  have S0:=Lib.hid hsl
  have W0:=Lib.hid hbw
  have HK:=Lib.hid (Z09 hsl)
  obtain⟨u,hu⟩:∃u,T - t=u:=⟨_,rfl⟩
  have HU:=Lib.hid hu
  rw[hu]
  clear hsl hbw hu
  by_cases h0:0 < u
  ·have t0:decide (0 < u)=true:=by simp;omega
   have ub:u≤1000:=by have:=HU.out;omega
   obtain⟨m,hm⟩:∃m,M / 2 ^ t=m:=⟨_,rfl⟩
   rw[hm] at S0 HK
   have HM:=Lib.hid hm
   have L0:=Lib.hid (show Zk6 m k wq (.slice none 0 0) (.int .i64 0) wq from⟨0,Nat.zero_le _,rfl,Z4v _ _ _,Below.refl _ _⟩)
   clear hm
   go_wp2_with fail
   go_loopw [5,6] (fun o i wx=>Zk6 m k wq o i wx) (fun _ i _=>k - (intOf i).toNat)
   case atStart=>exact L0.out
   case round =>
    clear L0
    obtain⟨j,hj,rfl,hown,hbw⟩:=hrel
    have HO:=Lib.hid hown
    have HW:=Lib.hid hbw
    obtain⟨A3,cap3,rfl,hsl3,hnil3,hlc3,hmax3,hA3⟩:=Sl.own hown
    have S3:=Lib.hid hsl3
    have HA3:=Lib.hid hA3
    clear hown hbw hsl3 hnil3 hmax3 hA3
    by_cases hlt:j < k
    ·obtain⟨ad,rfl,-⟩:=(S0.out.below HW.out).at_ hlt
     obtain⟨a,ha⟩:∃a,a=(dg m).getD j 0:=⟨_,rfl⟩
     have ca:=sl_num (S0.out.below HW.out) hlt
     rw[←ha] at ca
     have ab:a < 65536:=by rw[ha];exact(Z0o m).get j
     obtain⟨a1,ha1⟩:∃a1,a1=a / 2:=⟨_,rfl⟩
     have ea1:(a:Int) / 2=(a1:Int):=by omega
     have a1b:a1 < 32768:=by omega
     obtain⟨j1,hj1⟩:∃j1,j1=j+1:=⟨_,rfl⟩
     have ej1:(j:Int)+1=(j1:Int):=by omega
     have DG:=Zi5 m j
     rw[←ha,←ha1,←hj1] at DG
     have j1k:j1≤k:=by omega
     by_cases hlt1:j1 < k
     ·obtain⟨b,hb⟩:∃b,b=(dg m).getD j1 0:=⟨_,rfl⟩
      have cb:=sl_num (S0.out.below HW.out) hlt1
      rw[←hb] at cb
      have bb:b < 65536:=by rw[hb];exact(Z0o m).get j1
      obtain⟨b1,hb1⟩:∃b1,b1=b%2:=⟨_,rfl⟩
      have eb1:(b:Int)%2=(b1:Int):=by omega
      obtain⟨b2,hb2⟩:∃b2,b2=b1*32768:=⟨_,rfl⟩
      have eb2:(b1:Int)*32768=(b2:Int):=by omega
      obtain⟨v,hv⟩:∃v,v=a1+b2:=⟨_,rfl⟩
      have ev:(a1:Int)+(b2:Int)=(v:Int):=by omega
      have b1b:b1 < 2:=by omega
      have b2b:b2 < 65536:=by omega
      have ST:=Lib.hid (show hf m j ++ [v]=hf m j1 by rw[hj1];exact Zex m j v (by rw[DG,←hb,←hb1,hv,hb2]))
      have HJ1:=Lib.hid hj1
      clear hj1 ha ha1 hb hb1 hb2 hv DG
      go_wp2_with (at_builtin;refine Z0i rfl _ _ 32 rfl wq.heap.size 24 i0 _ 8 Tryz.underlying32 hi hz0 hz1 hz2 rfl _ j (nl (hf m j)) rfl (own_below HO.out ((Below.refl _ _).alloc (Nat.le_refl _) _)) (some ⟨wr.heap.size,0,none⟩) 1 1 [.int .u64 (v:Int)] rfl (fun h=>by cases h) ?c1 ?c2 ?c3 ?c4 ?c5 ?_)
      case c1=>exact Sl.new_ wr _ [.int .u64 (v:Int)]
      case c2=>first|rfl|exact nl_one [v]
      case c3=>unfold maxLen;omega
      case c4=>omega
      case c5=>have:=HW.out.size;simp;omega
      intro v' w5 hown1 hgrow
      have HB5:=Lib.hid (show Below wq.heap.size wq w5 from(HW.out.alloc HW.out.size _).grown hgrow (by have:=HW.out.size;simp;omega) (by
       intro g hg;simp only[Value.ownBlock] at hg;cases hA':A3 with
       |none=>rw[hA'] at hg;cases hg
       |some a=>rw[hA'] at hg;simp at hg;have:=HA3.out a hA';omega))
      have HO1:=Lib.hid (show w5.ownsRow wq.heap.size 24 1 v' (j+1) (nl (hf m j1)) by rw[←ST.out,nl_append];exact hown1)
      clear hown1 hgrow ea1 eb1 eb2 ev ca cb
      go_wp2_with fail
      go_roundw
      case rel=>exact⟨j1,j1k,rfl,by have h:=HO1.out;rw[←HJ1.out] at h;exact h,HB5.out⟩
      case measure=>have:=HJ1.out;simp[intOf];omega
     ·have ST:=Lib.hid (show hf m j ++ [a1]=hf m j1 by rw[hj1];exact Zex m j a1 (by rw[DG,Z4h (dg m) j1 (by rw[HK.out];omega)];simp))
      have HJ1:=Lib.hid hj1
      clear hj1 ha ha1 DG
      go_wp2_with (at_builtin;refine Z0i rfl _ _ 32 rfl wq.heap.size 24 i0 _ 8 Tryz.underlying32 hi hz0 hz1 hz2 rfl _ j (nl (hf m j)) rfl (own_below HO.out ((Below.refl _ _).alloc (Nat.le_refl _) _)) (some ⟨wr.heap.size,0,none⟩) 1 1 [.int .u64 (a1:Int)] rfl (fun h=>by cases h) ?c1 ?c2 ?c3 ?c4 ?c5 ?_)
      case c1=>exact Sl.new_ wr _ [.int .u64 (a1:Int)]
      case c2=>first|rfl|exact nl_one [a1]
      case c3=>unfold maxLen;omega
      case c4=>omega
      case c5=>have:=HW.out.size;simp;omega
      intro v' w5 hown1 hgrow
      have HB5:=Lib.hid (show Below wq.heap.size wq w5 from(HW.out.alloc HW.out.size _).grown hgrow (by have:=HW.out.size;simp;omega) (by
       intro g hg;simp only[Value.ownBlock] at hg;cases hA':A3 with
       |none=>rw[hA'] at hg;cases hg
       |some a=>rw[hA'] at hg;simp at hg;have:=HA3.out a hA';omega))
      have HO1:=Lib.hid (show w5.ownsRow wq.heap.size 24 1 v' (j+1) (nl (hf m j1)) by rw[←ST.out,nl_append];exact hown1)
      clear hown1 hgrow ea1 ca
      go_wp2_with fail
      go_roundw
      case rel=>exact⟨j1,j1k,rfl,by have h:=HO1.out;rw[←HJ1.out] at h;exact h,HB5.out⟩
      case measure=>have:=HJ1.out;simp[intOf];omega
    ·obtain rfl:j=k:=by omega
     have HV:=Lib.hid (show vl (hf m j)=M / 2 ^ (t+1) by
      rw[Zpf m j ((dg_len m j).1 (by rw[HK.out];exact Nat.le_refl _)),←HM.out,Z5d])
     have WW:=Lib.hid (Zk5 W0.out HW.out)
     go_wp2_with fail
     (with_reducible refine(Z1u A3 j cap3 (hf m j) _ (by omega) hlc3 (Zsc _ _) S3.out).mono ?_)
     rintro e w5 ⟨A5,k5,c5,rfl,h51,h52,h53⟩
     rw[HV.out] at h51
     have T5:=Lib.hid h51
     have K5:=Lib.hid (show k5≤100 by
      rw[←Z09 h51,←Z5d,HM.out]
      refine Nat.le_trans (Z1c (k:=j) ?_) hk
      exact Nat.lt_of_le_of_lt (Nat.div_le_self _ _) ((dg_len m j).1 (by rw[HK.out];exact Nat.le_refl _)))
     have W5:=Lib.hid (Zk5 WW.out h53)
     obtain⟨u1,hu1⟩:∃u1,u1=u - 1:=⟨_,rfl⟩
     have eu1:(u:Int) - 1=(u1:Int):=by omega
     have HU1:=Lib.hid hu1
     clear h51 h53 hu1
     go_wp2_with fail
     go_roundw
     case rel=>exact⟨t+1,k5,c5,A5,by have:=HU.out;omega,by rw[show T - (t+1)=u1 by have:=HU.out;have:=HU1.out;omega],rfl,T5.out,h52,K5.out,W5.out⟩
     case measure=>have:=HU1.out;simp[intOf];omega
  ·obtain rfl:u=0:=by omega
   have TT:=Lib.hid (show t=T by have:=HU.out;omega)
   go_wp2_with fail
   go_ret
   exact⟨A,k,c,rfl,by rw[←TT.out];exact S0.out,hkc,W0.out⟩
theorem Z91(v:Nat):(dg v).getD 0 0%2=v%2:=by rw[Z73,Nat.pow_zero,Nat.div_one];omega
theorem Z82{t:Nat}(h:t%2=0):ev t=t:=by unfold ev;rw[if_neg (by omega)]
theorem Zey{t:Nat}(ht:t < pp)(h:t%2=1):ev t=(0+(pp - t))%pp:=by unfold ev ng;rw[if_pos h,Nat.mod_eq_of_lt ht,Nat.zero_add]
def RRQ(o:Option Nat)(w:World)(e:Ending)(w':World):Prop:=∃A k c s b,e=.returned (.tuple #[.slice A k c,.bool b])∧Sl w' A k (nl (dg s))∧s < pp∧s=o.getD 0∧b=o.isSome∧Below w.heap.size w w'
theorem Zcu(A B:Option Addr)(n m c d:Nat)(u:Nat)(w:World)(o:Option Nat)(ho:o=if u=0 then some 0 else none)(ha:Sl w A n (nl (dg u)))(hb:Sl w B m (nl (dg 0))) :
  Calls Tryz.prog 89 #[.slice A n c,.slice B m d] w (RRQ o w):=by
 have hm:m=0:=by rw[←Z09 hb,Z0r];rfl
 subst hm
 obtain⟨b,hb⟩:∃b,((n:Int) == 0)=b:=⟨_,rfl⟩
 have HN:=Lib.hid (Z09 ha)
 have HO:=Lib.hid (show o.getD 0=0∧o.isSome=b by
  have hl:=Z09 ha
  by_cases h:u=0
  ·subst h
   rw[Z0r] at hl
   have:n=0:=hl.symm
   subst this
   rw[ho,←hb];exact⟨rfl,rfl⟩
  ·have:n≠0:=fun e=>h (Z2z.1 (hl.trans e))
   rw[ho,if_neg h,←hb]
   refine⟨rfl,?_⟩
   have:((n:Int) == 0)=false:=by simp;omega
   rw[this];rfl)
 clear ha ho
 go_enter Tryz.func89,Tryz.ntmps89
 go_wp2
 go_ret2
 exact⟨none,0,0,0,b,rfl,by rw[Z0r];exact Sl.nil_ _ _,Z1y,HO.out.1.symm,HO.out.2.symm,Below.refl _ _⟩
theorem Zcv (A B : Option Addr) (n m c d : Nat) (u v qi q r z E1 E2 : Nat) (b1 b2 : List Nat) (w : World) (o : Option Nat) (hu : u < pp) (hv0 : v ≠ 0) (hqi : qi < pp) (hq : u * qi % pp = q) (hr : r < pp) (hz : z < pp)
    (hE1 : (pp + 3) / 2 ^ 3 = E1) (hb1 : by_ E1 32 = b1) (hE2 : (pp - 1) / 2 ^ 2 = E2) (hb2 : by_ E2 32 = b2)
    (INV : ∀ w', Sl w' B m (nl (dg v)) → Calls Tryz.prog 100 #[.slice B m d] w' (RetN qi w'))
    (PW1 : ∀ A' B' k c' w', k ≤ 16 → Sl w' A' k (nl (dg q)) → Sl w' B' 32 (bl b1) → Calls Tryz.prog 115 #[.slice A' k c', .slice B' 32 32] w' (RetN r w'))
    (PW2 : ∀ A' B' w', Sl w' A' 1 (nl [2]) → Sl w' B' 32 (bl b2) → Calls Tryz.prog 115 #[.slice A' 1 1, .slice B' 32 32] w' (RetN z w'))
    (ho : ∀ t, t = (if r * r % pp = q then r else r * z % pp) → o = if t * t % pp = q then some (ev t) else none)
    (ha : Sl w A n (nl (dg u))) (hb : Sl w B m (nl (dg v))) :
    Calls Tryz.prog 89 #[.slice A n c, .slice B m d] w (RRQ o w) := by
  have HU := Lib.hid hu
  have HE1 := Lib.hid hE1
  have HE2 := Lib.hid hE2
  have HB1 := Lib.hid hb1
  have HB2 := Lib.hid hb2
  have HRL := Lib.hid hr
  have HZ := Lib.hid hz
  have INV := Lib.hid INV
  have PW1 := Lib.hid PW1
  have PW2 := Lib.hid PW2
  have HO := Lib.hid ho
  have HQ := Lib.hid hq
  have HQI := Lib.hid hqi
  have SA := Lib.hid ha
  have SB := Lib.hid hb
  have KA := Lib.hid (show n ≤ 16 by rw [← Z09 ha]; exact len16 hu)
  have tm : ((m : Int) == 0) = false := by
    have : m ≠ 0 := fun e => hv0 (Z2z.1 ((Z09 hb).trans e))
    simp; omega
  clear hu hE1 hE2 hb1 hb2 hr hz ho hq hqi ha hb hv0
  go_enter Tryz.func89, Tryz.ntmps89
  go_wp2_with fail
  (with_reducible refine (INV.out _ SB.out).mono ?_)
  rintro e w1 ⟨A1, k1, c1, rfl, h11, h12, h13⟩
  have W1 := Lib.hid h13
  have SA1 := Lib.hid (SA.out.below h13)
  have MQ := Z2d A A1 n k1 c c1 u qi w1 KA.out (by rw [← Z09 h11]; exact len16 HQI.out) SA1.out h11
  rw [HQ.out] at MQ
  have MQ := Lib.hid MQ
  clear h11 h13
  go_wp2_with fail
  (with_reducible refine MQ.out.mono ?_)
  rintro e w2 ⟨Aq, kq, cq, rfl, h21, h22, h23⟩
  have TQ := Lib.hid h21
  have QL := Lib.hid (show q < pp by rw [← HQ.out]; exact mod_lt _)
  have KQ := Lib.hid (show kq ≤ 16 by rw [← Z09 h21]; exact len16 QL.out)
  have W2 := Lib.hid (Z0g W1.out (Nat.le_refl _) h23)
  clear h21 h23 MQ SA1
  go_wp2_with fail
  (with_reducible refine (Zai w2).mono ?_)
  rintro e w3 ⟨A3, k3, c3, rfl, h31, h32, h33⟩
  have K3 := Lib.hid (show k3 = 16 by rw [← Z09 h31, Z69]; rfl)
  have a4 := (Below.refl w3.heap.size w3).alloc (Nat.le_refl _) (.cells #[.int .u64 3] 24)
  have T4 := Lib.hid (h31.below a4)
  have S4 := Lib.hid (show Sl (w3.alloc (.cells #[.int .u64 3] 24)) (some ⟨w3.heap.size, 0, none⟩) 1 (nl [3]) from Z32 (Bl.new_ w3 24 (nl [3]).toArray) rfl)
  have W4 := Lib.hid (Z0g (Z0g W2.out (Nat.le_refl _) h33) (Nat.le_refl _) a4)
  have TQ4 := Lib.hid ((TQ.out.below h33).below a4)
  have SS := Z48 A3 _ k3 1 c3 1 (dg pp) [3] _ (by have := K3.out; omega) (by decide) (Z0o _) (by unfold Dg; decide) T4.out S4.out
  rw [Z0l, show vl [3] = 3 from rfl] at SS
  have SS := Lib.hid SS
  clear h31 h33 a4
  go_wp2_with fail
  (with_reducible refine SS.out.mono ?_)
  rintro e w5 ⟨A5, k5, c5, rfl, h51, h52, h53⟩
  have W5 := Lib.hid (W4.out.trans (h53.mono W4.out.size))
  have TQ5 := Lib.hid (TQ4.out.below h53)
  have p17 : pp + 3 < 65536 ^ 17 := by rw [Z1b]; decide
  have HH := half_any A5 k5 c5 3 (pp + 3) w5 (by rw [← Z09 h51]; exact Nat.le_trans (Z1c p17) (by decide)) h52 (by decide) h51
  rw [HE1.out] at HH
  have HH := Lib.hid (show Calls Tryz.prog 116 #[.slice A5 k5 c5, .int .i64 3] w5 (RetN E1 w5) from HH)
  have E1L := Lib.hid (show E1 < 65536 ^ 17 by rw [← HE1.out]; exact Nat.lt_of_le_of_lt (Nat.div_le_self _ _) p17)
  clear h51 h53 SS p17
  go_wp2_with fail
  (with_reducible refine HH.out.mono ?_)
  rintro e w6 ⟨A6, k6, c6, rfl, h61, h62, h63⟩
  have W6 := Lib.hid (Z0g W5.out (Nat.le_refl _) h63)
  have TQ6 := Lib.hid (TQ5.out.below h63)
  have BY := Z2o A6 k6 c6 32 (dg E1) w6 (by rw [← Z09 h61]; exact Nat.le_trans (Z1c E1L.out) (by decide)) (by decide) (Z0o _) h61
  rw [Z0l, HB1.out] at BY
  have BY := Lib.hid (show Calls Tryz.prog 39 #[.slice A6 k6 c6, .int .i64 32] w6 (RetY b1 w6) from BY)
  have B1L := Lib.hid (show b1.length = 32 by rw [← HB1.out, by_length])
  clear h61 h63 HH
  go_wp2_with fail
  (with_reducible refine BY.out.mono ?_)
  rintro e w7 ⟨g7, rfl, h71, h72, h73⟩
  rw [B1L.out]
  have W7 := Lib.hid (Z0g W6.out (Nat.le_refl _) h73)
  have TQ7 := Lib.hid (TQ6.out.below h73)
  have S7 := Lib.hid (Zlw h72 B1L.out)
  clear h71 h72 h73 BY
  go_wp2_with fail
  (with_reducible refine (PW1.out Aq _ kq cq w7 KQ.out TQ7.out S7.out).mono ?_)
  rintro e w8 ⟨A8, k8, c8, rfl, h81, h82, h83⟩
  have T8 := Lib.hid h81
  have K8 := Lib.hid (show k8 ≤ 16 by rw [← Z09 h81]; exact len16 HRL.out)
  have W8 := Lib.hid (Z0g W7.out (Nat.le_refl _) h83)
  have TQ8 := Lib.hid (TQ7.out.below h83)
  clear h81 h83
  have M8 := Lib.hid (Z2d A8 A8 k8 k8 c8 c8 r r w8 K8.out K8.out T8.out T8.out)
  go_wp2_with fail
  (with_reducible refine M8.out.mono ?_)
  rintro e w9 ⟨A9, k9, c9, rfl, h91, h92, h93⟩
  have W9 := Lib.hid (Z0g W8.out (Nat.le_refl _) h93)
  have TQ9 := Lib.hid (TQ8.out.below h93)
  have T89 := Lib.hid (T8.out.below h93)
  obtain ⟨bb, hbb⟩ : ∃ b, decide (r * r % pp = q) = b := ⟨_, rfl⟩
  have SM := Z6e A9 Aq k9 kq c9 cq (r * r % pp) q w9 (by rw [← Z09 h91]; exact Nat.le_trans (len16 (mod_lt _)) (by decide)) (Nat.le_trans KQ.out (by decide)) h91 TQ9.out
  rw [hbb] at SM
  have SM := Lib.hid SM
  have HBB := Lib.hid hbb
  clear h91 h93 M8 hbb
  go_wp2_with fail
  (with_reducible refine SM.out.mono ?_)
  rintro e w10 ⟨rfl, hx10⟩
  have W10 := Lib.hid (Z0g W9.out (Nat.le_refl _) hx10)
  have TQ10 := Lib.hid (TQ9.out.below hx10)
  have T10 := Lib.hid (T89.out.below hx10)
  clear hx10 SM
  cases bb
  · have HC := Lib.hid (of_decide_eq_false HBB.out)
    have a11 := (Below.refl w10.heap.size w10).alloc (Nat.le_refl _) (.cells #[.int .u64 2] 24)
    have S11 := Lib.hid (show Sl (w10.alloc (.cells #[.int .u64 2] 24)) (some ⟨w10.heap.size, 0, none⟩) 1 (nl [2]) from Z32 (Bl.new_ w10 24 (nl [2]).toArray) rfl)
    have W11 := Lib.hid (Z0g W10.out (Nat.le_refl _) a11)
    have TQ11 := Lib.hid (TQ10.out.below a11)
    have T11 := Lib.hid (T10.out.below a11)
    clear a11
    go_wp2_with fail
    (with_reducible refine (Zai _).mono ?_)
    rintro e w12 ⟨A12, k12, c12, rfl, h121, h122, h123⟩
    have K12 := Lib.hid (show k12 = 16 by rw [← Z09 h121, Z69]; rfl)
    have a13 := (Below.refl w12.heap.size w12).alloc (Nat.le_refl _) (.cells #[.int .u64 1] 24)
    have T13 := Lib.hid (h121.below a13)
    have S13 := Lib.hid (show Sl (w12.alloc (.cells #[.int .u64 1] 24)) (some ⟨w12.heap.size, 0, none⟩) 1 (nl [1]) from Z32 (Bl.new_ w12 24 (nl [1]).toArray) rfl)
    have W13 := Lib.hid (Z0g (W11.out.trans (h123.mono W11.out.size)) (Nat.le_refl _) a13)
    have TQ13 := Lib.hid ((TQ11.out.below h123).below a13)
    have TR13 := Lib.hid ((T11.out.below h123).below a13)
    have S213 := Lib.hid ((S11.out.below h123).below a13)
    have MM := Z2n A12 _ k12 1 c12 1 (dg pp) [1] _ (by have := K12.out; omega) (by have := K12.out; omega) (Z0o _) (by unfold Dg; decide) (by rw [Z0l]; exact Z1y) T13.out S13.out
    rw [Z0l, show vl [1] = 1 from rfl] at MM
    have MM := Lib.hid MM
    clear h121 h123 a13
    go_wp2_with fail
    (with_reducible refine MM.out.mono ?_)
    rintro e w14 ⟨A14, k14, c14, rfl, h141, h142, h143⟩
    have W14 := Lib.hid (W13.out.trans (h143.mono W13.out.size))
    have TQ14 := Lib.hid (TQ13.out.below h143)
    have TR14 := Lib.hid (TR13.out.below h143)
    have S214 := Lib.hid (S213.out.below h143)
    have HH := half_any A14 k14 c14 2 (pp - 1) w14 (by rw [← Z09 h141]; exact Nat.le_trans (len16 (Nat.sub_lt Z1y (by decide))) (by decide)) h142 (by decide) h141
    rw [HE2.out] at HH
    have HH := Lib.hid (show Calls Tryz.prog 116 #[.slice A14 k14 c14, .int .i64 2] w14 (RetN E2 w14) from HH)
    have E2L := Lib.hid (show E2 < pp by rw [← HE2.out]; exact Nat.lt_of_le_of_lt (Nat.div_le_self _ _) (Nat.sub_lt Z1y (by decide)))
    clear h141 h143 MM
    go_wp2_with fail
    (with_reducible refine HH.out.mono ?_)
    rintro e w15 ⟨A15, k15, c15, rfl, h151, h152, h153⟩
    have W15 := Lib.hid (Z0g W14.out (Nat.le_refl _) h153)
    have TQ15 := Lib.hid (TQ14.out.below h153)
    have TR15 := Lib.hid (TR14.out.below h153)
    have S215 := Lib.hid (S214.out.below h153)
    have BY := Z2o A15 k15 c15 32 (dg E2) w15 (by rw [← Z09 h151]; exact Nat.le_trans (len16 E2L.out) (by decide)) (by decide) (Z0o _) h151
    rw [Z0l, HB2.out] at BY
    have BY := Lib.hid (show Calls Tryz.prog 39 #[.slice A15 k15 c15, .int .i64 32] w15 (RetY b2 w15) from BY)
    have B2L := Lib.hid (show b2.length = 32 by rw [← HB2.out, by_length])
    clear h151 h153 HH
    go_wp2_with fail
    (with_reducible refine BY.out.mono ?_)
    rintro e w16 ⟨g16, rfl, h161, h162, h163⟩
    rw [B2L.out]
    have W16 := Lib.hid (Z0g W15.out (Nat.le_refl _) h163)
    have TQ16 := Lib.hid (TQ15.out.below h163)
    have TR16 := Lib.hid (TR15.out.below h163)
    have S216 := Lib.hid (S215.out.below h163)
    have S16 := Lib.hid (Zlw h162 B2L.out)
    clear h161 h162 h163 BY
    go_wp2_with fail
    (with_reducible refine (PW2.out _ _ w16 S216.out S16.out).mono ?_)
    rintro e w17 ⟨A17, k17, c17, rfl, h171, h172, h173⟩
    have W17 := Lib.hid (Z0g W16.out (Nat.le_refl _) h173)
    have TQ17 := Lib.hid (TQ16.out.below h173)
    have TR17 := Lib.hid (TR16.out.below h173)
    have MM := Lib.hid (Z2d A8 A17 k8 k17 c8 c17 r z w17 K8.out (by rw [← Z09 h171]; exact len16 HZ.out) TR17.out h171)
    clear h171 h173
    go_wp2_with fail
    (with_reducible refine MM.out.mono ?_)
    rintro e w18 ⟨A18, k18, c18, rfl, h181, h182, h183⟩
    have W18 := Lib.hid (Z0g W17.out (Nat.le_refl _) h183)
    have TQ18 := Lib.hid (TQ17.out.below h183)
    obtain ⟨t, ht⟩ : ∃ t, r * z % pp = t := ⟨_, rfl⟩
    rw [ht] at h181
    have T18 := Lib.hid h181
    have TL := Lib.hid (show t < pp by rw [← ht]; exact mod_lt _)
    have K18 := Lib.hid (show k18 ≤ 16 by rw [← Z09 h181]; exact len16 TL.out)
    have HO2 := Lib.hid (HO.out t (by rw [if_neg HC.out, ht]))
    clear h181 h183 MM ht
    have MR := Lib.hid (Z2d A18 A18 k18 k18 c18 c18 t t _ K18.out K18.out T18.out T18.out)
    go_wp2_with fail
    (with_reducible refine MR.out.mono ?_)
    rintro e x1 ⟨B1, m1, d1, rfl, h11, h12, h13⟩
    have X1 := Lib.hid (Z0g W18.out (Nat.le_refl _) h13)
    have TR1 := Lib.hid (T18.out.below h13)
    obtain ⟨b, hb⟩ : ∃ b, decide (t * t % pp = q) = b := ⟨_, rfl⟩
    have SM := Z6e B1 Aq m1 kq d1 cq (t * t % pp) q x1 (by rw [← Z09 h11]; exact Nat.le_trans (len16 (mod_lt _)) (by decide)) (Nat.le_trans KQ.out (by decide)) h11 (TQ18.out.below h13)
    rw [hb] at SM
    have SM := Lib.hid SM
    have HB := Lib.hid hb
    clear h11 h13 MR hb
    go_wp2_with fail
    (with_reducible refine SM.out.mono ?_)
    rintro e x2 ⟨rfl, hx2⟩
    have X2 := Lib.hid (Z0g X1.out (Nat.le_refl _) hx2)
    have TR2 := Lib.hid (TR1.out.below hx2)
    clear hx2 SM X1 TR1
    cases b
    · have HF := Lib.hid (of_decide_eq_false HB.out)
      go_wp2_with fail
      go_ret2
      exact ⟨none, 0, 0, 0, false, rfl, by rw [Z0r]; exact Sl.nil_ _ _, Z1y, by rw [HO2.out, if_neg HF.out]; rfl, by rw [HO2.out, if_neg HF.out]; rfl, X2.out⟩
    · have HT := Lib.hid (of_decide_eq_true HB.out)
      by_cases hr0 : t = 0
      · have hk : k18 = 0 := by rw [← Z09 TR2.out, hr0, Z0r]; rfl
        have HR0 := Lib.hid hr0
        subst hk
        clear hr0
        go_wp2_with fail
        go_ret2
        exact ⟨_, 0, c18, t, true, rfl, TR2.out, TL.out, by rw [HO2.out, if_pos HT.out]; exact (Z82 (by rw [HR0.out])).symm, by rw [HO2.out, if_pos HT.out]; rfl, X2.out⟩
      · have k0 : 0 < k18 := by
          rcases Nat.eq_zero_or_pos k18 with h | h
          · exact absurd (Z2z.1 ((Z09 TR2.out).trans h)) hr0
          · exact h
        have k0I : (0 : Int) < (k18 : Int) := by omega
        obtain ⟨ad, hA, -⟩ := TR2.out.at_ k0
        subst hA
        obtain ⟨x, hx⟩ : ∃ d, d = (dg t).getD 0 0 := ⟨_, rfl⟩
        have cx := sl_num TR2.out k0
        rw [← hx, show ad.add 0 = ad from rfl] at cx
        have xb : x < 65536 := by rw [hx]; exact (Z0o _).get 0
        obtain ⟨y, hy⟩ : ∃ y, y = x % 2 := ⟨_, rfl⟩
        have ey : (x : Int) % 2 = (y : Int) := by omega
        have HY := Lib.hid (show t % 2 = y by have h := Z91 t; rw [← hx] at h; omega)
        have hy01 : y = 0 ∨ y = 1 := by omega
        clear hx hy hr0
        rcases hy01 with rfl | rfl
        · go_wp2_with fail
          go_ret2
          exact ⟨_, k18, c18, t, true, rfl, TR2.out, TL.out, by rw [HO2.out, if_pos HT.out]; exact (Z82 HY.out).symm, by rw [HO2.out, if_pos HT.out]; rfl, X2.out⟩
        · have LS := Lib.hid (Z81 none (some ad) 0 k18 0 c18 0 t x2 (by decide) K18.out TL.out (by rw [Z0r]; exact Sl.nil_ _ _) TR2.out)
          go_wp2_with fail
          (with_reducible refine LS.out.mono ?_)
          rintro e x3 ⟨B3, m3, d3, rfl, h31, h32, h33⟩
          have TT3 := Lib.hid h31
          have X3 := Lib.hid (Z0g X2.out (Nat.le_refl _) h33)
          clear h31 h33 LS
          go_wp2_with fail
          go_ret2
          exact ⟨B3, m3, d3, (0 + (pp - t)) % pp, true, rfl, TT3.out, mod_lt _, by rw [HO2.out, if_pos HT.out]; exact (Zey TL.out HY.out).symm, by rw [HO2.out, if_pos HT.out]; rfl, X3.out⟩
  · have HC := Lib.hid (of_decide_eq_true HBB.out)
    have HO2 := Lib.hid (HO.out r (by rw [if_pos HC.out]))
    have MR := Lib.hid (Z2d A8 A8 k8 k8 c8 c8 r r _ K8.out K8.out T10.out T10.out)
    go_wp2_with fail
    (with_reducible refine MR.out.mono ?_)
    rintro e x1 ⟨B1, m1, d1, rfl, h11, h12, h13⟩
    have X1 := Lib.hid (Z0g W10.out (Nat.le_refl _) h13)
    have TR1 := Lib.hid (T10.out.below h13)
    obtain ⟨b, hb⟩ : ∃ b, decide (r * r % pp = q) = b := ⟨_, rfl⟩
    have SM := Z6e B1 Aq m1 kq d1 cq (r * r % pp) q x1 (by rw [← Z09 h11]; exact Nat.le_trans (len16 (mod_lt _)) (by decide)) (Nat.le_trans KQ.out (by decide)) h11 (TQ10.out.below h13)
    rw [hb] at SM
    have SM := Lib.hid SM
    have HB := Lib.hid hb
    clear h11 h13 MR hb
    go_wp2_with fail
    (with_reducible refine SM.out.mono ?_)
    rintro e x2 ⟨rfl, hx2⟩
    have X2 := Lib.hid (Z0g X1.out (Nat.le_refl _) hx2)
    have TR2 := Lib.hid (TR1.out.below hx2)
    clear hx2 SM X1 TR1
    cases b
    · have HF := Lib.hid (of_decide_eq_false HB.out)
      go_wp2_with fail
      go_ret2
      exact ⟨none, 0, 0, 0, false, rfl, by rw [Z0r]; exact Sl.nil_ _ _, Z1y, by rw [HO2.out, if_neg HF.out]; rfl, by rw [HO2.out, if_neg HF.out]; rfl, X2.out⟩
    · have HT := Lib.hid (of_decide_eq_true HB.out)
      by_cases hr0 : r = 0
      · have hk : k8 = 0 := by rw [← Z09 TR2.out, hr0, Z0r]; rfl
        have HR0 := Lib.hid hr0
        subst hk
        clear hr0
        go_wp2_with fail
        go_ret2
        exact ⟨_, 0, c8, r, true, rfl, TR2.out, HRL.out, by rw [HO2.out, if_pos HT.out]; exact (Z82 (by rw [HR0.out])).symm, by rw [HO2.out, if_pos HT.out]; rfl, X2.out⟩
      · have k0 : 0 < k8 := by
          rcases Nat.eq_zero_or_pos k8 with h | h
          · exact absurd (Z2z.1 ((Z09 TR2.out).trans h)) hr0
          · exact h
        have k0I : (0 : Int) < (k8 : Int) := by omega
        obtain ⟨ad, hA, -⟩ := TR2.out.at_ k0
        subst hA
        obtain ⟨x, hx⟩ : ∃ d, d = (dg r).getD 0 0 := ⟨_, rfl⟩
        have cx := sl_num TR2.out k0
        rw [← hx, show ad.add 0 = ad from rfl] at cx
        have xb : x < 65536 := by rw [hx]; exact (Z0o _).get 0
        obtain ⟨y, hy⟩ : ∃ y, y = x % 2 := ⟨_, rfl⟩
        have ey : (x : Int) % 2 = (y : Int) := by omega
        have HY := Lib.hid (show r % 2 = y by have h := Z91 r; rw [← hx] at h; omega)
        have hy01 : y = 0 ∨ y = 1 := by omega
        clear hx hy hr0
        rcases hy01 with rfl | rfl
        · go_wp2_with fail
          go_ret2
          exact ⟨_, k8, c8, r, true, rfl, TR2.out, HRL.out, by rw [HO2.out, if_pos HT.out]; exact (Z82 HY.out).symm, by rw [HO2.out, if_pos HT.out]; rfl, X2.out⟩
        · have LS := Lib.hid (Z81 none (some ad) 0 k8 0 c8 0 r x2 (by decide) K8.out HRL.out (by rw [Z0r]; exact Sl.nil_ _ _) TR2.out)
          go_wp2_with fail
          (with_reducible refine LS.out.mono ?_)
          rintro e x3 ⟨B3, m3, d3, rfl, h31, h32, h33⟩
          have TT3 := Lib.hid h31
          have X3 := Lib.hid (Z0g X2.out (Nat.le_refl _) h33)
          clear h31 h33 LS
          go_wp2_with fail
          go_ret2
          exact ⟨B3, m3, d3, (0 + (pp - r)) % pp, true, rfl, TT3.out, mod_lt _, by rw [HO2.out, if_pos HT.out]; exact (Zey HRL.out HY.out).symm, by rw [HO2.out, if_pos HT.out]; rfl, X3.out⟩
theorem Zph:(pp+3) / 2 ^ 3=e8+1:=by rw[Zhr];omega
theorem Zpi:(pp - 1) / 2 ^ 2=2*e8+1:=by rw[Zhr];omega
theorem Zpj:e8+1 < 256 ^ 32∧2*e8+1 < 256 ^ 32:=by unfold e8;decide
def rrE(f1 f2 u v:Nat):Option Nat :=
 if v=0 then(if u=0 then some 0 else none)
 else
  let q:=u*v ^ (pp - 2)%pp
  let r:=q ^ f1%pp
  let r2:=if r*r%pp=q then r else r*(2 ^ f2%pp)%pp
  if r2*r2%pp=q then some (ev r2) else none
theorem Zez(f1 f2 u v:Nat):rrE f1 f2 u v=(if v=0 then(if u=0 then some 0 else none)
 else
  let q:=u*v ^ (pp - 2)%pp
  let r:=q ^ f1%pp
  let r2:=if r*r%pp=q then r else r*(2 ^ f2%pp)%pp
  if r2*r2%pp=q then some (ev r2) else none):=rfl
theorem rr_E(u v:Nat):rr u v=rrE (e8+1) (2*e8+1) u v:=by rw[Zez,rr]
theorem Zlz(f1 f2:Nat)(h1:(pp+3) / 2 ^ 3=f1)(h2:(pp - 1) / 2 ^ 2=f2)(l1:f1 < 256 ^ 32)(l2:f2 < 256 ^ 32)(A B:Option Addr)(n m c d:Nat)(u v:Nat)(w:World)(hu:u < pp)(hv:v < pp)(ha:Sl w A n (nl (dg u)))(hb:Sl w B m (nl (dg v))) :
  Calls Tryz.prog 89 #[.slice A n c,.slice B m d] w (RRQ (rrE f1 f2 u v) w):=by
 by_cases hv0:v=0
 ·subst hv0
  exact Zcu A B n m c d u w (rrE f1 f2 u 0) (by rw[Zez,if_pos rfl]) ha hb
 ·have e1:le (by_ f1 32)=f1:=by rw[Zeb];exact Nat.mod_eq_of_lt l1
  have e2:le (by_ f2 32)=f2:=by rw[Zeb];exact Nat.mod_eq_of_lt l2
  refine Zcv A B n m c d u v (v ^ (pp - 2)%pp) (u*(v ^ (pp - 2)%pp)%pp) ((u*(v ^ (pp - 2)%pp)%pp) ^ f1%pp) (2 ^ f2%pp) f1 f2 (by_ f1 32) (by_ f2 32) w (rrE f1 f2 u v) hu hv0 (mod_lt _) rfl (mod_lt _) (mod_lt _)
   h1 rfl h2 rfl ?_ ?_ ?_ ?_ ha hb
  ·intro w' h
   exact Zby B m d v w' (by rw[←Z09 h];exact len16 hv) h
  ·intro A' B' k c' w' hk h1 h2
   have:=Z6f A' B' k 32 c' 32 _ (by_ f1 32) w' hk (by decide) (Z60 _ _) h1 h2
   rwa [e1] at this
  ·intro A' B' w' h1 h2
   have h3:dg 2=[2]:=Zcp [2] (by unfold Dg;decide) (by unfold Tr;decide)
   have:=Z6f A' B' 1 32 1 32 2 (by_ f2 32) w' (by decide) (by decide) (Z60 _ _) (by rw[h3];exact h1) h2
   rwa [e2] at this
  ·intro t ht
   unfold rrE
   rw[if_neg hv0]
   simp only[Nat.mul_mod_mod]
   simp only[Nat.mul_mod_mod] at ht
   rw[←ht]
theorem Zf0(A B:Option Addr)(n m c d:Nat)(u v:Nat)(w:World)(hu:u < pp)(hv:v < pp)(ha:Sl w A n (nl (dg u)))(hb:Sl w B m (nl (dg v))) :
  Calls Tryz.prog 89 #[.slice A n c,.slice B m d] w (RRQ (rr u v) w):=by
 rw[rr_E]
 exact Zlz _ _ Zph Zpi Zpj.1 Zpj.2 A B n m c d u v w hu hv ha hb
end Go.Proofs.YtjimhjfjfpeojaaGreatDoor.Fd
