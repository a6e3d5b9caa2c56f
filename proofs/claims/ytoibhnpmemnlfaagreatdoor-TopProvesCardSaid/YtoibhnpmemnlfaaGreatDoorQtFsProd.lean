/- Joined texts. -/
import Derived.Deep.RegionHeld3
import Derived.Test.YtoibhnpmemnlfaaGreatDoorQtFsFold
set_option linter.unusedVariables false
namespace Go.Proofs.YtoibhnpmemnlfaaGreatDoor.Fd
open Go.RowKit Go.Proofs.YtoibhnpmemnlfaaGreatDoor.Gn Go.Deep
theorem eight{R:List Nat}(h:R.length=8):∃a b c d e f g k,R=[a,b,c,d,e,f,g,k]:=by
 match R,h with
 | [a,b,c,d,e,f,g,k],_=>exact⟨a,b,c,d,e,f,g,k,rfl⟩
def RetW8(v:Nat)(w:World)(e:Ending)(w':World):Prop:=∃R:List Nat,e=.returned (.agg (nl R).toArray)∧R.length=8∧Wo B64 R∧vb B64 R=v∧Below w.heap.size w w'
theorem cell64{w:World}{g:Nat}{t:TypeId}{L:List Nat}(h:Bl w g t (nl L).toArray){k x:Nat}(hk:k < L.length)(hx:L.getD k 0=x):w.cell? ⟨g,k,none⟩=some (.int .u64 (x:Int)):=by
 rw[←hx];exact nl_cell h hk
def PrO(x4 y4 Z:List Nat)(g:Nat)(w0:World)(i:Value)(wr:World):Prop :=
 ∃(k:Nat) (R:List Nat),k≤4∧i=.int .i64 (k:Int)∧R.length=8∧Wo B64 R∧(∀p,k+4≤p→R.getD p 0=0)∧vb B64 R=vb B64 Z+vb B64 (x4.take k)*vb B64 y4∧Bl wr g 53 (nl R).toArray∧w0.grownBy wr (some g)
def PrI(a:Nat)(y4 R0:List Nat)(k g:Nat)(w0:World)(over j:Value)(wr:World):Prop :=
 ∃(t ov:Nat) (R:List Nat),t≤4∧j=.int .i64 (t:Int)∧over=.int .u64 (ov:Int)∧ov < 18446744073709551616∧R.length=8∧Wo B64 R∧(∀p,k+t≤p→R.getD p 0=R0.getD p 0) ∧
  vb B64 R+B64 ^ (k+t)*ov=vb B64 R0+B64 ^ k*(a*vb B64 (y4.take t))∧Bl wr g 53 (nl R).toArray∧w0.grownBy wr (some g)
set_option maxHeartbeats 8000000 in
set_option maxRecDepth 100000 in
theorem product_any(X Y Z x4 y4:List Nat)(w:World)(hX:X.length=8)(hY:Y.length=8)(hZ:Z.length=8)(hx4:x4.length=4)(hy4:y4.length=4)(wx:Wo B64 x4)(wy:Wo B64 y4)(wz:Wo B64 Z)
  (ex:∀k,k < 4→X.getD k 0=x4.getD k 0) (ey:∀k,k < 4→Y.getD k 0=y4.getD k 0) (ez:∀k,4≤k→Z.getD k 0=0) :
  Calls Tryz.prog 53 #[.agg (nl X).toArray,.agg (nl Y).toArray,.agg (nl Z).toArray] w (RetW8 (vb B64 x4*vb B64 y4+vb B64 Z) w):=by
 have z8:Array Value:=(nl [0,0,0,0,0,0,0,0]).toArray
 have a0:=((((Below.refl w.heap.size w).alloc (Nat.le_refl _) (.cells (nl X).toArray 53)).alloc (by simp) (.cells (nl Y).toArray 53)).alloc (by simp;omega) (.cells (nl Z).toArray 53)).alloc (by simp;omega) (.cells (nl [0,0,0,0,0,0,0,0]).toArray 53)
 have D1:=Lib.hid a0
 have BX:=Lib.hid ((((Bl.new_ w 53 (nl X).toArray).alloc (.cells (nl Y).toArray 53)).alloc (.cells (nl Z).toArray 53)).alloc (.cells (nl [0,0,0,0,0,0,0,0]).toArray 53))
 have BY:=Lib.hid (((Bl.new' (w:=w.alloc (.cells (nl X).toArray 53)) (g:=w.heap.size+1) 53 (nl Y).toArray (by simp)).alloc (.cells (nl Z).toArray 53)).alloc (.cells (nl [0,0,0,0,0,0,0,0]).toArray 53))
 have BZ:=Lib.hid ((Bl.new' (w:=(w.alloc (.cells (nl X).toArray 53)).alloc (.cells (nl Y).toArray 53)) (g:=w.heap.size+1+1) 53 (nl Z).toArray (by simp)).alloc (.cells (nl [0,0,0,0,0,0,0,0]).toArray 53))
 have BS:=Lib.hid (Bl.new' (w:=((w.alloc (.cells (nl X).toArray 53)).alloc (.cells (nl Y).toArray 53)).alloc (.cells (nl Z).toArray 53)) (g:=w.heap.size+1+1+1) 53 (nl [0,0,0,0,0,0,0,0]).toArray (by simp))
 have LX:=Lib.hid (And.intro hX hY)
 have HZ:=Lib.hid hZ
 have L4:=Lib.hid (And.intro hx4 hy4)
 have WX:=Lib.hid wx
 have WY:=Lib.hid wy
 have WZ:=Lib.hid wz
 have EX:=Lib.hid ex
 have EY:=Lib.hid ey
 have EZ:=Lib.hid ez
 clear a0 hX hY hZ hx4 hy4 wx wy wz ex ey ez z8
 go_enter Tryz.func53,Tryz.ntmps53
 go_upto_region 1 with fail
 change Code.wp _ _ _ _ ((((w.alloc (.cells (nl X).toArray 53)).alloc (.cells (nl Y).toArray 53)).alloc (.cells (nl Z).toArray 53)).alloc (.cells (nl [0,0,0,0,0,0,0,0]).toArray 53))
 generalize(((w.alloc (.cells (nl X).toArray 53)).alloc (.cells (nl Y).toArray 53)).alloc (.cells (nl Z).toArray 53)).alloc (.cells (nl [0,0,0,0,0,0,0,0]).toArray 53)=W1 at D1 BX BY BZ BS ⊢
 go_wp2_with fail
 go_loopw [13] (fun i wr=>PrO x4 y4 Z (w.heap.size+1+1) W1 i wr) (fun i _=>4 - (intOf i).toNat)
 case atStart=>exact⟨0,Z,Nat.zero_le _,rfl,HZ.out,WZ.out,fun p hp=>EZ.out p (by omega),by simp[vb_nil],BZ.out,World.grownBy.refl _ _⟩
 case round =>
  obtain⟨wo,rfl⟩:∃wo:World,wo=wr:=⟨_,rfl⟩
  obtain⟨k,R0,hk,rfl,hRl,hRw,hRs,hRv,hbl,hgr⟩:=hrel
  have RL0:=Lib.hid hRl
  have RW0:=Lib.hid hRw
  have RS0:=Lib.hid hRs
  have RV0:=Lib.hid hRv
  have BR0:=Lib.hid hbl
  have GR0:=Lib.hid hgr
  clear hRl hRw hRs hRv hbl hgr
  by_cases hlt:k < 4
  ·obtain⟨a,ha⟩:∃a,x4.getD k 0=a:=⟨_,rfl⟩
   have HA:=Lib.hid ha
   have I0:=Lib.hid (show PrI a y4 R0 k (w.heap.size+1+1) W1 (.int .u64 0) (.int .i64 0) wo from⟨0,0,R0,Nat.zero_le _,rfl,rfl,by decide,RL0.out,RW0.out,fun _ _=>rfl,by simp[vb_nil],BR0.out,GR0.out⟩)
   have k4:(k:Int) < 8:=by omega
   have k0:(0:Int)≤(k:Int):=by omega
   have tk:decide ((k:Int) < 4)=true:=by simp;omega
   clear ha
   go_wp2_with fail
   clear tk
   go_loopw [8,16] (fun ov j wx=>PrI a y4 R0 k (w.heap.size+1+1) W1 ov j wx) (fun _ j _=>4 - (intOf j).toNat)
   case atStart=>exact I0.out
   case round =>
    clear I0
    obtain⟨t,ov,R,ht,rfl,rfl,hov,hRl,hRw,hRs,hRv,hbl,hgr⟩:=hrel
    have RL:=Lib.hid hRl
    have RW:=Lib.hid hRw
    have RS:=Lib.hid hRs
    have RV:=Lib.hid hRv
    have BR:=Lib.hid hbl
    have GR:=Lib.hid hgr
    have OV:=Lib.hid hov
    clear hRl hRw hRs hRv hbl hgr hov
    by_cases hlt2:t < 4
    ·obtain⟨b,hb⟩:∃b,y4.getD t 0=b:=⟨_,rfl⟩
     obtain⟨p,hp⟩:∃p,k+t=p:=⟨_,rfl⟩
     obtain⟨z,hz⟩:∃z,R.getD p 0=z:=⟨_,rfl⟩
     have cx:=cell64 (BX.out.grown GR.out (by intro h;injection h with h;omega)) (k:=k) (x:=a) (by rw[LX.out.1];omega) (by rw[EX.out k hlt];exact HA.out)
     have cy:=cell64 (BY.out.grown GR.out (by intro h;injection h with h;omega)) (k:=t) (x:=b) (by rw[LX.out.2];omega) (by rw[EY.out t hlt2];exact hb)
     have ab:a < 18446744073709551616:=by
      have:=WX.out.get k B64_pos
      rwa [HA.out,B64_eq] at this
     have bb:b < 18446744073709551616:=by
      have:=WY.out.get t B64_pos
      rwa [hb,B64_eq] at this
     have zb:z < 18446744073709551616:=by
      have:=RW.out.get p B64_pos
      rwa [hz,B64_eq] at this
     have hov0:=OV.out
     have qb:a*b≤340282366920938463426481119284349108225:=Nat.mul_le_mul (show a≤18446744073709551615 by omega) (show b≤18446744073709551615 by omega)
     obtain⟨hi,hhi⟩:∃hi,a*b / 18446744073709551616=hi:=⟨_,rfl⟩
     obtain⟨lo,hlo⟩:∃lo,a*b%18446744073709551616=lo:=⟨_,rfl⟩
     obtain⟨lo1,hlo1⟩:∃x,(lo+ov)%18446744073709551616=x:=⟨_,rfl⟩
     obtain⟨c1,hc1⟩:∃x,(lo+ov) / 18446744073709551616=x:=⟨_,rfl⟩
     obtain⟨hi1,hhi1⟩:∃x,hi+c1=x:=⟨_,rfl⟩
     obtain⟨s,hs⟩:∃x,(lo1+z)%18446744073709551616=x:=⟨_,rfl⟩
     obtain⟨c2,hc2⟩:∃x,(lo1+z) / 18446744073709551616=x:=⟨_,rfl⟩
     obtain⟨ov',hov'⟩:∃x,hi1+c2=x:=⟨_,rfl⟩
     have heq:a*b+ov+z=s+18446744073709551616*ov':=by generalize a*b=q at *;omega
     have hovb:ov' < 18446744073709551616:=by generalize a*b=q at *;omega
     have E0:=Lib.hid (fun w=>mul64_c a b hi lo ab bb hhi hlo w)
     have E1:=fun w=>add64_0 lo ov lo1 c1 hlo1 hc1 w
     have E2:=fun w=>add64_0 lo1 z s c2 hs hc2 w
     have w1:IntKind.u64.wrap ((hi:Int)+(c1:Int))=(hi1:Int):=by rw[IntKind.wrap_u64];generalize a*b=q at *;omega
     have w2:IntKind.u64.wrap ((hi1:Int)+(c2:Int))=(ov':Int):=by rw[IntKind.wrap_u64];generalize a*b=q at *;omega
     have NX:=Lib.hid (show vb B64 (R.set p s)+B64 ^ (k+(t+1))*ov'=vb B64 R0+B64 ^ k*(a*vb B64 (y4.take (t+1))) by
      rw[←hp]
      exact prod_in B64 k t ov ov' s a b z (vb B64 R0) R y4 (by rw[RL.out];omega) hb.symm (by rw[←hz,hp]) RV.out (by rw[B64_eq];exact heq))
     have SB:=Lib.hid (show s < B64 by rw[B64_eq];omega)
     have OV':=Lib.hid hovb
     have HP:=Lib.hid hp
     have ep:(k:Int)+(t:Int)=(p:Int):=by omega
     have p0:(0:Int)≤(p:Int):=by omega
     have p8:(p:Int) < 8:=by omega
     have pl:=Lib.hid (show p < R.length by rw[RL.out];omega)
     have HZ1:=Lib.hid hz
     have t4:(t:Int) < 8:=by omega
     have t0:(0:Int)≤(t:Int):=by omega
     clear hb hp hz ab bb zb hov0 qb hhi hlo hlo1 hc1 hhi1 hs hc2 hov' heq hovb
     go_wp2_with fail
     go_region_held3 (fun u=>u.cell? ⟨w.heap.size,k,none⟩=some (.int .u64 (a:Int))∧u.cell? ⟨w.heap.size+1,t,none⟩=some (.int .u64 (b:Int)))
      (exact⟨cx,cy⟩)
      ((go_at_call 75;(with_reducible refine(E0.out _).mono ?_);rintro e w' ⟨rfl,rfl⟩))
     clear cx cy
     have BR2:=Lib.hid (show Bl wr.drew (w.heap.size+1+1) 53 (nl R).toArray from BR.out.drew)
     have GR2:=Lib.hid (show W1.grownBy wr.drew (some (w.heap.size+1+1)) from only_drew GR.out)
     generalize wr.drew=w5 at *
     have cz:=cell64 BR2.out (k:=p) (x:=z) pl.out HZ1.out
     have fz:=BR2.out.frozen p
     go_wp2_with fail
     clear E1 E2 w1 w2 ep
     go_roundw
     case rel=>exact⟨t+1,ov',R.set p s,by omega,by go_num,rfl,OV'.out,by rw[List.length_set];exact RL.out,RW.out.set _ _ SB.out,fun q hq=>by rw[getD_set_ne _ _ _ _ (by have:=HP.out;omega)];exact RS.out q (by omega),NX.out,by rw[←nlu_set];exact BR2.out.set_ p _,only_set (p:=⟨w.heap.size+1+1,p,none⟩) GR2.out (.inl rfl) _⟩
     case measure=>simp[intOf];omega
    ·obtain⟨p,hp⟩:∃p,k+4=p:=⟨_,rfl⟩
     have T4:=Lib.hid (show t=4 by omega)
     have ep:(k:Int)+4=(p:Int):=by omega
     have p0:(0:Int)≤(p:Int):=by omega
     have p8:(p:Int) < 8:=by omega
     have NX:=Lib.hid (show vb B64 (R.set p ov)=vb B64 Z+vb B64 (x4.take (k+1))*vb B64 y4 by
      have h1:=RV.out
      rw[T4.out] at h1
      have h2:=prod_row B64 k ov a (vb B64 R0) R y4 4 L4.out.2 (by rw[RL.out];omega) (by rw[RS.out _ (by have:=T4.out;omega)];exact RS0.out _ (Nat.le_refl _)) h1
      rw[←hp,h2,RV0.out,←prod_next B64 k a x4 y4 HA.out.symm,Nat.add_assoc])
     have HP:=Lib.hid hp
     have cz:=nl_cell BR.out (k:=p) (by rw[RL.out];omega)
     have fz:=BR.out.frozen p
     have OB:=Lib.hid (show ov < B64 by rw[B64_eq];exact OV.out)
     clear hp
     go_wp2_with fail
     clear ep
     go_roundw
     case rel=>exact⟨k+1,R.set p ov,by omega,by go_num,by rw[List.length_set];exact RL.out,RW.out.set _ _ OB.out,fun q hq=>by rw[getD_set_ne _ _ _ _ (by have:=HP.out;omega),RS.out q (by have:=T4.out;omega)];exact RS0.out q (by omega),NX.out,by rw[←nlu_set];exact BR.out.set_ p _,only_set (p:=⟨w.heap.size+1+1,p,none⟩) GR.out (.inl rfl) _⟩
     case measure=>simp[intOf];omega
  ·obtain rfl:k=4:=by omega
   have RV4:=Lib.hid (show vb B64 R0=vb B64 x4*vb B64 y4+vb B64 Z by
    have:=RV0.out
    rw[vb_take_all B64 x4 4 L4.out.1] at this
    rw[this,Nat.add_comm])
   have DR:=Lib.hid (show Below w.heap.size w wo from D1.out.grown GR0.out D1.out.size (by intro x hx;injection hx with hx;omega))
   have BSR:=Lib.hid (BS.out.grown GR0.out (by intro h;injection h with h;omega))
   obtain⟨a,b,c,d,e,f,g,h,hR⟩:=eight RL0.out
   subst hR
   have a0:wo.cell? ⟨w.heap.size+1+1,0,none⟩=some (.int .u64 (a:Int)):=BR0.out.cell_ rfl
   have a1:wo.cell? ⟨w.heap.size+1+1,1,none⟩=some (.int .u64 (b:Int)):=BR0.out.cell_ rfl
   have a2:wo.cell? ⟨w.heap.size+1+1,2,none⟩=some (.int .u64 (c:Int)):=BR0.out.cell_ rfl
   have a3:wo.cell? ⟨w.heap.size+1+1,3,none⟩=some (.int .u64 (d:Int)):=BR0.out.cell_ rfl
   have a4:wo.cell? ⟨w.heap.size+1+1,4,none⟩=some (.int .u64 (e:Int)):=BR0.out.cell_ rfl
   have a5:wo.cell? ⟨w.heap.size+1+1,5,none⟩=some (.int .u64 (f:Int)):=BR0.out.cell_ rfl
   have a6:wo.cell? ⟨w.heap.size+1+1,6,none⟩=some (.int .u64 (g:Int)):=BR0.out.cell_ rfl
   have a7:wo.cell? ⟨w.heap.size+1+1,7,none⟩=some (.int .u64 (h:Int)):=BR0.out.cell_ rfl
   have z0:wo.cell? ⟨w.heap.size+1+1+1,0,none⟩=some (.int .u64 0):=BSR.out.cell_ rfl
   have z1:wo.cell? ⟨w.heap.size+1+1+1,1,none⟩=some (.int .u64 0):=BSR.out.cell_ rfl
   have z2:wo.cell? ⟨w.heap.size+1+1+1,2,none⟩=some (.int .u64 0):=BSR.out.cell_ rfl
   have z3:wo.cell? ⟨w.heap.size+1+1+1,3,none⟩=some (.int .u64 0):=BSR.out.cell_ rfl
   have z4:wo.cell? ⟨w.heap.size+1+1+1,4,none⟩=some (.int .u64 0):=BSR.out.cell_ rfl
   have z5':wo.cell? ⟨w.heap.size+1+1+1,5,none⟩=some (.int .u64 0):=BSR.out.cell_ rfl
   have z6:wo.cell? ⟨w.heap.size+1+1+1,6,none⟩=some (.int .u64 0):=BSR.out.cell_ rfl
   have z7:wo.cell? ⟨w.heap.size+1+1+1,7,none⟩=some (.int .u64 0):=BSR.out.cell_ rfl
   have f0:=BSR.out.frozen 0
   have f1:=BSR.out.frozen 1
   have f2:=BSR.out.frozen 2
   have f3:=BSR.out.frozen 3
   have f4:=BSR.out.frozen 4
   have f5:=BSR.out.frozen 5
   have f6:=BSR.out.frozen 6
   have f7:=BSR.out.frozen 7
   clear hlt
   go_wp2
   refine bodyPost_ret (v:=.agg #[.int .u64 (a:Int),.int .u64 (b:Int),.int .u64 (c:Int),.int .u64 (d:Int),.int .u64 (e:Int),.int .u64 (f:Int),.int .u64 (g:Int),.int .u64 (h:Int)]) ?_ rfl ⟨[a,b,c,d,e,f,g,h],rfl,rfl,RW0.out,RV4.out,set8_below DR.out (by omega) _ _ _ _ _ _ _ _⟩
   simp[results,Tryz.results53,go_sem,z0,z1,z2,z3,z4,z5',z6,z7]
end Go.Proofs.YtoibhnpmemnlfaaGreatDoor.Fd
