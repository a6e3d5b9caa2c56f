/- Joined texts. -/
import Derived.Test.YtjimhjfjfpeojaaGreatDoorQvFsJoin
set_option maxRecDepth 100000
set_option maxHeartbeats 8000000
set_option linter.unusedVariables false
namespace Go.Proofs.YtjimhjfjfpeojaaGreatDoor.Fd
open Go.RowKit Go.Proofs.YtjimhjfjfpeojaaGreatDoor.Gn Go.Deep
def p220:Nat:=1684996666696914987166688442938726917102321526408785780068975640576
theorem Zr4:p220=18446744073709551616 ^ 3*268435456:=by decide
theorem Z6s:p220*4294967296=p252:=by unfold p252;decide
theorem Z8h:0 < p220:=by decide
theorem Zr5:p220=B64 ^ 3*268435456:=by rw[Z0q];exact Zr4
theorem Zr6:p252 < B64 ^ 4:=by rw[Zno];have:=Z6s;have:=Z8h;omega
theorem Lq_p:Lq < p220*4294967297:=by
 have h1:=Z5t
 have h2:c125 < p220:=by unfold c125 p220;decide
 have h3:=Z6s
 rw[show(4294967297:Nat)=4294967296+1 from rfl,Nat.mul_add];omega
attribute [irreducible] p220
theorem Zdc(C3 lo d p:Nat)(hC:0 < C3)(hl:lo < C3)(hp:p=C3*268435456):(lo+C3*d) / p=d / 268435456∧(lo+C3*d)%p=lo+C3*(d%268435456):=by
 have e:lo+C3*d=lo+C3*(d%268435456)+p*(d / 268435456):=by
  have:=Nat.mod_add_div d 268435456
  conv=>lhs;rw[←this,Nat.mul_add,←Nat.mul_assoc,←hp]
  omega
 have hm:d%268435456 < 268435456:=Nat.mod_lt _ (by decide)
 have hb:lo+C3*(d%268435456) < p:=by
  have:=Nat.mul_le_mul_left C3 (show d%268435456+1≤268435456 from hm)
  rw[Nat.mul_add] at this
  omega
 have hp0:0 < p:=by omega
 constructor
 ·rw[e,Nat.add_mul_div_left _ _ hp0,Nat.div_eq_of_lt hb,Nat.zero_add]
 ·rw[e,Nat.add_mul_mod_self_left,Nat.mod_eq_of_lt hb]
theorem Zj7(v piece:Nat):4294967296*(v%p220)+piece+v / p220*p252=v*4294967296+piece:=by
 have:=Nat.mod_add_div v p220
 have h2:=Z6s
 have e:v / p220*p252=p220*(v / p220)*4294967296:=by rw[←h2,←Nat.mul_assoc,Nat.mul_comm (v / p220)]
 rw[e]
 generalize p220*(v / p220)=z at *
 omega
theorem Zto(x:Nat)(hx:x < 18446744073709551616):bits .and .u64 (x:Int) 268435455=((x%268435456:Nat):Int):=by
 have h:=bits_and_u64_nat x 268435455 hx (by omega)
 rw[show x &&& 268435455=x%268435456 from Nat.and_two_pow_sub_one_eq_mod x 28] at h
 exact h
theorem or32(x p:Nat)(hx:x < 18446744073709551616)(hp:p < 4294967296):bits .or .u64 (IntKind.u64.wrap ((x:Int)*4294967296)) (p:Int)=((x%4294967296*4294967296+p:Nat):Int):=by
 have e:IntKind.u64.wrap ((x:Int)*4294967296)=((x%4294967296*4294967296:Nat):Int):=by rw[IntKind.wrap_u64];omega
 rw[e,bits_or_u64_nat _ _ (by omega) (by omega)]
 have:=Zbs (x%4294967296) p 32 hp
 rw[show(2:Nat) ^ 32=4294967296 from rfl] at this
 rw[this]
def Ztp(r1:List Nat)(piece g:Nat)(w0:World)(p i:Value)(wr:World):Prop :=
 ∃(k q:Nat) (R:List Nat),k≤4∧i=.int .i64 (k:Int)∧p=.int .u64 (q:Int)∧q < 4294967296∧R.length=4∧Wo B64 R∧(∀j,k≤j→R.getD j 0=r1.getD j 0) ∧
  vb B64 (R.take k)+B64 ^ k*q=4294967296*vb B64 (r1.take k)+piece∧Bl wr g 108 (nl R).toArray∧w0.grownBy wr (some g)
theorem Zdd(a b c d piece:Nat)(w:World)(tab:TabL w)(hr:Wo B64 [a,b,c,d])(hv:vb B64 [a,b,c,d] < Lq)(hp:piece < 4294967296) :
  Calls Tryz.prog 131 #[.agg #[.int .u64 (a:Int),.int .u64 (b:Int),.int .u64 (c:Int),.int .u64 (d:Int)],.int .u64 (piece:Int)] w (RetW ((vb B64 [a,b,c,d]*4294967296+piece)%Lq) w):=by
 have HP:=Lib.hid hp
 have HGO:=Lib.hid (show 7≠w.heap.size from Nat.ne_of_lt (Z0h tab.1))
 have a1:=((Below.refl w.heap.size w).alloc (Nat.le_refl _) (.cells (nl [a,b,c,d]).toArray 108)).alloc (by simp) (.cells (nl [0,0,0,0]).toArray 108)
 have TB:=Lib.hid (tab.below a1)
 have D1:=Lib.hid a1
 have BR:=Lib.hid ((Bl.new_ w 108 (nl [a,b,c,d]).toArray).alloc (.cells (nl [0,0,0,0]).toArray 108))
 have BZ:=Lib.hid (Bl.new' (w:=w.alloc (.cells (nl [a,b,c,d]).toArray 108)) (g:=w.heap.size+1) 108 (nl [0,0,0,0]).toArray (by simp))
 have db:d < 18446744073709551616:=by rw[←Z0q];exact hr d (by simp)
 have lo3:vb B64 [a,b,c] < B64 ^ 3:=Zd9 B64 [a,b,c] (fun x hx=>hr x (by simp at hx ⊢;omega)) Z1x
 have vsp:∀e,vb B64 [a,b,c,e]=vb B64 [a,b,c]+B64 ^ 3*e:=fun e=>by
  have:=Z12 B64 [a,b,c,e] 3
  exact this
 obtain⟨m,hm⟩:∃m,d%268435456=m:=⟨_,rfl⟩
 obtain⟨n,hn⟩:∃n,d / 268435456=n:=⟨_,rfl⟩
 obtain⟨V,hV⟩:∃V,vb B64 [a,b,c,d]=V:=⟨_,rfl⟩
 have sp:=Zdc (B64 ^ 3) (vb B64 [a,b,c]) d p220 (Nat.pow_pos Z1x) lo3 Zr5
 rw[←vsp d,hV,hn,hm,←vsp m] at sp
 rw[hV] at hv ⊢
 have VN:=Lib.hid sp.1
 have VM:=Lib.hid sp.2
 have NB:=Lib.hid (show n≤4294967296 by
  have h1:V < p220*4294967297:=Nat.lt_trans hv Lq_p
  have h2:V / p220 < 4294967297:=Nat.div_lt_of_lt_mul h1
  rw[sp.1] at h2;omega)
 have em:bits .and .u64 (d:Int) 268435455=(m:Int):=by rw[Zto d db,hm]
 have en:(d:Int) / 268435456=(n:Int):=by omega
 have WR1:=Lib.hid (show Wo B64 [a,b,c,m] from fun x hx=>by
  simp at hx
  rcases hx with rfl|rfl|rfl|rfl
  ·exact hr _ (by simp)
  ·exact hr _ (by simp)
  ·exact hr _ (by simp)
  ·rw[Z0q];omega)
 clear hr hp tab a1 db lo3 vsp hm hn sp hv hV
 go_enter Tryz.func131,Tryz.ntmps131
 go_upto_region 1 with fail
 change Code.wp _ _ _ _ ((w.alloc (.cells (nl [a,b,c,d]).toArray 108)).alloc (.cells (nl [0,0,0,0]).toArray 108))
 generalize(w.alloc (.cells (nl [a,b,c,d]).toArray 108)).alloc (.cells (nl [0,0,0,0]).toArray 108)=W1 at TB D1 BR BZ ⊢
 have c3:W1.cell? ⟨w.heap.size,3,none⟩=some (.int .u64 (d:Int)):=BR.out.cell_ rfl
 have f3:=BR.out.frozen 3
 go_upto_region 3 with fail
 have BR2:=Lib.hid (show Bl (W1.setCell ⟨w.heap.size,3,none⟩ (.int .u64 (m:Int))) w.heap.size 108 (nl [a,b,c,m]).toArray from BR.out.set_ 3 (.int .u64 (m:Int)))
 have GR2:=Lib.hid (show W1.grownBy (W1.setCell ⟨w.heap.size,3,none⟩ (.int .u64 (m:Int))) (some w.heap.size) from Z0d (World.grownBy.refl W1 _) (.inl rfl) _)
 have D2:=Lib.hid (show Below w.heap.size w (W1.setCell ⟨w.heap.size,3,none⟩ (.int .u64 (m:Int))) from D1.out.setCell (p:=⟨w.heap.size,3,none⟩) (Nat.le_refl _) _)
 clear c3 f3 em en
 generalize W1.setCell ⟨w.heap.size,3,none⟩ (.int .u64 (m:Int))=W2 at BR2 GR2 D2 ⊢
 go_wp2_with fail
 go_loopw [1,14] (fun p i wr=>Ztp [a,b,c,m] piece w.heap.size W1 p i wr) (fun _ i _=>4 - (intOf i).toNat)
 case atStart=>exact⟨0,piece,[a,b,c,m],Nat.zero_le _,rfl,rfl,HP.out,rfl,WR1.out,fun _ _=>rfl,by simp[Z3m],BR2.out,GR2.out⟩
 case round =>
  obtain⟨k,q,R,hk,rfl,rfl,hq,hRl,hRw,hRs,hRv,hbl,hgr⟩:=hrel
  have RL:=Lib.hid hRl
  have RW:=Lib.hid hRw
  have RS:=Lib.hid hRs
  have RV:=Lib.hid hRv
  have BL:=Lib.hid hbl
  have GR:=Lib.hid hgr
  have Q:=Lib.hid hq
  clear hRl hRw hRs hRv hbl hgr hq
  by_cases hlt:k < 4
  ·obtain⟨x,hx⟩:∃x,x=[a,b,c,m].getD k 0:=⟨_,rfl⟩
   have cx:=Z0u BL.out (k:=k) (by rw[RL.out];exact hlt)
   rw[RS.out k (Nat.le_refl _),←hx] at cx
   have fx:=BL.out.frozen k
   have xb:x < 18446744073709551616:=by
    have:=WR1.out.get k Z1x
    rwa [←hx,Z0q] at this
   obtain⟨y,hy⟩:∃y,x%4294967296*4294967296+q=y:=⟨_,rfl⟩
   obtain⟨q',hq'⟩:∃q',x / 4294967296=q':=⟨_,rfl⟩
   have eo:bits .or .u64 (IntKind.u64.wrap ((x:Int)*4294967296)) (q:Int)=(y:Int):=by rw[or32 x q xb Q.out,hy]
   have eq':(x:Int) / 4294967296=(q':Int):=by omega
   have hq0:=Q.out
   have NX:=Lib.hid (Zgs B64 4294967296 q q' x y k piece R [a,b,c,m] (by rw[RL.out];exact hlt) hx RV.out (by rw[Z0q];omega))
   have YB:=Lib.hid (show y < B64 by rw[Z0q];omega)
   have QB:=Lib.hid (show q' < 4294967296 by omega)
   have k4:(k:Int) < 4:=by omega
   have k0:(0:Int)≤(k:Int):=by omega
   clear hx xb hy hq' hq0
   go_wp2_with fail
   go_region_with (fail)
   all_goals go_wp2_with fail
   all_goals
    clear eo eq'
    go_roundw
    case rel=>exact⟨k+1,q',R.set k y,by omega,by go_num,rfl,QB.out,by rw[List.length_set];exact RL.out,RW.out.set _ _ YB.out,fun p hp=>by rw[getD_set_ne _ _ _ _ (by omega)];exact RS.out p (by omega),NX.out,by rw[←Z0t];exact BL.out.drew.set_ k _,Z0d (p:=⟨w.heap.size,k,none⟩) (Z1j GR.out) (.inl rfl) _⟩
    case measure=>simp[intOf];omega
  ·obtain rfl:k=4:=by omega
   have q0:q=0:=by
    have h1:=RV.out
    rw[Z0v B64 R 4 RL.out,Z0v B64 [a,b,c,m] 4 rfl,←VM.out] at h1
    have h2:V%p220 < p220:=Nat.mod_lt _ Z8h
    have h3:=Z6s
    have h4:=Zr6
    have h5:=HP.out
    rcases Nat.eq_zero_or_pos q with h|h
    ·exact h
    ·have:=Nat.mul_le_mul_left (B64 ^ 4) (show 1≤q from h)
     omega
   have RV4:=Lib.hid (show vb B64 R=4294967296*(V%p220)+piece by
    have h1:=RV.out
    rw[Z0v B64 R 4 RL.out,Z0v B64 [a,b,c,m] 4 rfl,←VM.out,q0,Nat.mul_zero,Nat.add_zero] at h1
    exact h1)
   have DR:=Lib.hid (show Below w.heap.size w wr from D1.out.grown GR.out D1.out.size (by intro x hx;injection hx with hx;omega))
   have BZR:=Lib.hid (BZ.out.grown GR.out (by intro h;injection h with h;omega))
   have HGL:=Lib.hid (show 7≠w.heap.size from HGO.out)
   have TBR:=Lib.hid (show TabL wr from⟨(Z0k GR.out (p:=⟨7,0,none⟩) (Z0h TB.out.1) (by intro h;injection h with h;exact HGL.out h.symm)).trans TB.out.1,(Z0k GR.out (p:=⟨7,1,none⟩) (Z0h TB.out.2.1) (by intro h;injection h with h;exact HGL.out h.symm)).trans TB.out.2.1,(Z0k GR.out (p:=⟨7,2,none⟩) (Z0h TB.out.2.2.1) (by intro h;injection h with h;exact HGL.out h.symm)).trans TB.out.2.2.1,(Z0k GR.out (p:=⟨7,3,none⟩) (Z0h TB.out.2.2.2) (by intro h;injection h with h;exact HGL.out h.symm)).trans TB.out.2.2.2⟩)
   obtain⟨a',b',c',d',hR⟩:=four RL.out
   subst hR
   have a0:wr.cell? ⟨w.heap.size,0,none⟩=some (.int .u64 (a':Int)):=BL.out.cell_ rfl
   have a1:wr.cell? ⟨w.heap.size,1,none⟩=some (.int .u64 (b':Int)):=BL.out.cell_ rfl
   have a2:wr.cell? ⟨w.heap.size,2,none⟩=some (.int .u64 (c':Int)):=BL.out.cell_ rfl
   have a3:wr.cell? ⟨w.heap.size,3,none⟩=some (.int .u64 (d':Int)):=BL.out.cell_ rfl
   have JJ:=Zdb [a',b',c',d'] n wr TBR.out rfl RW.out (by
    rw[RV4.out]
    have h2:V%p220 < p220:=Nat.mod_lt _ Z8h
    have h3:=Z6s
    have:=HP.out
    omega) NB.out
   have EV:vb B64 [a',b',c',d']+n*p252=V*4294967296+piece:=by rw[RV4.out,←VN.out];exact Zj7 V piece
   rw[EV] at JJ
   clear EV
   have JJ:=Lib.hid (show Calls Tryz.prog 146 #[.agg #[.int .u64 (a':Int),.int .u64 (b':Int),.int .u64 (c':Int),.int .u64 (d':Int)],.int .u64 (n:Int)] wr (RetW ((V*4294967296+piece)%Lq) wr) from JJ)
   clear q0
   go_wp2_with fail
   (with_reducible refine JJ.out.mono ?_)
   rintro e w5 ⟨s0,s1,s2,s3,rfl,hw5,hv5,hb5⟩
   have BZ5:=Lib.hid (BZR.out.below' hb5)
   have D5:=Lib.hid (Zch DR.out hb5)
   have W5:=Lib.hid hw5
   have V5:=Lib.hid hv5
   clear hw5 hv5 hb5 a0 a1 a2 a3 JJ
   have z0:w5.cell? ⟨w.heap.size+1,0,none⟩=some (.int .u64 0):=BZ5.out.cell_ rfl
   have z1:w5.cell? ⟨w.heap.size+1,1,none⟩=some (.int .u64 0):=BZ5.out.cell_ rfl
   have z2:w5.cell? ⟨w.heap.size+1,2,none⟩=some (.int .u64 0):=BZ5.out.cell_ rfl
   have z3:w5.cell? ⟨w.heap.size+1,3,none⟩=some (.int .u64 0):=BZ5.out.cell_ rfl
   have f0:=BZ5.out.frozen 0
   have f1:=BZ5.out.frozen 1
   have f2:=BZ5.out.frozen 2
   have f3:=BZ5.out.frozen 3
   go_wp2
   refine bodyPost_ret (v:=.agg #[.int .u64 (s0:Int),.int .u64 (s1:Int),.int .u64 (s2:Int),.int .u64 (s3:Int)]) ?_ rfl ⟨s0,s1,s2,s3,rfl,W5.out,V5.out,Z3y D5.out (by omega) _ _ _ _⟩
   simp[results,Tryz.results131,go_sem,z0,z1,z2,z3]
theorem Zj8(B:Nat)(l:List Nat)(k:Nat):vb B l=vb B (l.take k)+B ^ k*vb B (l.drop k):=by
 induction l generalizing k with
 |nil=>simp[Z3m]
 |cons x l ih =>
  cases k with
  |zero=>simp[Z3m]
  |succ k=>rw[List.take_succ_cons,List.drop_succ_cons,Z2b,Z2b,ih k,Nat.mul_add,←Nat.mul_assoc,←Nat.pow_succ',Nat.add_assoc]
theorem Zr7(B:Nat)(l:List Nat)(k:Nat)(h:Wo B l)(hB:0 < B):vb B l / B ^ k%B=l.getD k 0:=by
 have h1:vb B (l.take k) < B ^ k:=Nat.lt_of_lt_of_le (Zd9 B _ (fun x hx=>h x (List.mem_of_mem_take hx)) hB) (Nat.pow_le_pow_right hB (by rw[List.length_take];omega))
 rw[Zj8 B l k,Nat.add_mul_div_left _ _ (Nat.pow_pos hB),Nat.div_eq_of_lt h1,Nat.zero_add,List.getD_eq_getElem?_getD]
 cases hk:l[k]? with
 |none=>rw[List.drop_of_length_le (by exact List.getElem?_eq_none_iff.1 hk)];simp[Z3m]
 |some x =>
  obtain⟨hlt,he⟩:=List.getElem?_eq_some_iff.1 hk
  rw[List.drop_eq_getElem_cons hlt,he,Z2b,Nat.add_mul_mod_self_left]
  exact Nat.mod_eq_of_lt (h x (List.mem_of_getElem? hk))
theorem Zgw(B H V q m x:Nat)(hB:B=H*H)(hH:0 < H)(hx:V / B ^ q%B=x)(hm:m < 2):x / H ^ m%H=V / H ^ (2*q+m)%H:=by
 have e:B ^ q=H ^ (2*q):=by rw[hB,←Nat.pow_two,←Nat.pow_mul]
 rw[Nat.pow_add,←Nat.div_div_eq_div_mul,←e,←hx]
 generalize V / B ^ q=z
 have:m=0∨m=1:=by omega
 rcases this with rfl|rfl
 ·rw[Nat.pow_zero,Nat.div_one,Nat.div_one,hB,Nat.mod_mul_left_mod]
 ·rw[Nat.pow_one,hB,Nat.mod_mul_right_div_self,Nat.mod_mod]
theorem Zgx(V H p x:Nat)(hx:x=V / H ^ p%H):V / H ^ p=V / H ^ (p+1)*H+x:=by
 rw[Nat.pow_succ,←Nat.div_div_eq_div_mul,hx]
 have:=Nat.mod_add_div (V / H ^ p) H
 rw[Nat.mul_comm];omega
theorem Zj9(q x H:Nat):(q%Lq*H+x)%Lq=(q*H+x)%Lq:=by
 rw[Nat.add_mod,Nat.mod_mul_mod,←Nat.add_mod]
theorem Ztq(x:Nat)(hx:x < 18446744073709551616):bits .and .u64 (x:Int) 4294967295=((x%4294967296:Nat):Int):=by
 have h:=bits_and_u64_nat x 4294967295 hx (by omega)
 rw[show x &&& 4294967295=x%4294967296 from Nat.and_two_pow_sub_one_eq_mod x 32] at h
 exact h
def Ztr(V g:Nat)(w0:World)(i:Value)(wr:World):Prop :=
 ∃(j a b c d:Nat),j≤16∧i=.int .i64 ((j:Int) - 1)∧Wo B64 [a,b,c,d]∧vb B64 [a,b,c,d]=V / 4294967296 ^ j%Lq∧Bl wr g 108 (nl [a,b,c,d]).toArray∧w0.grownBy wr (some g)
theorem Zde{w w':World}{g:Nat}(h:TabL w)(hg:w.grownBy w' (some g))(hne:7≠g):TabL w':=by
 have ne:∀k:Nat,some g≠some (⟨7,k,none⟩:Addr).block:=fun k h=>by injection h with h;exact hne h.symm
 exact⟨(Z0k hg (p:=⟨7,0,none⟩) (Z0h h.1) (ne 0)).trans h.1,(Z0k hg (p:=⟨7,1,none⟩) (Z0h h.2.1) (ne 1)).trans h.2.1,(Z0k hg (p:=⟨7,2,none⟩) (Z0h h.2.2.1) (ne 2)).trans h.2.2.1,(Z0k hg (p:=⟨7,3,none⟩) (Z0h h.2.2.2) (ne 3)).trans h.2.2.2⟩
theorem Z7h (l : List Nat) (w : World) (tab : TabL w) (hl : l.length = 8) (hr : Wo B64 l) :
    Calls Tryz.prog 109 #[.agg (nl l).toArray] w (RetW (vb B64 l % Lq) w) := by
  have a0 := (((Below.refl w.heap.size w).alloc (Nat.le_refl _) (.cells (nl l).toArray 97)).alloc (by simp) (.cells (nl [0, 0, 0, 0]).toArray 108)).alloc (by simp; omega) (.cells (nl [0, 0, 0, 0]).toArray 108)
  have TB := Lib.hid (tab.below a0)
  have D1 := Lib.hid a0
  have BL0 := Lib.hid (((Bl.new_ w 97 (nl l).toArray).alloc (.cells (nl [0, 0, 0, 0]).toArray 108)).alloc (.cells (nl [0, 0, 0, 0]).toArray 108))
  have BZ := Lib.hid ((Bl.new' (w := w.alloc (.cells (nl l).toArray 97)) (g := w.heap.size + 1) 108 (nl [0, 0, 0, 0]).toArray (by simp)).alloc (.cells (nl [0, 0, 0, 0]).toArray 108))
  have BS := Lib.hid (Bl.new' (w := (w.alloc (.cells (nl l).toArray 97)).alloc (.cells (nl [0, 0, 0, 0]).toArray 108)) (g := w.heap.size + 1 + 1) 108 (nl [0, 0, 0, 0]).toArray (by simp))
  have HGO := Lib.hid (show 7 < w.heap.size from Z0h tab.1)
  have HL := Lib.hid hl
  have HR := Lib.hid hr
  obtain ⟨V, hV⟩ : ∃ V, vb B64 l = V := ⟨_, rfl⟩
  rw [hV]
  have HV := Lib.hid hV
  have V0 := Lib.hid (show V / 4294967296 ^ 16 % Lq = 0 by
    have h1 := Zd9 B64 l hr Z1x
    rw [hV, hl] at h1
    have h2 : B64 ^ 8 = 4294967296 ^ 16 := by rw [Z0q]
    rw [Nat.div_eq_of_lt (by rw [← h2]; exact h1), Nat.zero_mod])
  clear tab a0 hl hr hV
  go_enter Tryz.func109, Tryz.ntmps109
  go_upto_region 2 with fail
  change Code.wp _ _ _ _ (((w.alloc (.cells (nl l).toArray 97)).alloc (.cells (nl [0, 0, 0, 0]).toArray 108)).alloc (.cells (nl [0, 0, 0, 0]).toArray 108))
  generalize ((w.alloc (.cells (nl l).toArray 97)).alloc (.cells (nl [0, 0, 0, 0]).toArray 108)).alloc (.cells (nl [0, 0, 0, 0]).toArray 108) = W2 at TB D1 BL0 BZ BS ⊢
  go_wp2_with fail
  go_loopw [4] (fun i wr => Ztr V (w.heap.size + 1 + 1) W2 i wr) (fun i _ => (intOf i + 1).toNat)
  case atStart => exact ⟨16, 0, 0, 0, 0, Nat.le_refl _, rfl, fun x hx => by simp at hx; rw [hx]; exact Z1x, by rw [V0.out]; simp [Z2b, Z3m], BS.out, World.grownBy.refl _ _⟩
  case round =>
    obtain ⟨wo, rfl⟩ : ∃ wo : World, wo = wr := ⟨_, rfl⟩
    obtain ⟨j, a, b, c, d, hj, rfl, hw4, hv4, hbl, hgr⟩ := hrel
    have W4 := Lib.hid hw4
    have V4 := Lib.hid hv4
    have BX := Lib.hid hbl
    have GR := Lib.hid hgr
    have DR := Lib.hid (show Below w.heap.size w wo from D1.out.grown hgr D1.out.size (by intro x hx; injection hx with hx; omega))
    have BL := Lib.hid (BL0.out.grown hgr (by intro h; injection h with h; omega))
    have BZR := Lib.hid (BZ.out.grown hgr (by intro h; injection h with h; omega))
    have TBR := Lib.hid (Zde TB.out hgr (by have := HGO.out; omega))
    clear hw4 hv4 hbl hgr
    have a0 : wo.cell? ⟨w.heap.size + 1 + 1, 0, none⟩ = some (.int .u64 (a : Int)) := BX.out.cell_ rfl
    have a1 : wo.cell? ⟨w.heap.size + 1 + 1, 1, none⟩ = some (.int .u64 (b : Int)) := BX.out.cell_ rfl
    have a2 : wo.cell? ⟨w.heap.size + 1 + 1, 2, none⟩ = some (.int .u64 (c : Int)) := BX.out.cell_ rfl
    have a3 : wo.cell? ⟨w.heap.size + 1 + 1, 3, none⟩ = some (.int .u64 (d : Int)) := BX.out.cell_ rfl
    rcases j with _ | p
    · have z0 : wo.cell? ⟨w.heap.size + 1, 0, none⟩ = some (.int .u64 0) := BZR.out.cell_ rfl
      have z1 : wo.cell? ⟨w.heap.size + 1, 1, none⟩ = some (.int .u64 0) := BZR.out.cell_ rfl
      have z2 : wo.cell? ⟨w.heap.size + 1, 2, none⟩ = some (.int .u64 0) := BZR.out.cell_ rfl
      have z3 : wo.cell? ⟨w.heap.size + 1, 3, none⟩ = some (.int .u64 0) := BZR.out.cell_ rfl
      have f0 := BZR.out.frozen 0
      have f1 := BZR.out.frozen 1
      have f2 := BZR.out.frozen 2
      have f3 := BZR.out.frozen 3
      have VV := Lib.hid (show vb B64 [a, b, c, d] = V % Lq by have := V4.out; rwa [Nat.pow_zero, Nat.div_one] at this)
      go_wp2
      refine bodyPost_ret (v := .agg #[.int .u64 (a : Int), .int .u64 (b : Int), .int .u64 (c : Int), .int .u64 (d : Int)]) ?_ rfl ⟨a, b, c, d, rfl, W4.out, VV.out, Z3y DR.out (by omega) _ _ _ _⟩
      simp [results, Tryz.results109, go_sem, z0, z1, z2, z3]
    · have ep : (((p + 1 : Nat) : Int) - 1) = (p : Int) := by omega
      rw [ep]
      clear ep
      have p0 : (0 : Int) ≤ (p : Int) := by omega
      have p16 : (p : Int) < 16 := by omega
      obtain ⟨q, hq⟩ : ∃ q, p / 2 = q := ⟨_, rfl⟩
      obtain ⟨m, hm⟩ : ∃ m, p % 2 = m := ⟨_, rfl⟩
      obtain ⟨s, hs⟩ : ∃ s, m * 32 = s := ⟨_, rfl⟩
      have e1 : (p : Int) / 2 = (q : Int) := by omega
      have e2 : (p : Int) % 2 = (m : Int) := by omega
      have e3 : (m : Int) * 32 = (s : Int) := by omega
      have q8 : (q : Int) < 8 := by omega
      have s64 : (s : Int) < 64 := by omega
      have m2 : (m : Int) < 2 := by omega
      obtain ⟨x, hx⟩ : ∃ x, x = l.getD q 0 := ⟨_, rfl⟩
      have cx := Z0u BL.out (k := q) (by rw [HL.out]; omega)
      rw [← hx] at cx
      have xb : x < 18446744073709551616 := by
        have := HR.out.get q Z1x
        rwa [← hx, Z0q] at this
      obtain ⟨y, hy⟩ : ∃ y, x / 2 ^ s = y := ⟨_, rfl⟩
      have ey : (x : Int) / 2 ^ s = (y : Int) := by rw [← hy]; simp
      have yb : y < 18446744073709551616 := by rw [← hy]; exact Nat.lt_of_le_of_lt (Nat.div_le_self _ _) xb
      obtain ⟨z, hz⟩ : ∃ z, y % 4294967296 = z := ⟨_, rfl⟩
      have ez : bits .and .u64 (y : Int) 4294967295 = (z : Int) := by rw [Ztq y yb, hz]
      have ZV := Lib.hid (show z = V / 4294967296 ^ p % 4294967296 by
        have h1 : V / B64 ^ q % B64 = x := by rw [hx, ← HV.out]; exact Zr7 B64 l q HR.out Z1x
        have h2 := Zgw B64 4294967296 V q m x (by rw [Z0q]) (by decide) h1 (by omega)
        have h3 : (4294967296 : Nat) ^ m = 2 ^ s := by rw [show (4294967296 : Nat) = 2 ^ 32 from rfl, ← Nat.pow_mul, ← hs, Nat.mul_comm]
        rw [h3, hy, hz, show 2 * q + m = p by omega] at h2
        exact h2)
      have ZB := Lib.hid (show z < 4294967296 by omega)
      have PP := Zdd a b c d z wo TBR.out W4.out (by rw [V4.out]; exact Nat.mod_lt _ Z9m) ZB.out
      rw [V4.out, Zj9, ← Zgx V 4294967296 p z ZV.out] at PP
      have PP := Lib.hid PP
      clear hq hm hs hx xb hy yb hz
      go_wp2_with fail
      (with_reducible refine PP.out.mono ?_)
      rintro e w5 ⟨s0, s1, s2, s3, rfl, hw5, hv5, hb5⟩
      have BX5 := Lib.hid (BX.out.below' hb5)
      have W5 := Lib.hid hw5
      have V5 := Lib.hid hv5
      have G5 := Lib.hid (Z39 GR.out (hb5.mono GR.out.size))
      clear hw5 hv5 hb5 a0 a1 a2 a3 PP e1 e2 e3 q8 s64 m2 ey ez cx
      have f0 := BX5.out.frozen 0
      have f1 := BX5.out.frozen 1
      have f2 := BX5.out.frozen 2
      have f3 := BX5.out.frozen 3
      have a0 : w5.cell? ⟨w.heap.size + 1 + 1, 0, none⟩ = some (.int .u64 (a : Int)) := BX5.out.cell_ rfl
      have a1 : w5.cell? ⟨w.heap.size + 1 + 1, 1, none⟩ = some (.int .u64 (b : Int)) := BX5.out.cell_ rfl
      have a2 : w5.cell? ⟨w.heap.size + 1 + 1, 2, none⟩ = some (.int .u64 (c : Int)) := BX5.out.cell_ rfl
      have a3 : w5.cell? ⟨w.heap.size + 1 + 1, 3, none⟩ = some (.int .u64 (d : Int)) := BX5.out.cell_ rfl
      go_wp2_with fail
      go_roundw
      case rel => exact ⟨p, s0, s1, s2, s3, by omega, rfl, W5.out, V5.out, by
          have := (((BX5.out.set_ 0 (.int .u64 (s0 : Int))).set_ 1 (.int .u64 (s1 : Int))).set_ 2 (.int .u64 (s2 : Int))).set_ 3 (.int .u64 (s3 : Int))
          rwa [set4 rfl] at this, Z0d (p := ⟨w.heap.size + 1 + 1, 3, none⟩) (Z0d (p := ⟨w.heap.size + 1 + 1, 2, none⟩) (Z0d (p := ⟨w.heap.size + 1 + 1, 1, none⟩) (Z0d (p := ⟨w.heap.size + 1 + 1, 0, none⟩) G5.out (.inl rfl) _) (.inl rfl) _) (.inl rfl) _) (.inl rfl) _⟩
      case measure => simp [intOf] <;> omega
end Go.Proofs.YtjimhjfjfpeojaaGreatDoor.Fd
