/- Joined texts. -/
import Derived.Test.YtoibhnpmemnlfaaGreatDoorQtFsJoin
set_option linter.unusedVariables false
namespace Go.Proofs.YtoibhnpmemnlfaaGreatDoor.Fd
open Go.RowKit Go.Proofs.YtoibhnpmemnlfaaGreatDoor.Gn Go.Deep
def p220:Nat:=1684996666696914987166688442938726917102321526408785780068975640576
theorem p220_3:p220=18446744073709551616 ^ 3*268435456:=by decide
theorem p220_32:p220*4294967296=p252:=by unfold p252;decide
theorem p220_pos:0 < p220:=by decide
theorem p220_B:p220=B64 ^ 3*268435456:=by rw[B64_eq];exact p220_3
theorem p252_B:p252 < B64 ^ 4:=by rw[B64_4];have:=p220_32;have:=p220_pos;omega
theorem Lq_p:Lq < p220*4294967297:=by
 have h1:=Lq_split
 have h2:c125 < p220:=by unfold c125 p220;decide
 have h3:=p220_32
 rw[show(4294967297:Nat)=4294967296+1 from rfl,Nat.mul_add];omega
attribute [irreducible] p220
theorem push_split(C3 lo d p:Nat)(hC:0 < C3)(hl:lo < C3)(hp:p=C3*268435456):(lo+C3*d) / p=d / 268435456∧(lo+C3*d)%p=lo+C3*(d%268435456):=by
 have e:lo+C3*d=lo+C3*(d%268435456)+p*(d / 268435456):=by
  have:=Nat.mod_add_div d 268435456
  conv=>lhs;rw[←this,Nat.mul_add,←Nat.mul_assoc,←hp]
  omega
 have hm:d%268435456 < 268435456:=Nat.mod_lt _ (by decide)
 have hb:lo+C3*(d%268435456) < p:=by
  have:=Nat.mul_le_mul_left C3 (show d%268435456+1≤268435456 from hm)
  rw[Nat.mul_add] at this
  omega
 have hp0:0 < p:=by omega
 constructor
 ·rw[e,Nat.add_mul_div_left _ _ hp0,Nat.div_eq_of_lt hb,Nat.zero_add]
 ·rw[e,Nat.add_mul_mod_self_left,Nat.mod_eq_of_lt hb]
theorem push_val(v piece:Nat):4294967296*(v%p220)+piece+v / p220*p252=v*4294967296+piece:=by
 have:=Nat.mod_add_div v p220
 have h2:=p220_32
 have e:v / p220*p252=p220*(v / p220)*4294967296:=by rw[←h2,←Nat.mul_assoc,Nat.mul_comm (v / p220)]
 rw[e]
 generalize p220*(v / p220)=z at *
 omega
theorem and28(x:Nat)(hx:x < 18446744073709551616):bits .and .u64 (x:Int) 268435455=((x%268435456:Nat):Int):=by
 have h:=bits_and_u64_nat x 268435455 hx (by omega)
 rw[show x &&& 268435455=x%268435456 from Nat.and_two_pow_sub_one_eq_mod x 28] at h
 exact h
theorem or32(x p:Nat)(hx:x < 18446744073709551616)(hp:p < 4294967296):bits .or .u64 (IntKind.u64.wrap ((x:Int)*4294967296)) (p:Int)=((x%4294967296*4294967296+p:Nat):Int):=by
 have e:IntKind.u64.wrap ((x:Int)*4294967296)=((x%4294967296*4294967296:Nat):Int):=by rw[IntKind.wrap_u64];omega
 rw[e,bits_or_u64_nat _ _ (by omega) (by omega)]
 have:=or_add (x%4294967296) p 32 hp
 rw[show(2:Nat) ^ 32=4294967296 from rfl] at this
 rw[this]
def PuRel(r1:List Nat)(piece g:Nat)(w0:World)(p i:Value)(wr:World):Prop :=
 ∃(k q:Nat) (R:List Nat),k≤4∧i=.int .i64 (k:Int)∧p=.int .u64 (q:Int)∧q < 4294967296∧R.length=4∧Wo B64 R∧(∀j,k≤j→R.getD j 0=r1.getD j 0) ∧
  vb B64 (R.take k)+B64 ^ k*q=4294967296*vb B64 (r1.take k)+piece∧Bl wr g 51 (nl R).toArray∧w0.grownBy wr (some g)
set_option maxHeartbeats 8000000 in
set_option maxRecDepth 100000 in
theorem pushed_any(a b c d piece:Nat)(w:World)(tab:TabL w)(hr:Wo B64 [a,b,c,d])(hv:vb B64 [a,b,c,d] < Lq)(hp:piece < 4294967296) :
  Calls Tryz.prog 55 #[.agg #[.int .u64 (a:Int),.int .u64 (b:Int),.int .u64 (c:Int),.int .u64 (d:Int)],.int .u64 (piece:Int)] w (RetW ((vb B64 [a,b,c,d]*4294967296+piece)%Lq) w):=by
 have HP:=Lib.hid hp
 have HGO:=Lib.hid (show 6≠w.heap.size from Nat.ne_of_lt (cell_lt tab.1))
 have a1:=((Below.refl w.heap.size w).alloc (Nat.le_refl _) (.cells (nl [a,b,c,d]).toArray 51)).alloc (by simp) (.cells (nl [0,0,0,0]).toArray 51)
 have TB:=Lib.hid (tab.below a1)
 have D1:=Lib.hid a1
 have BR:=Lib.hid ((Bl.new_ w 51 (nl [a,b,c,d]).toArray).alloc (.cells (nl [0,0,0,0]).toArray 51))
 have BZ:=Lib.hid (Bl.new' (w:=w.alloc (.cells (nl [a,b,c,d]).toArray 51)) (g:=w.heap.size+1) 51 (nl [0,0,0,0]).toArray (by simp))
 have db:d < 18446744073709551616:=by rw[←B64_eq];exact hr d (by simp)
 have lo3:vb B64 [a,b,c] < B64 ^ 3:=vb_lt B64 [a,b,c] (fun x hx=>hr x (by simp at hx ⊢;omega)) B64_pos
 have vsp:∀e,vb B64 [a,b,c,e]=vb B64 [a,b,c]+B64 ^ 3*e:=fun e=>by
  have:=vb_take_succ B64 [a,b,c,e] 3
  exact this
 obtain⟨m,hm⟩:∃m,d%268435456=m:=⟨_,rfl⟩
 obtain⟨n,hn⟩:∃n,d / 268435456=n:=⟨_,rfl⟩
 obtain⟨V,hV⟩:∃V,vb B64 [a,b,c,d]=V:=⟨_,rfl⟩
 have sp:=push_split (B64 ^ 3) (vb B64 [a,b,c]) d p220 (Nat.pow_pos B64_pos) lo3 p220_B
 rw[←vsp d,hV,hn,hm,←vsp m] at sp
 rw[hV] at hv ⊢
 have VN:=Lib.hid sp.1
 have VM:=Lib.hid sp.2
 have NB:=Lib.hid (show n≤4294967296 by
  have h1:V < p220*4294967297:=Nat.lt_trans hv Lq_p
  have h2:V / p220 < 4294967297:=Nat.div_lt_of_lt_mul h1
  rw[sp.1] at h2;omega)
 have em:bits .and .u64 (d:Int) 268435455=(m:Int):=by rw[and28 d db,hm]
 have en:(d:Int) / 268435456=(n:Int):=by omega
 have WR1:=Lib.hid (show Wo B64 [a,b,c,m] from fun x hx=>by
  simp at hx
  rcases hx with rfl|rfl|rfl|rfl
  ·exact hr _ (by simp)
  ·exact hr _ (by simp)
  ·exact hr _ (by simp)
  ·rw[B64_eq];omega)
 clear hr hp tab a1 db lo3 vsp hm hn sp hv hV
 go_enter Tryz.func55,Tryz.ntmps55
 go_upto_region 1 with fail
 change Code.wp _ _ _ _ ((w.alloc (.cells (nl [a,b,c,d]).toArray 51)).alloc (.cells (nl [0,0,0,0]).toArray 51))
 generalize(w.alloc (.cells (nl [a,b,c,d]).toArray 51)).alloc (.cells (nl [0,0,0,0]).toArray 51)=W1 at TB D1 BR BZ ⊢
 have c3:W1.cell? ⟨w.heap.size,3,none⟩=some (.int .u64 (d:Int)):=BR.out.cell_ rfl
 have f3:=BR.out.frozen 3
 go_upto_region 3 with fail
 have BR2:=Lib.hid (show Bl (W1.setCell ⟨w.heap.size,3,none⟩ (.int .u64 (m:Int))) w.heap.size 51 (nl [a,b,c,m]).toArray from BR.out.set_ 3 (.int .u64 (m:Int)))
 have GR2:=Lib.hid (show W1.grownBy (W1.setCell ⟨w.heap.size,3,none⟩ (.int .u64 (m:Int))) (some w.heap.size) from only_set (World.grownBy.refl W1 _) (.inl rfl) _)
 have D2:=Lib.hid (show Below w.heap.size w (W1.setCell ⟨w.heap.size,3,none⟩ (.int .u64 (m:Int))) from D1.out.setCell (p:=⟨w.heap.size,3,none⟩) (Nat.le_refl _) _)
 clear c3 f3 em en
 generalize W1.setCell ⟨w.heap.size,3,none⟩ (.int .u64 (m:Int))=W2 at BR2 GR2 D2 ⊢
 go_wp2_with fail
 go_loopw [1,14] (fun p i wr=>PuRel [a,b,c,m] piece w.heap.size W1 p i wr) (fun _ i _=>4 - (intOf i).toNat)
 case atStart=>exact⟨0,piece,[a,b,c,m],Nat.zero_le _,rfl,rfl,HP.out,rfl,WR1.out,fun _ _=>rfl,by simp[vb_nil],BR2.out,GR2.out⟩
 case round =>
  obtain⟨k,q,R,hk,rfl,rfl,hq,hRl,hRw,hRs,hRv,hbl,hgr⟩:=hrel
  have RL:=Lib.hid hRl
  have RW:=Lib.hid hRw
  have RS:=Lib.hid hRs
  have RV:=Lib.hid hRv
  have BL:=Lib.hid hbl
  have GR:=Lib.hid hgr
  have Q:=Lib.hid hq
  clear hRl hRw hRs hRv hbl hgr hq
  by_cases hlt:k < 4
  ·obtain⟨x,hx⟩:∃x,x=[a,b,c,m].getD k 0:=⟨_,rfl⟩
   have cx:=nl_cell BL.out (k:=k) (by rw[RL.out];exact hlt)
   rw[RS.out k (Nat.le_refl _),←hx] at cx
   have fx:=BL.out.frozen k
   have xb:x < 18446744073709551616:=by
    have:=WR1.out.get k B64_pos
    rwa [←hx,B64_eq] at this
   obtain⟨y,hy⟩:∃y,x%4294967296*4294967296+q=y:=⟨_,rfl⟩
   obtain⟨q',hq'⟩:∃q',x / 4294967296=q':=⟨_,rfl⟩
   have eo:bits .or .u64 (IntKind.u64.wrap ((x:Int)*4294967296)) (q:Int)=(y:Int):=by rw[or32 x q xb Q.out,hy]
   have eq':(x:Int) / 4294967296=(q':Int):=by omega
   have hq0:=Q.out
   have NX:=Lib.hid (push_step B64 4294967296 q q' x y k piece R [a,b,c,m] (by rw[RL.out];exact hlt) hx RV.out (by rw[B64_eq];omega))
   have YB:=Lib.hid (show y < B64 by rw[B64_eq];omega)
   have QB:=Lib.hid (show q' < 4294967296 by omega)
   have k4:(k:Int) < 4:=by omega
   have k0:(0:Int)≤(k:Int):=by omega
   clear hx xb hy hq' hq0
   go_wp2_with fail
   go_region_with (fail)
   all_goals go_wp2_with fail
   all_goals
    clear eo eq'
    go_roundw
    case rel=>exact⟨k+1,q',R.set k y,by omega,by go_num,rfl,QB.out,by rw[List.length_set];exact RL.out,RW.out.set _ _ YB.out,fun p hp=>by rw[getD_set_ne _ _ _ _ (by omega)];exact RS.out p (by omega),NX.out,by rw[←nlu_set];exact BL.out.drew.set_ k _,only_set (p:=⟨w.heap.size,k,none⟩) (only_drew GR.out) (.inl rfl) _⟩
    case measure=>simp[intOf];omega
  ·obtain rfl:k=4:=by omega
   have q0:q=0:=by
    have h1:=RV.out
    rw[vb_take_all B64 R 4 RL.out,vb_take_all B64 [a,b,c,m] 4 rfl,←VM.out] at h1
    have h2:V%p220 < p220:=Nat.mod_lt _ p220_pos
    have h3:=p220_32
    have h4:=p252_B
    have h5:=HP.out
    rcases Nat.eq_zero_or_pos q with h|h
    ·exact h
    ·have:=Nat.mul_le_mul_left (B64 ^ 4) (show 1≤q from h)
     omega
   have RV4:=Lib.hid (show vb B64 R=4294967296*(V%p220)+piece by
    have h1:=RV.out
    rw[vb_take_all B64 R 4 RL.out,vb_take_all B64 [a,b,c,m] 4 rfl,←VM.out,q0,Nat.mul_zero,Nat.add_zero] at h1
    exact h1)
   have DR:=Lib.hid (show Below w.heap.size w wr from D1.out.grown GR.out D1.out.size (by intro x hx;injection hx with hx;omega))
   have BZR:=Lib.hid (BZ.out.grown GR.out (by intro h;injection h with h;omega))
   have HGL:=Lib.hid (show 6≠w.heap.size from HGO.out)
   have TBR:=Lib.hid (show TabL wr from⟨(only_cell GR.out (p:=⟨6,0,none⟩) (cell_lt TB.out.1) (by intro h;injection h with h;exact HGL.out h.symm)).trans TB.out.1,(only_cell GR.out (p:=⟨6,1,none⟩) (cell_lt TB.out.2.1) (by intro h;injection h with h;exact HGL.out h.symm)).trans TB.out.2.1,(only_cell GR.out (p:=⟨6,2,none⟩) (cell_lt TB.out.2.2.1) (by intro h;injection h with h;exact HGL.out h.symm)).trans TB.out.2.2.1,(only_cell GR.out (p:=⟨6,3,none⟩) (cell_lt TB.out.2.2.2) (by intro h;injection h with h;exact HGL.out h.symm)).trans TB.out.2.2.2⟩)
   obtain⟨a',b',c',d',hR⟩:=four RL.out
   subst hR
   have a0:wr.cell? ⟨w.heap.size,0,none⟩=some (.int .u64 (a':Int)):=BL.out.cell_ rfl
   have a1:wr.cell? ⟨w.heap.size,1,none⟩=some (.int .u64 (b':Int)):=BL.out.cell_ rfl
   have a2:wr.cell? ⟨w.heap.size,2,none⟩=some (.int .u64 (c':Int)):=BL.out.cell_ rfl
   have a3:wr.cell? ⟨w.heap.size,3,none⟩=some (.int .u64 (d':Int)):=BL.out.cell_ rfl
   have JJ:=joined_any [a',b',c',d'] n wr TBR.out rfl RW.out (by
    rw[RV4.out]
    have h2:V%p220 < p220:=Nat.mod_lt _ p220_pos
    have h3:=p220_32
    have:=HP.out
    omega) NB.out
   have EV:vb B64 [a',b',c',d']+n*p252=V*4294967296+piece:=by rw[RV4.out,←VN.out];exact push_val V piece
   rw[EV] at JJ
   clear EV
   have JJ:=Lib.hid (show Calls Tryz.prog 77 #[.agg #[.int .u64 (a':Int),.int .u64 (b':Int),.int .u64 (c':Int),.int .u64 (d':Int)],.int .u64 (n:Int)] wr (RetW ((V*4294967296+piece)%Lq) wr) from JJ)
   clear q0
   go_wp2_with fail
   (with_reducible refine JJ.out.mono ?_)
   rintro e w5 ⟨s0,s1,s2,s3,rfl,hw5,hv5,hb5⟩
   have BZ5:=Lib.hid (BZR.out.below' hb5)
   have D5:=Lib.hid (bel_n3 DR.out hb5)
   have W5:=Lib.hid hw5
   have V5:=Lib.hid hv5
   clear hw5 hv5 hb5 a0 a1 a2 a3 JJ
   have z0:w5.cell? ⟨w.heap.size+1,0,none⟩=some (.int .u64 0):=BZ5.out.cell_ rfl
   have z1:w5.cell? ⟨w.heap.size+1,1,none⟩=some (.int .u64 0):=BZ5.out.cell_ rfl
   have z2:w5.cell? ⟨w.heap.size+1,2,none⟩=some (.int .u64 0):=BZ5.out.cell_ rfl
   have z3:w5.cell? ⟨w.heap.size+1,3,none⟩=some (.int .u64 0):=BZ5.out.cell_ rfl
   have f0:=BZ5.out.frozen 0
   have f1:=BZ5.out.frozen 1
   have f2:=BZ5.out.frozen 2
   have f3:=BZ5.out.frozen 3
   go_wp2
   refine bodyPost_ret (v:=.agg #[.int .u64 (s0:Int),.int .u64 (s1:Int),.int .u64 (s2:Int),.int .u64 (s3:Int)]) ?_ rfl ⟨s0,s1,s2,s3,rfl,W5.out,V5.out,set4_below D5.out (by omega) _ _ _ _⟩
   simp[results,Tryz.results55,go_sem,z0,z1,z2,z3]
end Go.Proofs.YtoibhnpmemnlfaaGreatDoor.Fd
