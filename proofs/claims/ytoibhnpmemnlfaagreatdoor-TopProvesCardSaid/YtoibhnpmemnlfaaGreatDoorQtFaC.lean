/- Joined texts. -/
import Derived.Deep.OwnRows
import Derived.Deep.RegionHeld3
import Derived.Test.YtoibhnpmemnlfaaGreatDoorQtFaA
import Derived.Test.YtoibhnpmemnlfaaGreatDoorQtPuA
set_option linter.unusedVariables false
namespace Go.Proofs.YtoibhnpmemnlfaaGreatDoor.Fd
open Go.RowKit Go.Proofs.YtoibhnpmemnlfaaGreatDoor.Gn Go.Deep
theorem nl_get?(l:List Nat)(k:Nat):(nl l)[k]?=l[k]?.map fun(x:Nat)=>Value.int .u64 (x:Int):=by simp[nl]
theorem nl_set(l:List Nat)(k x:Nat):(nl l).toArray.setIfInBounds k (.int .u64 (x:Int))=(nl (l.set k x)).toArray:=by simp[nl,List.setIfInBounds_toArray,List.map_set]
theorem or_shift(o x m:Nat)(ho:o < 256 ^ m)(hx:x < 256)(hm:m < 8):bits .or .u64 (o:Int) (IntKind.u64.wrap ((x:Int)*2 ^ (m*8)))=((o+x*256 ^ m:Nat):Int):=by
 have e:(256:Nat) ^ m=2 ^ (m*8):=by rw[show(256:Nat)=2 ^ 8 from rfl,←Nat.pow_mul,Nat.mul_comm]
 have hp:256 ^ m≤256 ^ 7:=Nat.pow_le_pow_right (by decide) (by omega)
 have hp7:(256:Nat) ^ 7=72057594037927936:=rfl
 have hxm:x*256 ^ m≤255*256 ^ m:=Nat.mul_le_mul_right _ (by omega)
 have h1:IntKind.u64.wrap ((x:Int)*2 ^ (m*8))=((x*256 ^ m:Nat):Int):=by
  have e':(x:Int)*2 ^ (m*8)=((x*256 ^ m:Nat):Int):=by rw[e];simp
  rw[e',IntKind.wrap_u64];omega
 rw[h1,bits_or_u64_nat _ _ (by omega) (by omega),Nat.or_comm,e,or_add _ _ _ (by rw[←e];exact ho),Nat.add_comm]
def WoRel(l:List Nat)(g:Nat)(w0:World)(i:Value)(wr:World):Prop :=
 ∃k:Nat,k≤l.length∧i=.int .i64 (k:Int)∧Bl wr g 53 (nl (wl (l.take k) 8)).toArray∧w0.grownBy wr (some g)
set_option maxHeartbeats 2000000 in
theorem wordsOf_any(A:Option Addr)(n c:Nat)(l:List Nat)(w:World)(hn:n≤64)(hl:∀x∈l,x < 256)(hs:Sl w A n (bl l)) :
  Calls Tryz.prog 27 #[.slice A n c] w fun e w'=>e=.returned (.agg (nl (wl l 8)).toArray)∧Below w.heap.size w w':=by
 have hln:l.length=n:=by simpa[bl] using hs.1
 have HN:=Lib.hid hn
 have HL:=Lib.hid hl
 have HS:=Lib.hid hs
 have HLN:=Lib.hid hln
 clear hl hs hln hn
 go_enter Tryz.func27,Tryz.ntmps27
 go_wp2
 go_loopw [8] (fun i wr=>WoRel l (w.heap.size+1) ((w.alloc (.cells (nl [0,0,0,0,0,0,0,0]).toArray 53)).alloc (.cells (nl [0,0,0,0,0,0,0,0]).toArray 53)) i wr) (fun i _=>n - (intOf i).toNat)
 case atStart=>exact⟨0,Nat.zero_le _,rfl,Bl.new' _ _ (by simp),World.grownBy.refl _ _⟩
 case round =>
  obtain⟨k,hk,rfl,hb,hgr⟩:=hrel
  have HB:=Lib.hid hb
  have HG:=Lib.hid hgr
  rw[HLN.out] at hk
  clear hgr
  by_cases hlt:k < n
  ·obtain⟨x,hx⟩:∃x,l[k]?=some x:=⟨l[k]'(by have:=HLN.out;omega),List.getElem?_eq_getElem _⟩
   obtain⟨ad,rfl,hcell⟩:=HS.out.at_ hlt
   have hx8:=HL.out x (List.mem_of_getElem? hx)
   have hc:wr.cell? (ad.add k)=some (.int .u8 (x:Int)):=by
    have h1:w.cell? (ad.add k)=some (.int .u8 (x:Int)):=by rw[hcell];simp[bl,hx]
    have h0:=cell_lt h1
    rw[add_block] at h0
    rw[only_cell HG.out (by rw[add_block];simp;omega) (by rw[add_block];simp;omega)]
    have hb2:Below w.heap.size w ((w.alloc (.cells (nl [0,0,0,0,0,0,0,0]).toArray 53)).alloc (.cells (nl [0,0,0,0,0,0,0,0]).toArray 53)):=((Below.refl _ _).alloc (Nat.le_refl _) _).alloc (by simp) _
    exact(hb2.cell (by rw[add_block];exact h0)).trans h1
   obtain⟨o,ho⟩:∃o,wo (l.take k) (k / 8)=o:=⟨_,rfl⟩
   have k8:k / 8 < 8:=by have:=HN.out;omega
   have c1:=hb.cell_ (i:=k / 8) (v:=.int .u64 (o:Int)) (by rw[List.getElem?_toArray,nl_get?,wl_get? _ _ _ k8,ho];rfl)
   have c2:=hb.frozen (k / 8)
   obtain⟨q,hq⟩:∃q,k / 8=q:=⟨_,rfl⟩
   obtain⟨m,hm⟩:∃m,k%8=m:=⟨_,rfl⟩
   obtain⟨s,hs⟩:∃s,m*8=s:=⟨_,rfl⟩
   rw[hq] at c1 c2 k8 ho
   have e1:(k:Int).tdiv 8=(q:Int):=by rw[Int.tdiv_eq_ediv_of_nonneg (by omega)];omega
   have e1':IntKind.i64.wrap (q:Int)=(q:Int):=by rw[IntKind.wrap_i64];omega
   have e2:(k:Int).tmod 8=(m:Int):=by rw[Int.tmod_eq_emod_of_nonneg (by omega)];omega
   have e2':IntKind.i64.wrap (m:Int)=(m:Int):=by rw[IntKind.wrap_i64];omega
   have e3:IntKind.i64.wrap ((m:Int)*8)=(s:Int):=by rw[IntKind.wrap_i64];omega
   have b1:(q:Int) < 8:=by omega
   have b2:(s:Int) < 64:=by omega
   have HX:=Lib.hid hx
   have HQ:=Lib.hid hq
   have V:=Lib.hid (show bits .or .u64 (o:Int) (IntKind.u64.wrap ((x:Int)*2 ^ s))=((o+x*256 ^ m:Nat):Int) by rw[←hs];exact or_shift o x m (by rw[←ho,←hm,←hq];exact wo_small l k HL.out) hx8 (by omega))
   have ES:=Lib.hid (show(wl (l.take k) 8).set q (o+x*256 ^ m)=wl (l.take (k+1)) 8 by rw[←ho,←hm,←hq];exact wl_step l 8 k x hx (by omega))
   have hn64:n≤64:=HN.out
   clear hcell hb hx hq hm hs ho
   go_wp2_with fail
   go_region
   all_goals
    clear e1 e1' e2 e2' e3 b1 b2
    go_wp2
    go_roundw
    case rel =>
     refine⟨k+1,by have:=HLN.out;omega,by go_num,?_,?_⟩
     ·rw[V.out,←ES.out,←nl_set];exact HB.out.set_ q _
     ·exact only_drew (only_set (p:=⟨w.heap.size+1,q,none⟩) HG.out (.inl rfl) _)
    case measure=>simp[intOf];omega
  ·obtain rfl:k=n:=by omega
   have hb':=HB.out
   rw[List.take_of_length_le (by have:=HLN.out;omega)] at hb'
   have h2:Bl wr w.heap.size 53 (nl [0,0,0,0,0,0,0,0]).toArray:=((Bl.new_ w _ _).alloc _).grown HG.out (by simp)
   have hB:Below w.heap.size w wr:=(((Below.refl w.heap.size w).alloc (Nat.le_refl _) _).alloc (by simp) _).grown HG.out (by simp;omega) (by simp)
   have HB2:=Lib.hid hB
   have d0:=hb'.cell_ (i:=0) (v:=.int .u64 (wo l 0:Int)) rfl
   have d1:=hb'.cell_ (i:=1) (v:=.int .u64 (wo l 1:Int)) rfl
   have d2:=hb'.cell_ (i:=2) (v:=.int .u64 (wo l 2:Int)) rfl
   have d3:=hb'.cell_ (i:=3) (v:=.int .u64 (wo l 3:Int)) rfl
   have d4:=hb'.cell_ (i:=4) (v:=.int .u64 (wo l 4:Int)) rfl
   have d5:=hb'.cell_ (i:=5) (v:=.int .u64 (wo l 5:Int)) rfl
   have d6:=hb'.cell_ (i:=6) (v:=.int .u64 (wo l 6:Int)) rfl
   have d7:=hb'.cell_ (i:=7) (v:=.int .u64 (wo l 7:Int)) rfl
   have r0:=h2.cell_ (i:=0) (v:=.int .u64 0) rfl
   have r1:=h2.cell_ (i:=1) (v:=.int .u64 0) rfl
   have r2:=h2.cell_ (i:=2) (v:=.int .u64 0) rfl
   have r3:=h2.cell_ (i:=3) (v:=.int .u64 0) rfl
   have r4:=h2.cell_ (i:=4) (v:=.int .u64 0) rfl
   have r5:=h2.cell_ (i:=5) (v:=.int .u64 0) rfl
   have r6:=h2.cell_ (i:=6) (v:=.int .u64 0) rfl
   have r7:=h2.cell_ (i:=7) (v:=.int .u64 0) rfl
   have f0:=h2.frozen 0
   have f1:=h2.frozen 1
   have f2:=h2.frozen 2
   have f3:=h2.frozen 3
   have f4:=h2.frozen 4
   have f5:=h2.frozen 5
   have f6:=h2.frozen 6
   have f7:=h2.frozen 7
   have HV:=Lib.hid (show(nl (wl l 8)).toArray = #[.int .u64 (wo l 0:Int),.int .u64 (wo l 1:Int),.int .u64 (wo l 2:Int),.int .u64 (wo l 3:Int),.int .u64 (wo l 4:Int),.int .u64 (wo l 5:Int),.int .u64 (wo l 6:Int),.int .u64 (wo l 7:Int)] from rfl)
   clear hb hb' h2 hB
   go_wp2
   refine bodyPost_ret (v:=.agg (nl (wl l 8)).toArray) ?_ rfl ⟨rfl,set8_below HB2.out (by omega) _ _ _ _ _ _ _ _⟩
   rw[HV.out]
   simp[results,Tryz.results27,go_sem,r0,r1,r2,r3,r4,r5,r6,r7]
def lay(L:List Nat)(k:Nat):List Nat:=L.take k ++ List.replicate (L.length - k) 0
theorem lay_len(L:List Nat)(k:Nat)(h:k≤L.length):(lay L k).length=L.length:=by simp[lay];omega
theorem lay_zero(L:List Nat):lay L 0=List.replicate L.length 0:=by simp[lay]
theorem lay_all(L:List Nat):lay L L.length=L:=by simp[lay]
theorem lay_get(L:List Nat)(k:Nat)(h:k < L.length):(lay L k)[k]?=some 0:=by
 unfold lay
 rw[List.getElem?_append_right (by rw[List.length_take];omega),List.length_take,List.getElem?_replicate,if_pos (by omega)]
theorem lay_set(L:List Nat)(k x:Nat)(h:L[k]?=some x):(lay L k).set k x=lay L (k+1):=by
 have hk:k < L.length:=(List.getElem?_eq_some_iff.1 h).1
 have hl:(L.take k).length=k:=by rw[List.length_take];omega
 unfold lay
 rw[show L.length - k=(L.length - (k+1))+1 by omega,List.replicate_succ,List.set_append_right _ _ (by omega),hl,Nat.sub_self,List.set_cons_zero,List.take_add_one,h]
 simp
theorem infob:(Tryz.prog.info? 5).map (fun i=>(i.zero,i.size,i.bytes))=some (some (.int .u8 0),1,8 / 8):=by kernel_rfl
theorem made_bytes(n:Nat):madeCells #[.int .u8 0] n=(bl (List.replicate n 0)).toArray:=by
 apply Array.ext'
 rw[toList_madeCells_one]
 simp[bl]
def RetB(l:List Nat)(w:World)(e:Ending)(w':World):Prop :=
 ∃g,e=.returned (.slice (some ⟨g,0,none⟩) l.length l.length)∧w.heap.size≤g∧Bl w' g 5 (bl l).toArray∧Below w.heap.size w w'
def ByRel(L:List Nat)(g:Nat)(w0:World)(i:Value)(wr:World):Prop :=
 ∃k:Nat,k≤32∧i=.int .i64 (k:Int)∧Bl wr g 5 (bl (lay L k)).toArray∧Below g w0 wr
theorem bl_set(l:List Nat)(k x:Nat):(bl l).toArray.setIfInBounds k (.int .u8 (x:Int))=(bl (l.set k x)).toArray:=by simp[bl,List.setIfInBounds_toArray,List.map_set]
set_option maxHeartbeats 2000000 in
theorem bytesOf_any(a b c d:Nat)(w:World) :
  Calls Tryz.prog 25 #[.agg #[.int .u64 (a:Int),.int .u64 (b:Int),.int .u64 (c:Int),.int .u64 (d:Int)]] w (RetB ((List.range 32).map (wb [a,b,c,d])) w):=by
 obtain⟨L,hL⟩:∃L,(List.range 32).map (wb [a,b,c,d])=L:=⟨_,rfl⟩
 have hlen:L.length=32:=by rw[←hL];simp
 have hmk:∀w,(Instr.makeSlice 22 (.int .i64 32) (.int .i64 32)).run Tryz.prog w=.ok (.slice (some ⟨w.heap.size,0,none⟩) 32 32) (w.alloc (.cells (madeCells #[.int .u8 0] 32) 5)) :=
  fun w=>run_make_row' (P:=Tryz.prog) 22 5 (.int .u8 0) 1 Tryz.underlying22 infob rfl .i64 .i64 32 (by omega) (by omega) w
 have hz:madeCells #[.int .u8 0] 32=(bl (lay L 0)).toArray:=by rw[lay_zero,hlen,made_bytes]
 rw[hz] at hmk
 have HGET:=Lib.hid (show ∀k,k < 32→L[k]?=some (wb [a,b,c,d] k) from fun k hk=>by rw[←hL];simp[hk])
 have HLEN:=Lib.hid hlen
 rw[hL]
 have HB0:=Lib.hid (fun t=>(Bl.new_ w 51 #[.int .u64 (a:Int),.int .u64 (b:Int),.int .u64 (c:Int),.int .u64 (d:Int)]).alloc t)
 clear hz hL hlen
 go_enter Tryz.func25,Tryz.ntmps25
 go_wp2
 go_loopw [8] (fun i wr=>ByRel L (w.heap.size+1) ((w.alloc (.cells #[.int .u64 (a:Int),.int .u64 (b:Int),.int .u64 (c:Int),.int .u64 (d:Int)] 51)).alloc (.cells (bl (lay L 0)).toArray 5)) i wr) (fun i _=>32 - (intOf i).toNat)
 case atStart=>exact⟨0,Nat.zero_le _,rfl,Bl.new' _ _ (by simp),Below.refl _ _⟩
 case round =>
  obtain⟨k,hk,rfl,hb,hbw⟩:=hrel
  have HB:=Lib.hid hb
  have HW:=Lib.hid hbw
  have hw0:=(HB0.out (.cells (bl (lay L 0)).toArray 5)).below hbw (by omega)
  by_cases hlt:k < 32
  ·obtain⟨q,hq⟩:∃q,k / 8=q:=⟨_,rfl⟩
   obtain⟨m,hm⟩:∃m,k%8=m:=⟨_,rfl⟩
   obtain⟨s,hs⟩:∃s,m*8=s:=⟨_,rfl⟩
   obtain⟨x,hx⟩:∃x,[a,b,c,d].getD q 0=x:=⟨_,rfl⟩
   obtain⟨y,hy⟩:∃y,wb [a,b,c,d] k=y:=⟨_,rfl⟩
   have c1:=hw0.cell_ (i:=q) (v:=.int .u64 (x:Int)) (by
    subst hx
    have hq4:q < 4:=by omega
    match q,hq4 with
    |0,_=>rfl
    |1,_=>rfl
    |2,_=>rfl
    |3,_=>rfl)
   have c2:=hb.cell_ (i:=k) (v:=.int .u8 0) (by rw[List.getElem?_toArray,bl_get,lay_get _ _ (by rw[HLEN.out];exact hlt)];rfl)
   have c3:=hb.frozen k
   have ev:IntKind.u8.wrap ((x:Int) / 2 ^ s)=(y:Int):=by
    rw[IntKind.wrap_u8,←hy]
    unfold wb
    rw[hq,hm,hx,←hs,show(256:Nat) ^ m=2 ^ (m*8) by rw[show(256:Nat)=2 ^ 8 from rfl,←Nat.pow_mul,Nat.mul_comm]]
    simp
   have e1:(k:Int) / 8=(q:Int):=by omega
   have e2:(k:Int)%8=(m:Int):=by omega
   have e3:(m:Int)*8=(s:Int):=by omega
   have b2:(s:Int) < 64:=by omega
   have b1:(q:Int) < 4:=by omega
   have ES:=Lib.hid (show(lay L k).set k y=lay L (k+1) from lay_set L k y (by rw[HGET.out k hlt,hy]))
   clear hb hbw hw0 hq hm hs hx hy
   go_wp2
   clear e1 e2 e3 b1 b2 ev
   go_roundw
   case rel =>
    refine⟨k+1,by omega,by go_num,?_,HW.out.setCell (p:=⟨w.heap.size+1,k,none⟩) (Nat.le_refl _) _⟩
    rw[←ES.out,←bl_set];exact HB.out.set_ k _
   case measure=>simp[intOf];omega
  ·obtain rfl:k=32:=by omega
   have hb':=HB.out
   rw[show(32:Nat)=L.length from HLEN.out.symm,lay_all] at hb'
   have HB':=Lib.hid hb'
   clear hb hbw hw0 hb'
   go_wp2
   go_ret
   refine⟨w.heap.size+1,by rw[HLEN.out];rfl,by omega,HB'.out,?_⟩
   exact(((Below.refl w.heap.size w).alloc (Nat.le_refl _) _).alloc (by simp) _).trans (HW.out.mono (by omega))
end Go.Proofs.YtoibhnpmemnlfaaGreatDoor.Fd
namespace Go.Proofs.YtoibhnpmemnlfaaGreatDoor.Fd
open Go.RowKit Go.Proofs.YtoibhnpmemnlfaaGreatDoor.Gn Go.Deep
theorem join(b h s:Nat)(p q:Nat)(hb:b < 2 ^ s)(hp:p=2 ^ s)(hq:p*q=18446744073709551616)(hh:h < 18446744073709551616)(hbq:b < 18446744073709551616) :
  bits .or .u64 (b:Int) (IntKind.u64.wrap ((h:Int)*(p:Int)))=((b+h%q*p:Nat):Int):=by
 have hq0:0 < q:=Nat.pos_of_ne_zero (by rintro rfl;simp at hq)
 have hp0:0 < p:=Nat.pos_of_ne_zero (by rintro rfl;simp at hq)
 have e:IntKind.u64.wrap ((h:Int)*(p:Int))=((h%q*p:Nat):Int):=by
  have e1:h*p%18446744073709551616=h%q*p:=by rw[←hq,Nat.mul_comm p q,Nat.mul_mod_mul_right]
  rw[IntKind.wrap_u64,←e1];simp
 have hl:h%q*p < 18446744073709551616:=by
  have:=Nat.mul_lt_mul_of_pos_right (Nat.mod_lt h hq0) hp0
  rw[←hq,Nat.mul_comm p q];exact this
 rw[e,bits_or_u64_nat _ _ hbq hl,Nat.or_comm,hp,or_add _ _ _ hb,Nat.add_comm]
theorem enc0(n:Nat)(h:n < pp):bits .or .u64 ((el n).a:Int) (IntKind.u64.wrap (((el n).b:Int)*2251799813685248))=((n%18446744073709551616:Nat):Int):=by
 have l:=el_low h
 have:=join (el n).a (el n).b 51 2251799813685248 8192 l.1 rfl rfl (by have:=l.2.1;omega) (by have:=l.1;omega)
 rw[show((2251799813685248:Nat):Int)=2251799813685248 from rfl] at this
 rw[this];congr 1
 show n%2251799813685248+n / 2251799813685248%2251799813685248%8192*2251799813685248=_;omega
theorem enc1(n:Nat)(h:n < pp):bits .or .u64 (((el n).b:Int) / 8192) (IntKind.u64.wrap (((el n).c:Int)*274877906944))=((n / 18446744073709551616%18446744073709551616:Nat):Int):=by
 have l:=el_low h
 have:=join ((el n).b / 8192) (el n).c 38 274877906944 67108864 (by have:=l.2.1;omega) rfl rfl (by have:=l.2.2.1;omega) (by have:=l.2.1;omega)
 rw[show((274877906944:Nat):Int)=274877906944 from rfl] at this
 rw[show((el n).b:Int) / 8192=(((el n).b / 8192:Nat):Int) by omega,this];congr 1
 show n / 2251799813685248%2251799813685248 / 8192+n / 5070602400912917605986812821504%2251799813685248%67108864*274877906944=_;omega
theorem enc2(n:Nat)(h:n < pp):bits .or .u64 (((el n).c:Int) / 67108864) (IntKind.u64.wrap (((el n).d:Int)*33554432))=((n / 340282366920938463463374607431768211456%18446744073709551616:Nat):Int):=by
 have l:=el_low h
 have:=join ((el n).c / 67108864) (el n).d 25 33554432 549755813888 (by have:=l.2.2.1;omega) rfl rfl (by have:=l.2.2.2.1;omega) (by have:=l.2.2.1;omega)
 rw[show((33554432:Nat):Int)=33554432 from rfl] at this
 rw[show((el n).c:Int) / 67108864=(((el n).c / 67108864:Nat):Int) by omega,this];congr 1
 show n / 5070602400912917605986812821504%2251799813685248 / 67108864+n / 11417981541647679048466287755595961091061972992%2251799813685248%549755813888*33554432=_;omega
theorem enc3(n:Nat)(h:n < pp):bits .or .u64 (((el n).d:Int) / 549755813888) (IntKind.u64.wrap (((el n).e:Int)*4096))=((n / 6277101735386680763835789423207666416102355444464034512896%18446744073709551616:Nat):Int):=by
 have l:=el_low h
 have:=join ((el n).d / 549755813888) (el n).e 12 4096 4503599627370496 (by have:=l.2.2.2.1;omega) rfl rfl (by have:=l.2.2.2.2;omega) (by have:=l.2.2.2.1;omega)
 rw[show((4096:Nat):Int)=4096 from rfl] at this
 rw[show((el n).d:Int) / 549755813888=(((el n).d / 549755813888:Nat):Int) by omega,this];congr 1
 show n / 11417981541647679048466287755595961091061972992%2251799813685248 / 549755813888+n / 25711008708143844408671393477458601640355247900524685364822016%4503599627370496*4096=_;omega
theorem below_nx{W a b:World}{n:Nat}(h:Below n W a)(hn:n≤W.heap.size)(k:Below a.heap.size a b):Below n W b:=h.trans (k.mono (Nat.le_trans hn h.size))
theorem c5_box(w:World)(x:E5):C5 (w.alloc (.cells x.v 31)) w.heap.size x:=c5_of (Bl.new_ w 31 x.v)
set_option maxHeartbeats 2000000 in
theorem Encode_any(x:E5)(w:World)(hx:x.ok) :
  Calls Tryz.prog 43 #[.agg x.v] w (RetB (by_ (x.val%pp) 32) w):=by
 have R1:=fun w=>Reduce_any x w hx
 obtain⟨n,hn⟩:∃n,x.val%pp=n:=⟨_,rfl⟩
 have hl:n < pp:=hn▸mod_lt _
 rw[hn] at R1
 rw[hn]
 have V0:=enc0 n hl
 have V1:=enc1 n hl
 have V2:=enc2 n hl
 have V3:=enc3 n hl
 obtain⟨r,hr⟩:∃r,el n=r:=⟨_,rfl⟩
 rw[hr] at R1 V0 V1 V2 V3
 have B:=Lib.hid (fun w=>bytesOf_any (n%18446744073709551616) (n / 18446744073709551616%18446744073709551616) (n / 340282366920938463463374607431768211456%18446744073709551616) (n / 6277101735386680763835789423207666416102355444464034512896%18446744073709551616) w)
 have hB:(List.range 32).map (wb [n%18446744073709551616,n / 18446744073709551616%18446744073709551616,n / 340282366920938463463374607431768211456%18446744073709551616,n / 6277101735386680763835789423207666416102355444464034512896%18446744073709551616])=by_ n 32:=wb_words n
 rw[hB] at B
 obtain⟨u0,hu0⟩:∃u,n%18446744073709551616=u:=⟨_,rfl⟩
 obtain⟨u1,hu1⟩:∃u,n / 18446744073709551616%18446744073709551616=u:=⟨_,rfl⟩
 obtain⟨u2,hu2⟩:∃u,n / 340282366920938463463374607431768211456%18446744073709551616=u:=⟨_,rfl⟩
 obtain⟨u3,hu3⟩:∃u,n / 6277101735386680763835789423207666416102355444464034512896%18446744073709551616=u:=⟨_,rfl⟩
 rw[hu0] at V0 B
 rw[hu1] at V1 B
 rw[hu2] at V2 B
 rw[hu3] at V3 B
 obtain⟨a0,a1,a2,a3,a4⟩:=c5_box w x
 have R1:=Lib.hid (show ∀w,Calls Tryz.prog 56 #[(.agg #[.int .u64 (x.a:Int),.int .u64 (x.b:Int),.int .u64 (x.c:Int),.int .u64 (x.d:Int),.int .u64 (x.e:Int)])] w fun e w'=>e=.returned (.agg #[.int .u64 (r.a:Int),.int .u64 (r.b:Int),.int .u64 (r.c:Int),.int .u64 (r.d:Int),.int .u64 (r.e:Int)])∧Below w.heap.size w w' from R1)
 clear hB hu0 hu1 hu2 hu3 hn hl hr hx
 go_enter Tryz.func43,Tryz.ntmps43
 go_wp2_with fail
 refine(R1.out _).mono ?_
 rintro e w1 ⟨rfl,hb1⟩
 obtain⟨⟨d0,d1,d2,d3,d4⟩,f0,f1,f2,f3,f4⟩:=cells5 ((Bl.new_ w 31 x.v).below' hb1)
 have HB1:=Lib.hid hb1
 clear hb1 a0 a1 a2 a3 a4
 go_wp2_with fail
 refine(B.out _).mono ?_
 rintro e w2 ⟨g,rfl,hg,hbl,hbw⟩
 have HBL:=Lib.hid hbl
 have h1:Below w.heap.size w w1:=((Below.refl w.heap.size w).alloc (Nat.le_refl _) _).trans (HB1.out.mono (by simp))
 have h2:=set5_below h1 (Nat.le_refl _) (.int .u64 (r.a:Int)) (.int .u64 (r.b:Int)) (.int .u64 (r.c:Int)) (.int .u64 (r.d:Int)) (.int .u64 (r.e:Int))
 have h3:=Lib.hid (below_nx h2 (Nat.le_refl _) hbw)
 have hg':w.heap.size≤g:=Nat.le_trans h2.size hg
 clear hbl hbw h1 h2 hg
 go_wp2
 go_ret
 exact⟨g,rfl,hg',HBL.out,h3.out⟩
def DecR(e:Ending)(r:E5)(k:Int):Prop:=e=.returned (.tuple #[.agg r.v,.int .i64 k])
def DecP(m:Nat)(e:Ending):Prop:=if m < pp then DecR e (el m) 0 else DecR e ⟨0,0,0,0,0⟩ 30
theorem low_and(x:Nat)(y:Int)(hx:x < 18446744073709551616)(h:y=(x:Int)):bits .and .u64 y 2251799813685247=((x%2251799813685248:Nat):Int):=by subst h;exact and_low x hx
theorem dec_join(a b p q s:Nat)(ha:a < 2 ^ s)(hp:p=2 ^ s)(hq:p*q=18446744073709551616)(hb:b < 18446744073709551616)(ha':a < 18446744073709551616) :
  bits .and .u64 (bits .or .u64 (a:Int) (IntKind.u64.wrap ((b:Int)*(p:Int)))) 2251799813685247=(((a+b%q*p)%2251799813685248:Nat):Int):=by
 refine low_and _ _ ?_ (join a b s p q ha hp hq hb ha')
 have hq0:0 < q:=Nat.pos_of_ne_zero (by rintro rfl;simp at hq)
 have hp0:0 < p:=Nat.pos_of_ne_zero (by rintro rfl;simp at hq)
 have h1:b%q+1≤q:=Nat.mod_lt b hq0
 have h2:=Nat.mul_le_mul_right p h1
 rw[Nat.add_mul,Nat.one_mul,Nat.mul_comm q p,hq] at h2
 omega
set_option maxRecDepth 100000 in
set_option maxHeartbeats 4000000 in
theorem decode_any(A:Option Addr)(c:Nat)(l:List Nat)(w:World)(hl:∀x∈l,x < 256)(hs:Sl w A 32 (bl l)) :
  Calls Tryz.prog 29 #[.slice A 32 c] w fun e w'=>DecP (le l) e∧Below w.heap.size w w':=by
 have hln:l.length=32:=by simpa[bl] using hs.1
 have W:=fun w' (h:Below w.heap.size w w')=>wordsOf_any A 32 c l w' (by decide) hl (hs.below h)
 have N:=le_words4 l (by omega)
 have w0:=wo_lt l 0 hl
 have w1:=wo_lt l 1 hl
 have w2:=wo_lt l 2 hl
 have w3:=wo_lt l 3 hl
 have hv:(nl (wl l 8)).toArray = #[.int .u64 (wo l 0:Int),.int .u64 (wo l 1:Int),.int .u64 (wo l 2:Int),.int .u64 (wo l 3:Int),.int .u64 (wo l 4:Int),.int .u64 (wo l 5:Int),.int .u64 (wo l 6:Int),.int .u64 (wo l 7:Int)]:=rfl
 rw[hv] at W
 clear hv
 have hNb:le l < 115792089237316195423570985008687907853269984665640564039457584007913129639936:=by omega
 generalize wo l 0=u0 at *
 generalize wo l 1=u1 at *
 generalize wo l 2=u2 at *
 generalize wo l 3=u3 at *
 generalize wo l 4=u4 at *
 generalize wo l 5=u5 at *
 generalize wo l 6=u6 at *
 generalize wo l 7=u7 at *
 obtain⟨m,hm⟩:∃m,le l=m:=⟨_,rfl⟩
 rw[hm] at N hNb
 rw[hm]
 have V0:bits .and .u64 (u0:Int) 2251799813685247=((el m).a:Int):=by
  rw[and_low u0 w0];congr 1;show _=m%_;omega
 have V1:bits .and .u64 (bits .or .u64 ((u0:Int) / 2251799813685248) (IntKind.u64.wrap ((u1:Int)*8192))) 2251799813685247=((el m).b:Int):=by
  have:=dec_join (u0 / 2251799813685248) u1 8192 2251799813685248 13 (by omega) rfl rfl w1 (by omega)
  rw[show((8192:Nat):Int)=8192 from rfl] at this
  rw[show(u0:Int) / 2251799813685248=((u0 / 2251799813685248:Nat):Int) by omega,this];congr 1;show _=m / _%_;omega
 have V2:bits .and .u64 (bits .or .u64 ((u1:Int) / 274877906944) (IntKind.u64.wrap ((u2:Int)*67108864))) 2251799813685247=((el m).c:Int):=by
  have:=dec_join (u1 / 274877906944) u2 67108864 274877906944 26 (by omega) rfl rfl w2 (by omega)
  rw[show((67108864:Nat):Int)=67108864 from rfl] at this
  rw[show(u1:Int) / 274877906944=((u1 / 274877906944:Nat):Int) by omega,this];congr 1;show _=m / _%_;omega
 have V3:bits .and .u64 (bits .or .u64 ((u2:Int) / 33554432) (IntKind.u64.wrap ((u3:Int)*549755813888))) 2251799813685247=((el m).d:Int):=by
  have:=dec_join (u2 / 33554432) u3 549755813888 33554432 39 (by omega) rfl rfl w3 (by omega)
  rw[show((549755813888:Nat):Int)=549755813888 from rfl] at this
  rw[show(u2:Int) / 33554432=((u2 / 33554432:Nat):Int) by omega,this];congr 1;show _=m / _%_;omega
 have V4:(u3:Int) / 4096=((el m).e:Int):=by
  show _=((m / 25711008708143844408671393477458601640355247900524685364822016:Nat):Int);omega
 have hok:(el m).ok:=by
  refine⟨?_,?_,?_,?_,?_⟩
  ·show m%_ < _;omega
  ·show m / _%_ < _;omega
  ·show m / _%_ < _;omega
  ·show m / _%_ < _;omega
  ·show m / _ < _;omega
 have R1:=fun w=>Reduce_any (el m) w hok
 rw[el_val] at R1
 obtain⟨b,hb⟩:∃b,decide (el m=el (m%pp))=b:=⟨_,rfl⟩
 have hbm:b=true↔m < pp:=by
  rw[←hb,decide_eq_true_iff]
  exact⟨fun h=>by rw[el_inj h];exact mod_lt _,fun h=>by rw[Nat.mod_eq_of_lt h]⟩
 have G1:=guard5
 have G2:=fun w=>equal5 (el m) (el (m%pp)) w
 rw[hb] at G2
 have HBM:=Lib.hid hbm
 obtain⟨x,hx⟩:∃x,el m=x:=⟨_,rfl⟩
 obtain⟨r,hr⟩:∃r,el (m%pp)=r:=⟨_,rfl⟩
 simp only[hx,hr] at R1 G2 V0 V1 V2 V3 V4
 have HX:=Lib.hid hx
 have R1:=Lib.hid (show ∀w,Calls Tryz.prog 56 #[(.agg #[.int .u64 (x.a:Int),.int .u64 (x.b:Int),.int .u64 (x.c:Int),.int .u64 (x.d:Int),.int .u64 (x.e:Int)])] w fun e w'=>e=.returned (.agg #[.int .u64 (r.a:Int),.int .u64 (r.b:Int),.int .u64 (r.c:Int),.int .u64 (r.d:Int),.int .u64 (r.e:Int)])∧Below w.heap.size w w' from R1)
 have HW:=Lib.hid W
 clear W N w0 w1 w2 w3 hm hNb hb hbm hok hx hr hln hl hs
 have G2:∀w,(Op.equalIn 10000 31 (.agg #[.int .u64 (x.a:Int),.int .u64 (x.b:Int),.int .u64 (x.c:Int),.int .u64 (x.d:Int),.int .u64 (x.e:Int)]) (.agg #[.int .u64 (r.a:Int),.int .u64 (r.b:Int),.int .u64 (r.c:Int),.int .u64 (r.d:Int),.int .u64 (r.e:Int)])).run Tryz.prog w=.ok b w:=G2
 have h0:Below w.heap.size w (w.alloc (.cells z5 31)):=(Below.refl _ _).alloc (Nat.le_refl _) _
 have z0:=Bl.new_ w 31 z5
 have HZ:=Lib.hid z0
 have H0:=Lib.hid h0
 clear z0 h0
 go_enter Tryz.func29,Tryz.ntmps29
 go_wp2_with fail
 refine(HW.out _ H0.out).mono ?_
 rintro e w1 ⟨rfl,hb1⟩
 have z1:=HZ.out.below' hb1
 have H1:=Lib.hid (below_nx H0.out (Nat.le_refl _) hb1)
 have HZ1:=Lib.hid z1
 clear z1 hb1 H0 HZ HW
 go_wp2_with fail
 have C:=c5_of (Bl.new' (w:=w1.alloc (.cells #[.int .u64 (u0:Int),.int .u64 (u1:Int),.int .u64 (u2:Int),.int .u64 (u3:Int),.int .u64 (u4:Int),.int .u64 (u5:Int),.int .u64 (u6:Int),.int .u64 (u7:Int)] 53)) (g:=w1.heap.size+1) 31 x.v (by simp))
 have z2:=(HZ1.out.alloc (.cells #[.int .u64 (u0:Int),.int .u64 (u1:Int),.int .u64 (u2:Int),.int .u64 (u3:Int),.int .u64 (u4:Int),.int .u64 (u5:Int),.int .u64 (u6:Int),.int .u64 (u7:Int)] 53)).alloc (.cells x.v 31)
 have h2:=(H1.out.alloc H1.out.size (.cells #[.int .u64 (u0:Int),.int .u64 (u1:Int),.int .u64 (u2:Int),.int .u64 (u3:Int),.int .u64 (u4:Int),.int .u64 (u5:Int),.int .u64 (u6:Int),.int .u64 (u7:Int)] 53)).alloc (Nat.le_trans H1.out.size (by simp)) (.cells x.v 31)
 have hsz:w1.heap.size+1 < ((w1.alloc (.cells #[.int .u64 (u0:Int),.int .u64 (u1:Int),.int .u64 (u2:Int),.int .u64 (u3:Int),.int .u64 (u4:Int),.int .u64 (u5:Int),.int .u64 (u6:Int),.int .u64 (u7:Int)] 53)).alloc (.cells x.v 31)).heap.size:=by simp
 change Code.wp _ _ _ _ ((w1.alloc (.cells #[.int .u64 (u0:Int),.int .u64 (u1:Int),.int .u64 (u2:Int),.int .u64 (u3:Int),.int .u64 (u4:Int),.int .u64 (u5:Int),.int .u64 (u6:Int),.int .u64 (u7:Int)] 53)).alloc (.cells x.v 31))
 generalize(w1.alloc (.cells #[.int .u64 (u0:Int),.int .u64 (u1:Int),.int .u64 (u2:Int),.int .u64 (u3:Int),.int .u64 (u4:Int),.int .u64 (u5:Int),.int .u64 (u6:Int),.int .u64 (u7:Int)] 53)).alloc (.cells x.v 31)=W2 at *
 have HZ2:=Lib.hid z2
 have H2:=Lib.hid h2
 have SK:=Lib.hid (show ∀z,Below W2.heap.size W2 z→C5 z (w1.heap.size+1) x from fun z h =>
  ⟨(h.cell (p:=⟨w1.heap.size+1,0,none⟩) hsz).trans C.1,(h.cell (p:=⟨w1.heap.size+1,1,none⟩) hsz).trans C.2.1,(h.cell (p:=⟨w1.heap.size+1,2,none⟩) hsz).trans C.2.2.1,(h.cell (p:=⟨w1.heap.size+1,3,none⟩) hsz).trans C.2.2.2.1,(h.cell (p:=⟨w1.heap.size+1,4,none⟩) hsz).trans C.2.2.2.2⟩)
 clear z2 h2 C hsz HZ1 H1
 go_region_held3 (fun z=>C5 z (w1.heap.size+1) x)
  (first|exact SK.out _ ((Below.refl _ _).drew)|exact SK.out _ (((Below.refl _ _).drew).trans hb2))
  ((go_at_call 56;(with_reducible refine(R1.out _).mono ?_);rintro e w2 ⟨rfl,hb2⟩))
 all_goals
  rename_i hHeld
  obtain⟨a0,a1,a2,a3,a4⟩:=hHeld
  have z3:=HZ2.out.drew.below' hb2
  obtain⟨⟨r0,r1,r2,r3,r4⟩,f0,f1,f2,f3,f4⟩:=cells5 z3
  have H3:=Lib.hid (show Below w.heap.size w w2 from below_nx (H2.out.drew) (Nat.le_refl _) hb2)
  clear z3 hb2 SK
 all_goals
  cases b
  ·have HB:=Lib.hid (show ¬m < pp from fun h=>by have:=HBM.out.2 h;cases this)
   clear HBM
   go_wp2
   refine bodyPost_ret (v:=.tuple #[.agg z5,.int .i64 30]) ?_ rfl ⟨by unfold DecP;rw[if_neg HB.out];exact rfl,set5_below H3.out (Nat.le_refl _) _ _ _ _ _⟩
   simp[results,Tryz.results29,go_sem,z5,r0,r1,r2,r3,r4]
  ·have HB:=Lib.hid (HBM.out.1 rfl)
   clear HBM
   go_wp2
   refine bodyPost_ret (v:=.tuple #[.agg x.v,.int .i64 0]) ?_ rfl ⟨by unfold DecP;rw[if_pos HB.out,HX.out];exact rfl,set5_below H3.out (Nat.le_refl _) _ _ _ _ _⟩
   simp[results,Tryz.results29,go_sem,E5.v,r0,r1,r2,r3,r4]
end Go.Proofs.YtoibhnpmemnlfaaGreatDoor.Fd
