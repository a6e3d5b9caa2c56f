/- Joined texts. -/
import Derived.Outline
import Derived.Test.YtnnfpmebopgogaaDoorQsSaD
import Derived.Test.YtnnfpmebopgogaaDoorQsGnA
import Derived.Test.YtnnfpmebopgogaaDoorQsShRE
set_option linter.unusedVariables false
namespace Go.Proofs.YtnnfpmebopgogaaDoor.Sh
open Go.RowKit Go.Proofs.YtnnfpmebopgogaaDoor.Gn Go.Deep
theorem info1:(Tryd.prog.info? 5).map (fun i=>(i.zero,i.size,i.bytes))=some (some (.int .u8 0),1,1):=by kernel_rfl
def zer(n:Nat):List Nat:=List.replicate n 0
theorem zer_snoc(n:Nat):zer n ++ [0]=zer (n+1):=by unfold zer;rw[List.replicate_succ']
theorem be_bound(n k:Nat)(hn:n≤1048576):8*n / 256 ^ k≤8388608:=Nat.le_trans (Nat.div_le_self _ _) (by omega)
theorem byte_step'(X t:Nat):X / 256 ^ t / 256=X / 256 ^ (t+1):=by rw[Nat.div_div_eq_div_mul,Nat.pow_succ]
theorem padz_test32(n k:Nat):(k < padz false n→(n+(k+1)+8)%64≠0)∧(k=padz false n→(n+(k+1)+8)%64=0):=by
 have:=Nat.mod_lt n (show 0 < 64 by decide)
 simp only[padz,bk]
 constructor
 ·intro h;simp at h;split at h <;> omega
 ·intro h;simp at h;split at h <;> omega
def RP132(n:Nat)(w:World)(o:Value)(wr:World):Prop :=
 ∃k:Nat,k≤padz false n∧wr.ownsRow w.heap.size 5 1 o (k+1) (bl (128 :: zer k))∧Below w.heap.size w wr
def RP232(n:Nat)(w2:World)(o t i:Value)(wr:World):Prop :=
 ∃k:Nat,k≤8∧i=.int .i64 (k:Int)∧t=.int .u64 ((8*n / 256 ^ k:Nat):Int)∧wr.ownsRow w2.heap.size 5 1 o k (bl (be (8*n) k))∧Below w2.heap.size w2 wr
theorem padz_le32(n:Nat):padz false n≤256:=by simp only[padz,bk];simp;split <;> omega
set_option maxRecDepth 100000 in
set_option maxHeartbeats 2000000 in
theorem rpad32_any(n:Nat)(w:World)(hn:n≤1048576) :
  Calls Tryd.prog 80 #[.int .i64 (n:Int),.int .i64 256] w fun e w' =>
   ∃v,e=.returned (.tuple #[v,.int .i64 0])∧w'.ownsRow w.heap.size 5 1 v (pads false n) (bl (pad false n))∧Below w.heap.size w w':=by
 have t1:decide ((n:Int) < 0)=false:=decide_eq_false (by omega)
 have t2:decide (1048576 < (n:Int))=false:=by simp;omega
 obtain⟨i0,hi,hz0,hz1,hz2⟩:=info_parts info1
 have HPZ:=Lib.hid (padz_le32 n)
 go_enter Tryd.func80,Tryd.ntmps80
 go_wp2_with fail
 go_loopw [8] (fun o wr=>RP132 n w o wr) (fun o _=>padz false n+1 - slen o)
 case atStart=>exact⟨0,Nat.zero_le _,own_new w _ [.int .u8 128] (by unfold maxLen;simp),(Below.refl _ _).alloc (Nat.le_refl _) _⟩
 case round =>
  obtain⟨k,hk,hown,hbel⟩:=hrel
  obtain⟨A,cap,rfl,hsl,hnil,hlc,hmax,hA⟩:=Sl.own hown
  have HOWN:=Lib.hid hown
  have HBEL:=Lib.hid hbel
  have HA:=Lib.hid hA
  have HSL:=Lib.hid hsl
  have HNIL:=Lib.hid hnil
  clear hown hbel hsl hnil hmax hA
  obtain⟨p1,p2⟩:=padz_test32 n k
  obtain⟨m,hm⟩:∃m,m=(n+(k+1)+8)%64:=⟨_,rfl⟩
  have em:((n:Int)+((k:Int)+1)+8)%64=(m:Int):=by omega
  have hk6:k≤256:=by have:=HPZ.out;omega
  by_cases hlt:k < padz false n
  ·have hne:((m:Int) != 0)=true:=by have:=p1 hlt;simp;omega
   clear p1 p2 hm
   go_wp2_with (at_builtin;refine wpList_append_sl rfl _ _ 22 rfl w.heap.size 5 i0 _ 1 Tryd.underlying22 hi hz0 hz1 hz2 rfl _ (k+1) (bl (128 :: zer k)) rfl (own_below HOWN.out ((Below.refl _ _).alloc (Nat.le_refl _) _)) (some ⟨wr.heap.size,0,none⟩) 1 1 [.int .u8 0] rfl (fun h=>by cases h) ?c1 ?c2 ?c3 ?c4 ?c5 ?_)
   case c1=>exact Sl.new_ wr _ [.int .u8 0]
   case c2=>intro u hu;simp at hu;subst hu;rfl
   case c3=>have:=HPZ.out;unfold maxLen;omega
   case c4=>have:=HPZ.out;omega
   case c5=>have:=HBEL.out.size;simp;omega
   intro v' w1 hown1 hgrow
   have hbel1:Below w.heap.size w w1:=(HBEL.out.alloc HBEL.out.size _).grown hgrow (by have:=HBEL.out.size;simp;omega) (by
    intro g hg;simp only[Value.ownBlock] at hg;cases hA':A with
    |none=>rw[hA'] at hg;cases hg
    |some ad=>rw[hA'] at hg;simp at hg;have:=HA.out ad hA';omega)
   have HO1:=Lib.hid hown1
   have HB1:=Lib.hid hbel1
   clear hown1 hgrow hbel1
   go_wp2
   obtain⟨A',cap',rfl,_,_,_,_,_⟩:=Sl.own HO1.out
   go_roundw
   case rel =>
    refine⟨k+1,by omega,?_,HB1.out⟩
    have e:bl (128 :: zer k) ++ [.int .u8 0]=bl (128 :: zer (k+1)):=by
     rw[show[Value.int .u8 0]=bl [0] from rfl,←bl_append,List.cons_append,zer_snoc]
    rw[←e];exact HO1.out
   case measure=>simp[slen];omega
  ·have hk':k=padz false n:=by omega
   have hne:((m:Int) != 0)=false:=by have:=p2 hk';simp;omega
   clear p1 p2 hm
   have HK:=Lib.hid hk'
   clear hk'
   obtain⟨w2,rfl⟩:∃w2:World,w2=wr:=⟨_,rfl⟩
   go_wp2_with fail
   clear em hne
   go_loopw [9,10,11] (fun o t i wx=>RP232 n w2 o t i wx) (fun _ _ i _=>8 - (intOf i).toNat)
   case atStart=>exact⟨0,Nat.zero_le _,rfl,congrArg _ (by simp;omega),own_nil _ _ _,Below.refl _ _⟩
   case round =>
    obtain⟨j,hj,rfl,rfl,hown,hbel⟩:=hrel
    obtain⟨A2,cap2,rfl,hsl2,hnil2,hlc2,hmax2,hA2⟩:=Sl.own hown
    have G1:=Lib.hid hown
    have G2:=Lib.hid hbel
    have G3:=Lib.hid hsl2
    have G4:=Lib.hid hnil2
    have G5:=Lib.hid hA2
    clear hown hbel hsl2 hnil2 hmax2 hA2
    obtain⟨L,hL⟩:∃L,L=8*n / 256 ^ j:=⟨_,rfl⟩
    have hLb:L≤8388608:=by rw[hL];exact be_bound n j hn
    rw[←hL]
    have HL:=Lib.hid hL
    clear hL
    by_cases hjl:j < 8
    ·go_wp2_with (at_builtin;refine wpList_append_sl rfl _ _ 22 rfl wr.heap.size 5 i0 _ 1 Tryd.underlying22 hi hz0 hz1 hz2 rfl _ 1 [.int .u8 ((L:Int)%256)] rfl (own_new wr _ _ (by unfold maxLen;simp)) A2 j cap2 (bl (be (8*n) j)) rfl G4.out ?c1 ?c2 ?c3 ?c4 ?c5 ?_)
     case c1=>exact G3.out.below ((Below.refl _ _).alloc (Nat.le_refl _) _)
     case c2=>exact bl_one _
     case c3=>unfold maxLen;omega
     case c4=>omega
     case c5=>simp
     intro v' w1 hown1 hgrow
     have hbel1:Below w2.heap.size w2 w1:=(G2.out.alloc G2.out.size _).grown hgrow (by have:=G2.out.size;simp;omega) (by
      intro g hg;simp[Value.ownBlock] at hg;have:=G2.out.size;omega)
     have HO1:=Lib.hid (own_base hown1 G2.out.size)
     have HB1:=Lib.hid hbel1
     clear hown1 hgrow hbel1
     go_wp2
     go_roundw
     case rel =>
      refine⟨j+1,by omega,by go_num,?_,?_,HB1.out⟩
      ·have e1:=byte_step' (8*n) j
       rw[←HL.out] at e1
       rw[←e1];exact congrArg _ (by simp)
      ·have e2:(L:Int)%256=((8*n / 256 ^ j%256:Nat):Int):=by rw[HL.out];simp
       have:=HO1.out
       rw[e2,Nat.add_comm] at this
       exact this
     case measure=>simp[intOf];omega
    ·obtain rfl:j=8:=by omega
     go_wp2_with (at_builtin;refine wpList_append_sl rfl _ _ 22 rfl w.heap.size 5 i0 _ 1 Tryd.underlying22 hi hz0 hz1 hz2 rfl _ (k+1) (bl (128 :: zer k)) rfl (own_below HOWN.out G2.out) A2 8 cap2 (bl (be (8*n) 8)) rfl G4.out G3.out ?c2 ?c3 ?c4 ?c5 ?_)
     case c2=>exact bl_one _
     case c3=>unfold maxLen;omega
     case c4=>omega
     case c5=>have:=HBEL.out.size;have:=G2.out.size;omega
     intro v' w1 hown1 hgrow
     have hbel1:Below w.heap.size w w1:=(HBEL.out.trans (G2.out.mono HBEL.out.size)).grown hgrow (by have:=HBEL.out.size;have:=G2.out.size;omega) (by
      intro g hg;simp only[Value.ownBlock] at hg;cases hA':A with
      |none=>rw[hA'] at hg;cases hg
      |some ad=>rw[hA'] at hg;simp at hg;have:=HA.out ad hA';omega)
     have HO1:=Lib.hid hown1
     have HB1:=Lib.hid hbel1
     clear hown1 hgrow hbel1
     go_wp2
     go_ret2
     refine⟨_,rfl,?_,HB1.out⟩
     have e1:k+1+8=pads false n:=by rw[HK.out];exact padz_pads false n
     have e2:bl (128 :: zer k) ++ bl (be (8*n) 8)=bl (pad false n):=by rw[←bl_append,HK.out];rfl
     rw[←e1,←e2];exact HO1.out
end Go.Proofs.YtnnfpmebopgogaaDoor.Sh
namespace Go.Proofs.YtnnfpmebopgogaaDoor.Sh
open Go.RowKit Go.Proofs.YtnnfpmebopgogaaDoor.Gn Go.Deep
set_option maxRecDepth 100000 in
set_option maxHeartbeats 4000000 in
theorem rconstants_any(w:World):Calls Tryd.prog 81 #[] w fun e w'=>e=.returned (.slice (some ⟨w.heap.size,0,none⟩) 80 80)∧w'=w.alloc (.cells (nl kc).toArray 97):=by
 go_enter Tryd.func81,Tryd.ntmps81
 go_wp2_with fail
 go_ret
 refine⟨rfl,?_⟩
 refine congrArg (fun a=>w.alloc (.cells a 97)) ?_
 kernel_rfl
theorem rstarts_any(w:World):Calls Tryd.prog 82 #[] w fun e w'=>e=.returned (.slice (some ⟨w.heap.size,0,none⟩) 8 8)∧w'=w.alloc (.cells (nl sc).toArray 97):=by
 go_enter Tryd.func82,Tryd.ntmps82
 go_wp2
 go_ret
 exact⟨rfl,rfl⟩
end Go.Proofs.YtnnfpmebopgogaaDoor.Sh
