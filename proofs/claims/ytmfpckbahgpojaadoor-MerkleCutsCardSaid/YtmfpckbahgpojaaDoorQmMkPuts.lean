/- Joined texts. -/
import Derived.Test.YtmfpckbahgpojaaDoorQmMkT
import Derived.Test.YtmfpckbahgpojaaDoorQmGnInts
set_option linter.unusedVariables false
namespace Go.Proofs.YtmfpckbahgpojaaDoor.Mk
open Go.RowKit Go.Proofs.YtmfpckbahgpojaaDoor.Gn Go.Proofs.YtmfpckbahgpojaaDoor.Fd Go.Deep
theorem among_any(x n:Int)(w:World)(hn:1≤n)(hn':n≤1000000)(hx : -9223372036854775808≤x)(hx':x≤9223372036854775807) :
  Calls Tryd.prog 23 #[.int .i64 x,.int .i64 n] w fun e w'=>e=.returned (.int .i64 (x%n))∧w=w':=by
 have hm:IntKind.i64.wrap (x.tmod n)=x.tmod n:=by
  refine _root_.Go.IntWalk.i64_in _ ?_
  have h1:=Int.tmod_lt_of_pos x (show 0 < n by omega)
  have h2:=Int.lt_tmod_of_pos x (show 0 < n by omega)
  omega
 go_enter Tryd.func23,Tryd.ntmps23
 have he:x%n=(x.tmod n)%n:=by
  have:=Int.tmod_add_mul_tdiv x n
  rw[←this];simp[Int.add_mul_emod_self_left]
  rw[this]
 have h1:=Int.tmod_lt_of_pos x (show 0 < n by omega)
 have h2:=Int.lt_tmod_of_pos x (show 0 < n by omega)
 have HE:=Lib.hid he
 have H12:=Lib.hid (And.intro h1 h2)
 clear he h1 h2
 go_wp2
 ·go_ret
  have:=H12.out
  have hneg:x.tmod n < 0:=by assumption
  refine⟨ret_int ?_,rfl⟩
  rw[HE.out,_root_.Go.IntWalk.wrap64_in _ (by omega),←Int.add_emod_right,Int.emod_eq_of_lt (by omega) (by omega)]
 ·go_ret
  have:=H12.out
  have hpos:0≤x.tmod n:=by assumption
  refine⟨ret_int ?_,rfl⟩
  rw[HE.out,Int.emod_eq_of_lt hpos (by omega)]
theorem among_zero(x:Int)(w:World):Calls Tryd.prog 23 #[.int .i64 x,.int .i64 0] w fun e w'=>e=.returned (.int .i64 0)∧w=w':=by
 go_enter Tryd.func23,Tryd.ntmps23
 go_wp2
 go_ret
 exact⟨rfl,rfl⟩
theorem dig_bit(l:List Nat)(i:Nat):dig l i=(l.getD (i / 8) 0).testBit (i%8):=by
 unfold dig
 rw[Nat.testBit_eq_decide_div_mod_eq]
theorem dig_put{l:List Nat}{p:Nat}(hp:p / 8 < l.length)(j:Nat):dig (putB l p) j=(dig l j || decide (j=p)):=by
 rw[dig_bit,dig_bit]
 unfold putB
 by_cases e:j / 8=p / 8
 ·rw[List.getD_eq_getElem?_getD,e,List.getElem?_set_self hp,Option.getD_some,Nat.testBit_or,Nat.testBit_two_pow]
  congr 1
  rw[Bool.eq_iff_iff,decide_eq_true_iff,decide_eq_true_iff]
  omega
 ·rw[List.getD_eq_getElem?_getD,List.getElem?_set_ne (Ne.symm e),←List.getD_eq_getElem?_getD,decide_eq_false (show ¬j=p by omega),Bool.or_false]
theorem clr_congr{l k:List Nat}{n:Nat}(h:∀j,n≤j→dig l j=dig k j)(m:Nat):clr l n m=clr k n m:=by
 induction m with
 |zero=>rfl
 |succ m ih=>unfold clr;rw[ih,h _ (by omega)]
theorem right_put{l:List Nat}{n p:Nat}(h:rightB l n=true)(hp:p < n):rightB (putB l p) n=true:=by
 have hl:=right_len h
 have hlen:(putB l p).length=l.length:=by unfold putB;rw[List.length_set]
 unfold rightB at h ⊢
 rw[hlen]
 rw[clr_congr (k:=l) (fun j hj=>by rw[dig_put (by omega),decide_eq_false (show ¬j=p by omega),Bool.or_false])]
 exact h
def hits(l:List Int)(n j q:Nat):Bool:=(l.take j).any fun x=>decide (x%(n:Int)=(q:Int))
theorem hits_zero(l:List Int)(n q:Nat):hits l n 0 q=false:=by simp[hits]
theorem hits_next{l:List Int}{n j q:Nat}{x:Int}(h:l[j]?=some x):hits l n (j+1) q=(hits l n j q || decide (x%(n:Int)=(q:Int))):=by
 unfold hits
 rw[List.take_add_one,h]
 simp[List.any_append]
def P1Rel(l:List Int)(n K len:Nat)(w:World)(m i:Value)(wr:World):Prop :=
 ∃j A c M,j≤len∧i=.int .i64 (j:Int)∧m=.slice A K c∧Pc wr (A,K,c,M)∧rightB M n=true∧(∀q,dig M q=hits l n j q)∧Below w.heap.size w wr
def P3Rel(l:List Int)(n K len:Nat)(w:World)(m i:Value)(wr:World):Prop :=
 ∃j A c M,j≤n∧i=.int .i64 (j:Int)∧m=.slice A K c∧Pc wr (A,K,c,M)∧rightB M n=true∧(∀q,q < j→dig M q=true)∧Below w.heap.size w wr
def P2Rel(l:List Int)(n k len:Nat)(w:World)(t i:Value)(wr:World):Prop :=
 ∃j,j≤len∧i=.int .i64 (j:Int)∧t=.bool (hits l n j k)∧wr=w
theorem put_at{A:Option Addr}{K c n:Nat}{M:List Nat}{w:World}(h:Pc w (A,K,c,M))(hr:rightB M n=true)(hn:n≤4096)(p:Nat)(hp:p < n) :
  Calls Tryd.prog 13 #[.slice A K c,.int .i64 (n:Int),.int .i64 (p:Int)] w fun e w'=>∃g cap M',e=.returned (.tuple #[.slice (some ⟨g,0,none⟩) K cap,.int .i64 0])∧Pc w' (some ⟨g,0,none⟩,K,cap,M')∧rightB M' n=true∧(∀q,dig M' q=(dig M q || decide (q=p)))∧Below w.heap.size w w':=by
 have hl:=right_len hr
 obtain rfl:K=M.length:=h.len
 have hh:holdsB M n (p:Int)=true:=by
  unfold holdsB
  rw[hr,decide_eq_true (by omega:(0:Int)≤(p:Int)),decide_eq_true (by omega:(p:Int) < (n:Int))];rfl
 refine(Put_yes h hn (by omega) p hh).mono ?_
 rintro e w' ⟨g,cap,h1,h2,h3,h4⟩
 exact⟨g,cap,putB M p,h1,h2,right_put hr hp,dig_put (by omega),h4⟩
set_option maxRecDepth 100000 in
set_option maxHeartbeats 8000000 in
theorem puts_pos{w:World}(ts:Sh.Tab w){A:Option Addr}{len c:Nat}{l:List Int}(h:IL w A len c l)(hlen:len≤200)(n0 o:Int)(hn0 : -9223372036854775808≤n0∧n0≤9223372036854775807)(ho : -9223372036854775808≤o∧o≤9223372036854775807)(n:Nat)(hn:n0%300=(n:Int))(hn1:1≤n) :
  Calls Tryd.prog 6 #[.int .i64 n0,.slice A len c,.int .i64 o] w fun e w'=>e=.returned (.bool true)∧Below w.heap.size w w':=by
 have hn3:n≤299:=by omega
 obtain⟨K,hK⟩:∃K,K=(n+7) / 8:=⟨_,rfl⟩
 obtain⟨k,hk⟩:∃k:Nat,o%(n:Int)=(k:Int):=⟨(o%(n:Int)).toNat,by have:=Int.emod_nonneg o (show(n:Int)≠0 by omega);omega⟩
 have hkn:k < n:=by have:=Int.emod_lt_of_pos o (show(0:Int) < (n:Int) by omega);omega
 have S0:=Lib.hid h.1
 have RNG:=Lib.hid h.2.2.1
 have LL:=Lib.hid (show l.length=len by have:=h.1.1;rwa [il_length] at this)
 have A1:=among_any n0 300 w (by decide) (by decide) hn0.1 hn0.2
 rw[hn] at A1
 have A1:=Lib.hid A1
 have A3:=fun w=>among_any o (n:Int) w (by omega) (by omega) ho.1 ho.2
 rw[hk] at A3
 have A3:=Lib.hid A3
 have A2:=Lib.hid (fun(x:Int) (w:World) (hx : -9223372036854775808≤x∧x≤9223372036854775807)=>among_any x (n:Int) w (by omega) (by omega) hx.1 hx.2)
 have EM:=Lib.hid (Empty_any n K (by omega) hK)
 have RZ:=Lib.hid (right_zero (n:=n) hK)
 have t0:decide (0 < n)=true:=decide_eq_true (by omega)
 have TS:=Lib.hid ts
 have HK:=Lib.hid hK
 clear h ts hn hk hK hn0 ho
 go_enter Tryd.func6,Tryd.ntmps6
 go_wp2_with (go_at_call 23;(with_reducible refine A1.out.mono ?_);rintro e w0 ⟨rfl,rfl⟩)
 go_wp2_with (go_at_call 15;(with_reducible refine(EM.out _).mono ?_);rintro e w1 ⟨g1,rfl,p1,-, b1⟩;have D1:=Lib.hid b1;have R0:=Lib.hid (show P1Rel l n K len w (.slice (some ⟨g1,0,none⟩) K K) (.int .i64 0) w1 from⟨0,_,_,_,Nat.zero_le _,rfl,rfl,p1,RZ.out,fun q=>by rw[dig_zero,hits_zero],b1⟩);clear p1 b1)
 go_loopw [7,9] (fun m i wr=>P1Rel l n K len w m i wr) (fun _ i _=>len - (intOf i).toNat)
 case atStart=>exact R0.out
 case round =>
  obtain⟨j,B,d,M,hj,rfl,rfl,hp,hr,hd,hb⟩:=hrel
  have HB:=Lib.hid hb
  have HD:=Lib.hid hd
  by_cases hlt:j < len
  ·obtain⟨ad,rfl,hcell⟩:=S0.out.at_ hlt
   obtain⟨x,hx⟩:∃x,l[j]?=some x:=⟨l[j]'(by have:=LL.out;omega),List.getElem?_eq_getElem _⟩
   have hc:wr.cell? (ad.add j)=some (.int .i64 x):=(hb.cell (cell_lt (by rw[hcell,il_get,hx];rfl))).trans (by rw[hcell,il_get,hx];rfl)
   have hxr:=RNG.out x (List.mem_of_getElem? hx)
   obtain⟨y,hy⟩:∃y:Nat,x%(n:Int)=(y:Int):=⟨(x%(n:Int)).toNat,by have:=Int.emod_nonneg x (show(n:Int)≠0 by omega);omega⟩
   have hyn:y < n:=by have:=Int.emod_lt_of_pos x (show(0:Int) < (n:Int) by omega);omega
   have AX:=A2.out x wr hxr
   rw[hy] at AX
   have AX:=Lib.hid AX
   have PX:=Lib.hid (put_at hp hr (by omega) y hyn)
   have NX:=Lib.hid (fun q=>hits_next (n:=n) (q:=q) hx)
   have HY:=Lib.hid hy
   clear hcell hx hb hd hp hr hy
   go_wp2_with (go_at_call 23;(with_reducible refine AX.out.mono ?_);rintro e w2 ⟨rfl,rfl⟩)
   go_wp2_with (go_at_call 13;(with_reducible refine PX.out.mono ?_);rintro e w3 ⟨g3,cap3,M3,rfl,p3,r3,d3,b3⟩;have P3:=Lib.hid p3;have R3:=Lib.hid r3;have X3:=Lib.hid d3;have D3:=Lib.hid (HB.out.trans (b3.mono HB.out.size));clear p3 r3 d3 b3)
   refine⟨⟨j+1,_,_,M3,by omega,by go_num,rfl,P3.out,R3.out,fun q=>?_,D3.out⟩,by simp[intOf];omega⟩
   rw[X3.out,HD.out,NX.out,HY.out]
   congr 1
   rw[Bool.eq_iff_iff,decide_eq_true_iff,decide_eq_true_iff]
   omega
  ·obtain rfl:j=len:=by omega
   have HP:=Lib.hid hp
   have HR:=Lib.hid hr
   clear hp hr hb hd
   go_wp2_with (go_at_call 23;(with_reducible refine(A3.out _).mono ?_);rintro e w2 ⟨rfl,rfl⟩)
   have R1:=Lib.hid (show P2Rel l n k j wr (.bool false) (.int .i64 0) wr from⟨0,Nat.zero_le _,rfl,by rw[hits_zero],rfl⟩)
   go_loopw [13,14] (fun t i w2=>P2Rel l n k j wr t i w2) (fun _ i _=>j - (intOf i).toNat)
   case atStart=>exact R1.out
   case round =>
    obtain⟨i,hi,rfl,rfl,rfl⟩:=hrel
    by_cases hlt2:i < j
    ·obtain⟨ad,rfl,hcell⟩:=S0.out.at_ hlt2
     obtain⟨x,hx⟩:∃x,l[i]?=some x:=⟨l[i]'(by have:=LL.out;omega),List.getElem?_eq_getElem _⟩
     have hc:wr.cell? (ad.add i)=some (.int .i64 x):=(HB.out.cell (cell_lt (by rw[hcell,il_get,hx];rfl))).trans (by rw[hcell,il_get,hx];rfl)
     have hxr:=RNG.out x (List.mem_of_getElem? hx)
     obtain⟨y,hy⟩:∃y:Nat,x%(n:Int)=(y:Int):=⟨(x%(n:Int)).toNat,by have:=Int.emod_nonneg x (show(n:Int)≠0 by omega);omega⟩
     have AX:=A2.out x wr hxr
     rw[hy] at AX
     have AX:=Lib.hid AX
     have NX:=hits_next (n:=n) (q:=k) hx
     rw[hy] at NX
     rcases hh:hits l n i k with _|_
     ·rw[hh,Bool.false_or] at NX
      have e2:decide ((y:Int)=(k:Int))=((y:Int) == (k:Int)):=by rw[Bool.eq_iff_iff,decide_eq_true_iff,beq_iff_eq]
      rw[e2] at NX
      have NX:=Lib.hid NX
      clear hcell hx hy hh e2
      go_wp2_with (go_at_call 23;(with_reducible refine AX.out.mono ?_);rintro e w2 ⟨rfl,rfl⟩)
      all_goals
       refine⟨⟨i+1,by omega,by go_num,?_,rfl⟩,by simp[intOf];omega⟩
       rw[NX.out]
     ·rw[hh,Bool.true_or] at NX
      have NX:=Lib.hid NX
      clear hcell hx hy hh AX
      go_wp2_with fail
      exact⟨⟨i+1,by omega,by go_num,by rw[NX.out],rfl⟩,by simp[intOf];omega⟩
    ·obtain rfl:i=j:=by omega
     have hm:K=M.length:=HP.out.len
     have hl2:=right_len HR.out
     have HS:=Has_any (c:=d) (A:=B) (l:=M) (n:=n) (w:=wr) (by have:=HP.out;rwa [hm] at this) (by omega) (by omega) (k:Int)
     have hhas:hasB M n (k:Int)=hits l n i k:=by
      rw[←HD.out k]
      unfold hasB holdsB
      rw[HR.out,decide_eq_true (by omega:(0:Int)≤(k:Int)),decide_eq_true (by omega:(k:Int) < (n:Int)),Int.toNat_natCast];rfl
     rw[hhas,←hm] at HS
     have HS:=Lib.hid HS
     clear hm hl2 hhas
     generalize hits l n i k=bb at HS ⊢
     go_wp2_with (go_at_call 20;(with_reducible refine HS.out.mono ?_);rintro e w4 ⟨rfl,b4⟩;have D4:=Lib.hid (HB.out.trans (b4.mono HB.out.size));have HP4:=Lib.hid (HP.out.below b4);clear b4)
     clear HD
     have R3:=Lib.hid (show P3Rel l n K i w (.slice B K d) (.int .i64 0) w4 from⟨0,_,_,M,Nat.zero_le _,rfl,rfl,HP4.out,HR.out,fun q hq=>by omega,D4.out⟩)
     go_loopw [7,15] (fun m q wr=>P3Rel l n K i w m q wr) (fun _ q _=>n - (intOf q).toNat)
     case atStart=>exact R3.out
     case round =>
      obtain⟨j,B,d,M,hj,rfl,rfl,hp,hr,hd,hb⟩:=hrel
      have HB:=Lib.hid hb
      have HD:=Lib.hid hd
      by_cases hlt:j < n
      ·have PX:=Lib.hid (put_at hp hr (by omega) j hlt)
       clear hb hd hp hr
       go_wp2_with (go_at_call 13;(with_reducible refine PX.out.mono ?_);rintro e w5 ⟨g5,cap5,M5,rfl,p5,r5,d5,b5⟩;have P5:=Lib.hid p5;have R5:=Lib.hid r5;have X5:=Lib.hid d5;have D5:=Lib.hid (HB.out.trans (b5.mono HB.out.size));clear p5 r5 d5 b5)
       refine⟨⟨j+1,_,_,M5,by omega,by go_num,rfl,P5.out,R5.out,fun q hq=>?_,D5.out⟩,by simp[intOf];omega⟩
       rw[X5.out]
       rcases Nat.lt_or_ge q j with h1|h1
       ·rw[HD.out q h1];rfl
       ·rw[decide_eq_true (show q=j by omega)];simp
      ·obtain rfl:j=n:=by omega
       have hm:K=M.length:=hp.len
       have hl2:=right_len hr
       have HM:=(Missing_any (c:=d) (A:=B) (l:=M) (n:=j) (w:=wr) (by rwa [hm] at hp) (by omega) (by omega)).mono (R':=fun e w'=>e=.returned (.int .i64 (j:Int))∧Below wr.heap.size wr w') (by
        rintro e w' ⟨h1,h2⟩
        rw[hr] at h1
        obtain⟨m,rfl,h3,h4,h5⟩:=h1
        refine⟨?_,h2⟩
        rcases Nat.lt_or_ge m j with h6|h6
        ·have h7:=h5 h6
         rw[hd m h6] at h7
         cases h7
        ·rw[show m=j by omega])
       have HG:=fun w1 (b:Below wr.heap.size wr w1)=>Right_any (c:=d) (A:=B) (l:=M) (n:=j) (w:=w1) (by have:=hp.below b;rwa [hm] at this) (by omega) (by omega)
       rw[hr] at HG
       rw[←hm] at HM HG
       have HM:=Lib.hid HM
       have HG:=Lib.hid HG
       clear hp hr hb hd hm hl2
       go_wp2_with (go_at_call 22;(with_reducible refine HM.out.mono ?_);rintro e w6 ⟨rfl,b6⟩;have D6:=Lib.hid (HB.out.trans (b6.mono HB.out.size));have HG2:=Lib.hid (HG.out w6 b6);clear b6)
       go_wp2_with (go_at_call 18;(with_reducible refine HG2.out.mono ?_);rintro e w7 ⟨rfl,b7⟩;have D7:=Lib.hid (D6.out.trans (b7.mono D6.out.size));have F8:=Lib.hid (known_any w7 (TS.out.below D7.out));clear b7)
       go_wp2_with (go_at_call 7;(with_reducible refine F8.out.mono ?_);rintro e w8 ⟨rfl,b8⟩;have D8:=Lib.hid (D7.out.trans (b8.mono D7.out.size));clear b8)
       go_ret
       exact⟨rfl,D8.out⟩
theorem right_nil:rightB [] 0=true:=by decide
def Z2Rel(len:Nat)(w:World)(t i:Value)(wr:World):Prop:=∃j,j≤len∧i=.int .i64 (j:Int)∧t=.bool false∧wr=w
set_option maxRecDepth 100000 in
set_option maxHeartbeats 8000000 in
theorem puts_zero{w:World}(ts:Sh.Tab w){A:Option Addr}{len c:Nat}(hlen:len≤200)(n0 o:Int)(hn0 : -9223372036854775808≤n0∧n0≤9223372036854775807)(hn:n0%300=0) :
  Calls Tryd.prog 6 #[.int .i64 n0,.slice A len c,.int .i64 o] w fun e w'=>e=.returned (.bool true)∧Below w.heap.size w w':=by
 have A1:=among_any n0 300 w (by decide) (by decide) hn0.1 hn0.2
 rw[hn] at A1
 have A1:=Lib.hid A1
 have A3:=Lib.hid (fun w=>among_zero o w)
 have EM:=Lib.hid (fun w=>show Calls Tryd.prog 15 #[.int .i64 0] w fun e w'=>∃g,e=.returned (.tuple #[.slice (some ⟨g,0,none⟩) 0 0,.int .i64 0])∧Pc w' (some ⟨g,0,none⟩,0,0,[])∧w.heap.size≤g∧Below w.heap.size w w' from Empty_any 0 0 (by decide) rfl w)
 have HS:=Lib.hid (fun(w1:World) (g:Nat) (hp:Pc w1 (some ⟨g,0,none⟩,0,0,[]))=>show Calls Tryd.prog 20 #[.slice (some ⟨g,0,none⟩) 0 0,.int .i64 0,.int .i64 0] w1 fun e w'=>e=.returned (.bool false)∧Below w1.heap.size w1 w' from by
  have:=Has_any (n:=0) (l:=[]) (c:=0) hp (by decide) (by decide) 0
  rw[hasB_zero rfl] at this
  exact this)
 have HM:=Lib.hid (fun(w1:World) (g:Nat) (hp:Pc w1 (some ⟨g,0,none⟩,0,0,[]))=>show Calls Tryd.prog 22 #[.slice (some ⟨g,0,none⟩) 0 0,.int .i64 0] w1 fun e w'=>e=.returned (.int .i64 0)∧Below w1.heap.size w1 w' from by
  refine(Missing_any (n:=0) (l:=[]) (c:=0) hp (by decide) (by decide)).mono ?_
  rintro e w' ⟨h1,h2⟩
  rw[right_nil] at h1
  obtain⟨m,rfl,h3,-, -⟩:=h1
  exact⟨by rw[show m=0 by omega];rfl,h2⟩)
 have HG:=Lib.hid (fun(w1:World) (g:Nat) (hp:Pc w1 (some ⟨g,0,none⟩,0,0,[]))=>show Calls Tryd.prog 18 #[.slice (some ⟨g,0,none⟩) 0 0,.int .i64 0] w1 fun e w'=>e=.returned (.bool true)∧Below w1.heap.size w1 w' from by
  have:=Right_any (n:=0) (l:=[]) (c:=0) hp (by decide) (by decide)
  rw[right_nil] at this
  exact this)
 have TS:=Lib.hid ts
 clear ts hn hn0
 go_enter Tryd.func6,Tryd.ntmps6
 go_wp2_with (go_at_call 23;(with_reducible refine A1.out.mono ?_);rintro e w0 ⟨rfl,rfl⟩)
 go_wp2_with (go_at_call 15;(with_reducible refine(EM.out _).mono ?_);rintro e w1 ⟨g1,rfl,p1,-, b1⟩;have D1:=Lib.hid b1;have P1:=Lib.hid p1;have HS1:=Lib.hid (HS.out w1 g1 p1);clear p1 b1)
 go_loopw [7,9] (fun m i wr=>m=.slice (some ⟨g1,0,none⟩) 0 0∧i=.int .i64 0∧wr=w1) (fun _ _ _=>0)
 case atStart=>exact⟨rfl,rfl,rfl⟩
 case round =>
  obtain⟨rfl,rfl,rfl⟩:=hrel
  by_cases hl:0 < len
  all_goals
   go_wp2_with (go_at_call 23;(with_reducible refine(A3.out _).mono ?_);rintro e w2 ⟨rfl,rfl⟩)
   go_loopw [13,14] (fun t i w2=>Z2Rel len wr t i w2) (fun _ i _=>len - (intOf i).toNat)
   case atStart=>exact⟨0,Nat.zero_le _,rfl,rfl,rfl⟩
   case round =>
    obtain⟨i,hi,rfl,rfl,rfl⟩:=hrel
    by_cases hlt2:i < len
    ·go_wp2_with fail
     exact⟨⟨i+1,by omega,by go_num,rfl,rfl⟩,by simp[intOf];omega⟩
    ·go_wp2_with (go_at_call 20;(with_reducible refine HS1.out.mono ?_);rintro e w4 ⟨rfl,b4⟩;have D4:=Lib.hid (D1.out.trans (b4.mono D1.out.size));have P4:=Lib.hid (P1.out.below b4);have HM1:=Lib.hid (HM.out w4 g1 P4.out);clear b4)
     go_loopw [7,15] (fun m i w5=>m=.slice (some ⟨g1,0,none⟩) 0 0∧i=.int .i64 0∧w5=w4) (fun _ _ _=>0)
     case atStart=>exact⟨rfl,rfl,rfl⟩
     case round =>
      obtain⟨rfl,rfl,rfl⟩:=hrel
      go_wp2_with (go_at_call 22;(with_reducible refine HM1.out.mono ?_);rintro e w6 ⟨rfl,b6⟩;have D6:=Lib.hid (D4.out.trans (b6.mono D4.out.size));have HG2:=Lib.hid (HG.out w6 g1 (P4.out.below b6));clear b6)
      go_wp2_with (go_at_call 18;(with_reducible refine HG2.out.mono ?_);rintro e w7 ⟨rfl,b7⟩;have D7:=Lib.hid (D6.out.trans (b7.mono D6.out.size));have F8:=Lib.hid (known_any w7 (TS.out.below D7.out));clear b7)
      go_wp2_with (go_at_call 7;(with_reducible refine F8.out.mono ?_);rintro e w8 ⟨rfl,b8⟩;have D8:=Lib.hid (D7.out.trans (b8.mono D7.out.size));clear b8)
      go_ret
      exact⟨rfl,D8.out⟩
set_option maxRecDepth 100000 in
theorem puts_long{w:World}(ts:Sh.Tab w)(A:Option Addr)(m c:Nat)(hm:200 < m)(n p:Int) :
  Calls Tryd.prog 6 #[.int .i64 n,.slice A m c,.int .i64 p] w fun e w'=>e=.returned (.bool true)∧Below w.heap.size w w':=by
 have F8:=Lib.hid (known_any w ts)
 clear ts
 go_enter Tryd.func6,Tryd.ntmps6
 go_wp2_with (go_at_call 7;(with_reducible refine F8.out.mono ?_);rintro e w13 ⟨rfl,b13⟩;have D13:=Lib.hid b13;clear b13)
 go_ret
 exact⟨rfl,D13.out⟩
theorem wf_i64{x:Int}(h:(Lit.int .i64 x).wf) : -9223372036854775808≤x∧x≤9223372036854775807:=by
 simpa[Lit.wf,IntKind.min,IntKind.max,IntKind.signed,IntKind.bits] using h
theorem walk_merklePuts{w:World}(ts:Sh.Tab w)(n:Int)(wn:(Lit.int .i64 n).wf)(A:Option Addr)(m c:Nat)(l:List Int)(hl:IL w A m c l)(p:Int)(wp:(Lit.int .i64 p).wf) :
  Calls Tryd.prog 6 #[.int .i64 n,.slice A m c,.int .i64 p] w fun e w'=>e=.returned (.bool true)∧Below w.heap.size w w':=by
 by_cases hm:m≤200
 ·by_cases h0:n%300=0
  ·exact puts_zero ts hm n p (wf_i64 wn) h0
  ·obtain⟨k,hk⟩:∃k:Nat,n%300=(k:Int):=⟨(n%300).toNat,by omega⟩
   exact puts_pos ts hl hm n p (wf_i64 wn) (wf_i64 wp) k hk (by omega)
 ·exact puts_long ts A m c (by omega) n p
end Go.Proofs.YtmfpckbahgpojaaDoor.Mk
