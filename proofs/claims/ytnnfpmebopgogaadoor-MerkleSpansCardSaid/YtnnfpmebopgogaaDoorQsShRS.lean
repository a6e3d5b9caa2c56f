/- Joined texts. -/
import Derived.Deep.RegionLaw
import Derived.Deep.AppendLies
import Derived.Deep.CutBlock
import Derived.Deep.DeepCutAuto
import Derived.Outline
import Derived.Test.YtnnfpmebopgogaaDoorQsShRPad
import Derived.Test.YtnnfpmebopgogaaDoorQsShRR
import Derived.Test.YtnnfpmebopgogaaDoorQsSaC
set_option linter.unusedVariables false
namespace Go.Proofs.YtnnfpmebopgogaaDoor.Sh
open Go.RowKit Go.Proofs.YtnnfpmebopgogaaDoor.Gn Go.Deep
attribute [local go_sem ↓] Go.wp_at_zero Go.wp_at_succ
theorem run_length(b:Bool)(T:List Nat)(m:Nat):(run b T m).length=8:=by
 induction m with
 |zero=>cases b <;> rfl
 |succ m ih=>rw[run,bh_length _ _ _ ih]
theorem st_lt(b:Bool):∀x∈st b,x < mo b:=by cases b <;> decide
theorem run_lt(b:Bool)(T:List Nat)(m:Nat):∀x∈run b T m,x < mo b:=by
 cases m with
 |zero=>exact st_lt b
 |succ m=>exact bh_lt b _ _
theorem lt8_of(b:Bool){l:List Nat}(h:l.length=8)(hl:∀x∈l,x < mo b):Lt8 b (V8.of l):=by
 have hg:∀j,j < 8→l.getD j 0 < mo b:=fun j hj=>hl _ (by rw[List.getD_eq_getElem?_getD,List.getElem?_eq_getElem (by omega)];exact List.getElem_mem _)
 exact⟨hg 0 (by decide),hg 1 (by decide),hg 2 (by decide),hg 3 (by decide),hg 4 (by decide),hg 5 (by decide),hg 6 (by decide),hg 7 (by decide)⟩
theorem nl8_of{l:List Nat}(h:l.length=8):nl l=nl8 (V8.of l):=by
 obtain⟨a,b,c,d,e,f,g,k,rfl⟩:=eight_of h
 rfl
theorem Sl_bl8{w:World}{q:Nat}{xs:List Value}(h:Bl w q 97 xs.toArray)(hl:xs.length=8):Sl w (some ⟨q,0,none⟩) 8 xs :=
 Sl.of_bl h 0 8 _ hl (fun k v hk=>by rw[Nat.zero_add];simpa using hk)
theorem own_at{w:World}{base:Nat}{e:TypeId}{v:Value}{n:Nat}{xs:List Value}(h:w.ownsRow base e 1 v n xs)(hn:0 < n) :
  ∃g cap,v=.slice (some ⟨g,0,none⟩) n cap∧Sl w (some ⟨g,0,none⟩) n xs:=by
 have h0:=h
 obtain⟨hl,h2⟩:=h
 rcases h2 with⟨rfl,rfl⟩|⟨g,cap,cur,rfl,-⟩
 ·simp at hl;omega
 ·obtain⟨A,c2,e1,hs,-⟩:=Sl.own h0
  injection e1 with e1 e2 e3
  subst e1
  exact⟨g,cap,rfl,hs⟩
theorem own_blk{w:World}{base:Nat}{e:TypeId}{v:Value}{n:Nat}{xs:List Value}(h:w.ownsRow base e 1 v n xs):∀k,v.ownBlock=some k→base≤k:=by
 obtain⟨A,cap,rfl,-, -, -, -, hA⟩:=Sl.own h
 intro k hk
 cases A with
 |none=>cases hk
 |some ad=>simp[Value.ownBlock] at hk;have:=(hA ad rfl).1;omega
theorem grown_below{w w':World}(h:w.grownBy w' none):Below w.heap.size w w':=(Below.refl _ _).grown h (Nat.le_refl _) (fun k e=>by cases e)
theorem pads_le32'(n:Nat):pads false n≤256:=by
 have:=Nat.mod_lt n (show 0 < 64 by decide)
 simp[pads,bk];split <;> omega
theorem st_eq32{ws:List Nat}(h:ws.length=8)(hw:∀j,j < 8→ws.getD j 0=sc.getD j 0 / 2 ^ (64 - 32)):ws=st false:=by
 have hl:(st false).length=8:=rfl
 apply List.ext_getElem (by rw[h,hl])
 intro j h1 h2
 have:=hw j (by omega)
 have hs:sc.length=8:=rfl
 simp only[st,wd] at h2 ⊢
 simp only[List.length_map] at h2
 simpa[List.getD_eq_getElem?_getD,List.getElem?_eq_getElem h1,List.getElem?_eq_getElem h2] using this
def RL232(all:List Nat)(M:Nat)(wc:World)(h f:Value)(wr:World):Prop :=
 ∃(m gh ch:Nat),m≤M∧f=.int .i64 ((m*64:Nat):Int)∧h=.slice (some ⟨gh,0,none⟩) 8 ch∧Sl wr (some ⟨gh,0,none⟩) 8 (nl (run false all m))∧Below wc.heap.size wc wr
def RL332(wsx:List Nat)(V:V8)(w6:World)(v t:Value)(wx:World):Prop :=
 ∃(j gv cv:Nat),j≤64∧t=.int .i64 (j:Int)∧v=.slice (some ⟨gv,0,none⟩) 8 cv∧Sl wx (some ⟨gv,0,none⟩) 8 (nl8 (mx false wsx V j))∧Below w6.heap.size w6 wx
def RL432(L:List Nat)(w7:World)(o t:Value)(wx:World):Prop :=
 ∃i:Nat,i≤8∧t=.int .i64 (i:Int)∧wx.ownsRow w7.heap.size 97 1 o i (nl (L.take i))∧Below w7.heap.size w7 wx
def RL532(ws:List Nat)(wf:World)(o t:Value)(wx:World):Prop :=
 ∃i:Nat,i≤8∧t=.int .i64 (i:Int)∧wx.ownsRow wf.heap.size 5 1 o (i*4) (bl ((ws.take i).flatMap fun x=>be x 4))∧Below wf.heap.size wf wx
def RL632(pre:List Nat)(X i:Nat)(wf:World)(o s:Value)(wx:World):Prop :=
 ∃t:Nat,t≤4∧s=.int .i64 ((32:Int) - 8 - 8*(t:Int))∧wx.ownsRow wf.heap.size 5 1 o (i*4+t) (bl (pre ++ (be X 4).take t))∧Below wf.heap.size wf wx
def RL132(g:Nat)(w5:World)(s:Value)(wx:World):Prop :=
 ∃(i:Nat) (ws:List Nat),i≤8∧s=.int .i64 (i:Int)∧((4294967296:Nat)=0→i=0)∧ws.length=8∧(∀j,j < 8→ws.getD j 0=if j < i then sc.getD j 0 / 2 ^ (64 - 32) else sc.getD j 0)∧Bl wx g 97 (nl ws).toArray∧w5.grownBy wx (some g)
set_option maxRecDepth 100000 in
set_option maxHeartbeats 4000000 in
theorem rsum32_any(l:List Nat)(A:Option Addr)(n c:Nat)(w:World)(hl:∀x∈l,x < 256)(hsl:Sl w A n (bl l))(hnil:A=none→c=0)(hn:n≤1048576) :
  Calls Tryd.prog 68 #[.slice A n c,.int .i64 256] w
   fun e w'=>∃v,e=.returned (.tuple #[v,.int .i64 0])∧w'.ownsRow w.heap.size 5 1 v 32 (bl (dg false l))∧Below w.heap.size w w':=by
 have HL:=Lib.hid hl
 have HS:=Lib.hid hsl
 have HN:=Lib.hid hnil
 have hln:l.length=n:=by have:=hsl.1;rwa [bl_length] at this
 have HLN:=Lib.hid hln
 have t1:decide (1048576 < (n:Int))=false:=by simp;omega
 obtain⟨i0,hi,hz0,hz1,hz2⟩:=info_parts info1
 obtain⟨j0,hjj,hy0,hy1,hy2⟩:=info_parts info64
 clear hl hsl hnil hln
 go_enter Tryd.func68,Tryd.ntmps68
 go_upto_region 6 with fail
 have c0:(w.alloc (.cells #[.int .u64 4294967296,.int .u64 32] 100)).cell? ⟨w.heap.size,0,none⟩=some (.int .u64 4294967296):=(Bl.new_ w 100 #[.int .u64 4294967296,.int .u64 32]).cell_ rfl
 have c1:(w.alloc (.cells #[.int .u64 4294967296,.int .u64 32] 100)).cell? ⟨w.heap.size,1,none⟩=some (.int .u64 32):=(Bl.new_ w 100 #[.int .u64 4294967296,.int .u64 32]).cell_ rfl
 have b0:Below w.heap.size w (w.alloc (.cells #[.int .u64 4294967296,.int .u64 32] 100)):=(Below.refl _ _).alloc (Nat.le_refl _) _
 have z0:w.heap.size < (w.alloc (.cells #[.int .u64 4294967296,.int .u64 32] 100)).heap.size:=by simp
 generalize hw0:w.alloc _=w0 at c0 c1 b0 z0 ⊢
 clear hw0
 have B0:=Lib.hid b0
 have C0:=Lib.hid c0
 have C1:=Lib.hid c1
 have Z0:=Lib.hid z0
 clear b0 c0 c1 z0
 have PL:=Lib.hid (pads_le32' n)
 go_upto_block 0 with(first|(go_at_call 80;(with_reducible refine(rpad32_any n _ hn).mono ?_);rintro e w1 ⟨vp,rfl,hown,hb1⟩;have B1:=Lib.hid hb1;have O1:=Lib.hid hown;obtain⟨Ap,cp,rfl,hslp,hnilp,hlcp,-, -⟩:=Sl.own hown;have S1:=Lib.hid hslp;have N1:=Lib.hid hnilp;clear hb1 hown hslp hnilp hlcp)|(at_builtin;refine wpList_append_sl rfl (.tmp 36) (.tmp 37) 22 rfl w0.heap.size 5 i0 _ 1 Tryd.underlying22 hi hz0 hz1 hz2 rfl (.slice none 0 0) 0 [] rfl (own_nil _ _ _) A n c (bl l) rfl HN.out ((HS.out.below B0.out).below B1.out) (bl_one _) (by unfold maxLen;omega) (by omega) B1.out.size ?_;intro v2 w2 hown2 hgrow2;have O2:=Lib.hid hown2;have B2:=Lib.hid (grown_below hgrow2);clear hown2 hgrow2)|(at_builtin;refine wpList_append_sl rfl (.tmp 38) (.tmp 39) 22 rfl w0.heap.size 5 i0 _ 1 Tryd.underlying22 hi hz0 hz1 hz2 rfl v2 (0+n) ([] ++ bl l) rfl O2.out Ap (pads false n) cp (bl (pad false n)) rfl N1.out (S1.out.below B2.out) (bl_one _) (by have:=PL.out;unfold maxLen;omega) (by have:=PL.out;omega) (Nat.le_trans B1.out.size B2.out.size) ?_;intro v3 w3 hown3 hgrow3;have O3:=Lib.hid hown3;have B3:=Lib.hid (show Below w0.heap.size w0 w3 from(B1.out.trans (B2.out.mono B1.out.size)).grown hgrow3 (Nat.le_trans B1.out.size B2.out.size) (own_blk O2.out));clear hown3 hgrow3)|(go_at_call 81;(with_reducible refine(rconstants_any _).mono ?_);rintro e w4 ⟨rfl,hw4⟩;have K4:=Lib.hid (show Bl w4 w3.heap.size 97 (nl kc).toArray by rw[hw4];exact Bl.new_ _ _ _);have B4:=Lib.hid (show Below w3.heap.size w3 w4 by rw[hw4];exact(Below.refl _ _).alloc (Nat.le_refl _) _);clear hw4)|(go_at_call 82;(with_reducible refine(rstarts_any _).mono ?_);rintro e w5 ⟨rfl,hw5⟩;have K5:=Lib.hid (show Bl w5 w4.heap.size 97 (nl sc).toArray by rw[hw5];exact Bl.new_ _ _ _);have B5:=Lib.hid (show Below w4.heap.size w4 w5 by rw[hw5];exact(Below.refl _ _).alloc (Nat.le_refl _) _);clear hw5))
 obtain⟨A3,cap3,rfl,hs3,hn3,hl3,hm3,hA3⟩:=Sl.own O3.out
 have S3:=Lib.hid hs3
 have N3:=Lib.hid hn3
 have A3B:=Lib.hid hA3
 clear hs3 hn3 hm3 hA3
 have PLN:=Lib.hid (show(pad false n).length=pads false n from pad_length false n)
 obtain⟨N,hN⟩:∃N,N=0+n+pads false n:=⟨_,rfl⟩
 rw[←hN] at S3 hl3 ⊢
 have HNN:=Lib.hid hN
 clear hN O3
 go_cut [12] (fun s12 wx=>∃ws:List Nat,ws=st false∧Bl wx w4.heap.size 97 (nl ws).toArray∧w5.grownBy wx (some w4.heap.size))
 case first =>
  go_wp2_with fail
  go_loopw [12] (fun s wx=>RL132 w4.heap.size w5 s wx) (fun s _=>8 - (intOf s).toNat)
  case atStart=>exact⟨0,sc,Nat.zero_le _,rfl,fun _=>rfl,rfl,fun j hj=>by rw[if_neg (by omega)],K5.out,World.grownBy.refl _ _⟩
  case round =>
   obtain⟨i,ws,hi8,rfl,hz,hwl,hws,hb,hg⟩:=hrel
   have HZ:=Lib.hid hz
   have HWL:=Lib.hid hwl
   have HWS:=Lib.hid hws
   have HB:=Lib.hid hb
   have HG:=Lib.hid hg
   clear hz hwl hws hb hg
   have BZ:Below w0.heap.size w0 w5:=(B3.out.trans (B4.out.mono B3.out.size)).trans (B5.out.mono (Nat.le_trans B3.out.size B4.out.size))
   have k0:=keepc BZ C0.out
   have cz:wr.cell? ⟨w.heap.size,0,none⟩=some (.int .u64 4294967296):=(only_cell HG.out (cell_lt k0) (fun e=>by injection e with e;simp at e;have:=Z0.out;have:=B3.out.size;have:=B4.out.size;omega)).trans k0
   clear k0 BZ
   by_cases hlt:i < 8
   ·obtain⟨X,hX⟩:∃X,X=sc.getD i 0:=⟨_,rfl⟩
    have hXl:X < 18446744073709551616:=by rw[hX];exact(show ∀x∈sc,x < 18446744073709551616 by decide) _ (by rw[List.getD_eq_getElem?_getD,List.getElem?_eq_getElem (show i < sc.length from hlt)];exact List.getElem_mem _)
    have hxi:ws.getD i 0=X:=by rw[HWS.out i hlt,if_neg (Nat.lt_irrefl _),hX]
    have hcell:=HB.out.cell i
    have hwi:i < ws.length:=by rw[HWL.out];exact hlt
    rw[List.getElem?_toArray,nl_get,List.getElem?_eq_getElem hwi,Option.map_some,show ws[i]=X by rw[←hxi];simp[hwi]] at hcell
    have hfz:=HB.out.frozen i
    have HXX:=Lib.hid (And.intro hX hXl)
    have eX:IntKind.u64.wrap ((X:Int) / 4294967296)=((X / 4294967296:Nat):Int):=by rw[IntKind.wrap_u64];omega
    have HWI:=Lib.hid hwi
    clear hX hXl hxi hwi
    have bi:(i:Int) < 8:=by omega
    go_wp2_with fail
    go_roundw
    case rel =>
     refine⟨i+1,ws.set i (X / 4294967296),by omega,by go_num,(fun h=>absurd h (by decide)),(by rw[List.length_set];exact HWL.out),?_,?_,only_set HG.out (.inl rfl) _⟩
     ·intro j hj
      by_cases hij:i=j
      ·subst hij
       rw[if_pos (by omega),←HXX.out.1]
       simp[List.getD_eq_getElem?_getD,HWI.out]
      ·have:=HWS.out j hj
       rw[List.getD_eq_getElem?_getD,List.getElem?_set_ne hij,←List.getD_eq_getElem?_getD,this]
       by_cases hji:j < i
       ·rw[if_pos hji,if_pos (by omega)]
       ·rw[if_neg hji,if_neg (by omega)]
     ·have:=HB.out.set_ i (.int .u64 ((X / 4294967296:Nat):Int))
      have e:(nl ws).toArray.setIfInBounds i (.int .u64 ((X / 4294967296:Nat):Int))=(nl (ws.set i (X / 4294967296))).toArray:=by
       simp[nl,List.setIfInBounds_toArray,List.map_set]
      rw[e] at this
      exact this
    case measure=>simp[intOf];omega
   ·obtain rfl:i=8:=by omega
    go_wp2_with fail
    go_meet
    exact⟨ws,st_eq32 HWL.out (fun j hj=>by rw[HWS.out j hj];first|rw[if_pos hj]|(exact absurd (HZ.out rfl) (by decide))),HB.out,HG.out⟩
 case rest =>
  obtain⟨ws,hws,hb,hg⟩:=hcut
  have HWS:=Lib.hid hws
  have HB:=Lib.hid hb
  have HG:=Lib.hid hg
  clear hws hb hg
  obtain⟨all,hall⟩:∃L,L=l ++ pad false n:=⟨_,rfl⟩
  have hallN:all.length=N:=by rw[hall,List.length_append,HLN.out,PLN.out,HNN.out];omega
  have hallB:∀x∈all,x < 256:=by
   intro x hx
   rw[hall] at hx
   rcases List.mem_append.1 hx with h|h
   ·exact HL.out x h
   ·unfold pad at h
    simp only[List.mem_cons,List.mem_append,List.mem_replicate] at h
    rcases h with rfl|⟨-, rfl⟩|h
    ·decide
    ·decide
    ·exact be_lt _ _ _ h
  obtain⟨M,hM⟩:∃M,M=N / 64:=⟨_,rfl⟩
  have hMN:N=M*64:=by
   have h1:=mod_add_pads false n
   have h2:bk false=64:=rfl
   rw[h2] at h1
   have:=HNN.out
   omega
  have hNpos:0 < N:=by have:=HNN.out;have:=(show 0 < pads false n by have:=padz_pads false n;omega);omega
  obtain⟨a3,rfl,-⟩:=S3.out.at_ hNpos
  have hA:=A3B.out a3 rfl
  have BZ:Below w0.heap.size w0 w5:=(B3.out.trans (B4.out.mono B3.out.size)).trans (B5.out.mono (Nat.le_trans B3.out.size B4.out.size))
  have s34:=B4.out.size
  have s45:=B5.out.size
  have s03:=B3.out.size
  have hgl:w4.heap.size < w5.heap.size:=K5.out.lt
  have h34l:w3.heap.size < w4.heap.size:=K4.out.lt
  have BC:=Lib.hid (show Below w0.heap.size w0 wc from BZ.grown HG.out BZ.size (fun k e=>by injection e with e;omega))
  have SA:=Lib.hid (show Sl wc (some a3) N (bl all) from by
   have h:=((S3.out.below B4.out).below B5.out).only HG.out (fun ad e=>by injection e with e;intro h;injection h with h;rw[←e] at h;omega)
   rwa [List.nil_append,←bl_append,←hall] at h)
  have KC:=Lib.hid (show Bl wc w3.heap.size 97 (nl kc).toArray from(K4.out.below' B5.out).grown HG.out (fun e=>by injection e with e;omega))
  have KS:=Lib.hid (show Sl wc (some ⟨w4.heap.size,0,none⟩) 8 (nl (st false)) from Sl.of_bl HB.out 0 8 _ (by rw[nl_length];rfl) (fun k v hk=>by rw[Nat.zero_add,HWS.out];simpa using hk))
  have HALL:=Lib.hid (And.intro hall (And.intro hallN hallB))
  have HMN:=Lib.hid (And.intro hM hMN)
  have ZC:=Lib.hid (show w0.heap.size≤wc.heap.size∧w4.heap.size < wc.heap.size∧w3.heap.size < wc.heap.size∧a3.block < wc.heap.size from by obtain⟨_,_,_,h,_⟩:=HG.out;exact⟨by omega,by omega,by omega,by omega⟩)
  have hN2:N≤2000000:=by have:=HNN.out;have:=PL.out;omega
  clear hall hallN hallB hM hMN hNpos hA BZ s34 s45 s03 hgl h34l
  go_wp2_with fail
  go_loopw [11,13] (fun h f wr=>RL232 all M wc h f wr) (fun _ f _=>N - (intOf f).toNat)
  case atStart=>exact⟨0,_,_,Nat.zero_le _,rfl,rfl,KS.out,Below.refl _ _⟩
  case round =>
   obtain⟨m,gh,ch',hm,rfl,rfl,hsl,hbel⟩:=hrel
   have R1:=Lib.hid hsl
   have R2:=Lib.hid hbel
   clear hsl hbel
   obtain⟨F,hF⟩:∃F,F=m*64:=⟨_,rfl⟩
   rw[←hF]
   by_cases hlt:m < M
   ·have hFN:F+64≤N:=by have:=HMN.out.2;rw[this,hF];have:(m+1)*64≤M*64:=Nat.mul_le_mul_right _ hlt;omega
    have c0:=keepc R2.out (keepc BC.out C0.out)
    have c1:=keepc R2.out (keepc BC.out C1.out)
    have f1:(F:Int) < (N:Int):=by omega
    have f2:IntKind.i64.wrap ((F:Int)+64)=(F:Int)+64:=IntWalk.i64_in _ (by omega)
    have f7:IntKind.i64.wrap 64=64:=IntWalk.i64_in _ (by decide)
    have f5:¬cap3=F:=by omega
    have g0:(0:Int)≤(F:Int)+64:=by omega
    have g1:((F:Int)+64).toNat=F+64:=by omega
    have g2:(F:Int)+64≤(cap3:Int):=by omega
    have g4:(F:Int)≤(F:Int)+64:=by omega
    have HF:=Lib.hid hF
    clear hF
    obtain⟨blk,hblk⟩:∃B,B=(all.drop F).take 64:=⟨_,rfl⟩
    have hblkB:∀x∈blk,x < 256:=fun x hx=>by rw[hblk] at hx;exact HALL.out.2.2 x (List.mem_of_mem_drop (List.mem_of_mem_take hx))
    have SB:=Lib.hid (show Sl wr (some (a3.add F)) 64 (bl blk) from by
     have h1:=(SA.out.below R2.out).drop_ F (by omega) hl3
     rw[if_neg f5] at h1
     have h2:=h1.take_ 64 (by omega)
     rw[bl_drop,bl_take,←hblk] at h2
     exact h2)
    have XP:=Lib.hid (show ∀(wx:World) (cx:Nat),Below wr.heap.size wr wx→Calls Tryd.prog 83 #[.agg #[.int .u64 4294967296,.int .u64 32],.slice (some (a3.add F)) 64 cx] wx fun e w'=>∃v,e=.returned v∧w'.ownsRow wx.heap.size 97 1 v 64 (nl (wds false blk))∧Below wx.heap.size wx w' from fun wx cx hb=>expand32_any (a3.add F) cx blk wx hblkB (SB.out.below hb))
    have HBLK:=Lib.hid hblk
    clear hblk hblkB
    go_wp2_with fail
    go_region_held3 (fun x'=>x'.cell? ⟨w.heap.size,0,none⟩=some (.int .u64 4294967296)∧x'.cell? ⟨w.heap.size,1,none⟩=some (.int .u64 32))
     (first|exact⟨c0,c1⟩|exact⟨keepc K1 c0,keepc K1 c1⟩)
     (first|(go_at_call 83;(with_reducible refine(XP.out _ _ (by exact(Below.refl _ _).drew)).mono ?_);rintro e w6 ⟨v6,rfl,hown6,hb6⟩;have K1:=k_drew hb6;obtain⟨A6,c6,rfl,hs6,-, -, -, -⟩:=Sl.own hown6;obtain⟨a6,rfl,-⟩:=hs6.at_ (show 0 < 64 by decide)))
    rename_i hHeld
    clear hHeld
    have BW:=Lib.hid K1
    have S6:=Lib.hid hs6
    clear K1 hb6 hown6 hs6 c0 c1 f1 f2 f5 f7 g0 g1 g2 g4
    obtain⟨V,hV⟩:∃V,V=V8.of (run false all m):=⟨_,rfl⟩
    have HV:=Lib.hid hV
    have R3:=Lib.hid (show Sl w6 (some ⟨gh,0,none⟩) 8 (nl8 V) from by rw[hV,←nl8_of (run_length _ _ _)];exact R1.out.below BW.out)
    have LV:=Lib.hid (show Lt8 false V from by rw[hV];exact lt8_of false (run_length _ _ _) (run_lt _ _ _))
    obtain⟨wsx,hwsx⟩:∃L,L=wds false blk:=⟨_,rfl⟩
    rw[←hwsx] at S6
    have HWX:=Lib.hid hwsx
    have KC6:=Lib.hid ((KC.out.below' R2.out).below' BW.out)
    have BC6:=Lib.hid (BC.out.trans ((R2.out.trans (BW.out.mono R2.out.size)).mono BC.out.size))
    clear hV hwsx XP
    go_wp2_with fail
    go_loopw [15,16] (fun v t wx=>RL332 wsx V w6 v t wx) (fun _ t _=>64 - (intOf t).toNat)
    case atStart=>exact⟨0,_,_,Nat.zero_le _,rfl,rfl,R3.out,Below.refl _ _⟩
    case round =>
     obtain⟨j,gv,cv,hj,rfl,rfl,hsl,hbel⟩:=hrel
     have Q1:=Lib.hid hsl
     have Q2:=Lib.hid hbel
     clear hsl hbel
     by_cases hjl:j < 64
     ·have c0:=keepc Q2.out (keepc BC6.out C0.out)
      have c1:=keepc Q2.out (keepc BC6.out C1.out)
      obtain⟨kk,hkk⟩:∃k,k=kc.getD j 0:=⟨_,rfl⟩
      obtain⟨xx,hxx⟩:∃x,x=wsx.getD j 0:=⟨_,rfl⟩
      have ck:wr.cell? ⟨w3.heap.size,j,none⟩=some (.int .u64 (kk:Int)):=by
       have hjk:j < kc.length:=Nat.lt_of_lt_of_le hjl (by decide)
       refine keepc Q2.out (KC6.out.cell_ ?_)
       simp only[List.getElem?_toArray,nl_get,List.getElem?_eq_getElem hjk,Option.map_some,hkk,List.getD_eq_getElem?_getD,Option.getD_some]
      have cx:wr.cell? (a6.add j)=some (.int .u64 (xx:Int)):=by rw[hxx];exact keepc Q2.out (sl_num S6.out hjl)
      have RD:=Lib.hid (show ∀wy:World,Below wr.heap.size wr wy→Calls Tryd.prog 84 #[.agg #[.int .u64 4294967296,.int .u64 32],.slice (some ⟨gv,0,none⟩) 8 cv,.int .u64 (kk:Int),.int .u64 (xx:Int)] wy
       fun e w'=>∃q,e=.returned (.slice (some ⟨q,0,none⟩) 8 8)∧Bl w' q 97 (nl8 (rnd false (kk / 2 ^ (64 - 32)) xx (mx false wsx V j))).toArray∧Below wy.heap.size wy w' from
       fun wy hy=>round32_any gv cv (mx false wsx V j) (mx_lt false wsx V LV.out j) kk xx wy (Q1.out.below hy))
      have HKX:=Lib.hid (And.intro hkk hxx)
      clear hkk hxx
      have b1:(j:Int) < 64:=by omega
      have b2:(j:Int) < 80:=by omega
      go_wp2_with fail
      go_region_held3 (fun x'=>x'.cell? ⟨w.heap.size,0,none⟩=some (.int .u64 4294967296)∧x'.cell? ⟨w.heap.size,1,none⟩=some (.int .u64 32)∧x'.cell? ⟨w3.heap.size,j,none⟩=some (.int .u64 (kk:Int))∧x'.cell? (a6.add j)=some (.int .u64 (xx:Int)))
       (first|exact⟨c0,c1,ck,cx⟩|exact⟨keepc K1 c0,keepc K1 c1,keepc K1 ck,keepc K1 cx⟩)
       (first|(go_at_call 84;(with_reducible refine(RD.out _ (by exact(Below.refl _ _).drew)).mono ?_);rintro e w7 ⟨q,rfl,hbq,hb7⟩;have K1:=k_drew hb7))
      rename_i hHeld
      clear hHeld
      have HB7:=Lib.hid (Q2.out.trans (K1.mono Q2.out.size))
      have HBQ:=Lib.hid hbq
      clear K1 hb7 hbq c0 c1 ck cx
      go_wp2_with fail
      go_roundw
      case rel =>
       refine⟨j+1,q,8,by omega,by go_num,rfl,?_,HB7.out⟩
       have e:mx false wsx V (j+1)=rnd false (kk / 2 ^ (64 - 32)) xx (mx false wsx V j):=by rw[HKX.out.1,HKX.out.2];rfl
       rw[e]
       exact Sl_bl8 HBQ.out rfl
      case measure=>simp[intOf];omega
     ·have ej:((j:Nat):Int)=64:=by omega
      rw[ej]
      clear ej
      obtain rfl:j=64:=by omega
      obtain⟨w7,rfl⟩:∃w7:World,w7=wr:=⟨_,rfl⟩
      obtain⟨L,hL⟩:∃L,L=bh false (run false all m) blk:=⟨_,rfl⟩
      have hLl:L.length=8:=by rw[hL];exact bh_length _ _ _ (run_length _ _ _)
      have hLg:∀i,i < 8→L.getD i 0=(V.l.getD i 0+(mx false wsx V 64).l.getD i 0)%4294967296:=fun i hi=>by
       have e1:(run false all m)=V.l:=by
        have h8:=run_length false all m
        rw[HV.out]
        obtain⟨x0,x1,x2,x3,x4,x5,x6,x7,h⟩:=eight_of h8
        rw[h];rfl
       rw[hL,bh,zip_getD _ _ _ _ (by rw[run_length];exact hi) hi,←HWX.out,←HV.out,e1,mo_false]
       rfl
      have FK:=Lib.hid (show ∀(i:Nat) (y:World),i < 8→Below w7.heap.size w7 y→y.cell? ⟨w.heap.size,0,none⟩=some (.int .u64 4294967296)∧y.cell? ⟨w.heap.size,1,none⟩=some (.int .u64 32)∧y.cell? ⟨gh,i,none⟩=some (.int .u64 ((V.l.getD i 0:Nat):Int))∧y.cell? ⟨gv,i,none⟩=some (.int .u64 (((mx false wsx V 64).l.getD i 0:Nat):Int)) from fun i y hi hy=>by
       have h1:nl8 V=nl V.l:=rfl
       have h2:nl8 (mx false wsx V 64)=nl (mx false wsx V 64).l:=rfl
       have k1:=sl_num (by rw[←h1];exact R3.out) hi
       have k2:=sl_num (by rw[←h2];exact Q1.out) hi
       rw[add_at] at k1 k2
       exact⟨keepc hy (keepc Q2.out (keepc BC6.out C0.out)),keepc hy (keepc Q2.out (keepc BC6.out C1.out)),keepc hy (keepc Q2.out k1),keepc hy k2⟩)
      have HLL:=Lib.hid (And.intro hL (And.intro hLl hLg))
      clear hL hLl hLg
      go_wp2_with fail
      go_loopw [17,18] (fun o t wx=>RL432 L w7 o t wx) (fun _ t _=>8 - (intOf t).toNat)
      case atStart=>exact⟨0,Nat.zero_le _,rfl,own_nil _ _ _,Below.refl _ _⟩
      case round =>
       obtain⟨i,hi8,rfl,hown,hbel⟩:=hrel
       have P1:=Lib.hid hown
       have P2:=Lib.hid hbel
       clear hown hbel
       by_cases hil:i < 8
       ·obtain⟨c0,c1,ch0,cv0⟩:=FK.out i wr hil P2.out
        obtain⟨x,hx⟩:∃x,x=V.l.getD i 0:=⟨_,rfl⟩
        obtain⟨y,hy⟩:∃y,y=(mx false wsx V 64).l.getD i 0:=⟨_,rfl⟩
        obtain⟨z,hz⟩:∃z,z=L.getD i 0:=⟨_,rfl⟩
        have FI:=Lib.hid (fun y h=>FK.out i y hil h)
        rw[←hx,←hy] at FI
        rw[←hx] at ch0
        rw[←hy] at cv0
        have HCZ:=Lib.hid (show ∀wy:World,Calls Tryd.prog 85 #[.agg #[.int .u64 4294967296,.int .u64 32],.int .u64 (IntKind.u64.wrap ((x:Int)+(y:Int)))] wy fun e w'=>e=.returned (.int .u64 (z:Int))∧Below wy.heap.size wy w' from fun wy=>by
         refine(cut32 _ (wrap_ge _) (Lib.hid (wrap_lt _)) wy).mono fun e w' ⟨h1,h2⟩=>⟨?_,h2⟩
         rw[h1]
         refine ret_int ?_
         rw[hz,HLL.out.2.2 i hil,←hx,←hy]
         simp only[IntKind.wrap_u64]
         omega)
        have HZZ:=Lib.hid hz
        have D0:Below w7.heap.size w7 wr.drew:=P2.out.drew
        clear hx hy hz
        have b1:(i:Int) < 8:=by omega
        go_wp2_with fail
        go_region_held3 (fun x'=>x'.cell? ⟨w.heap.size,0,none⟩=some (.int .u64 4294967296)∧x'.cell? ⟨w.heap.size,1,none⟩=some (.int .u64 32)∧x'.cell? ⟨gh,i,none⟩=some (.int .u64 (x:Int))∧x'.cell? ⟨gv,i,none⟩=some (.int .u64 (y:Int)))
         (first|(with_reducible exact FI.out _ D0)|(with_reducible exact FI.out _ D3)|(with_reducible exact FI.out _ (D1.alloc D1.size _))|(with_reducible exact FI.out _ D1))
         (first|(go_at_call 85;(with_reducible refine(HCZ.out _).mono ?_);rintro e w8 ⟨rfl,hb8⟩;have K1:=k_drew hb8;have D1:=P2.out.trans (K1.mono P2.out.size))|(refine step_append_sl (o:=⟨some 112,_,_,_,_,_⟩) (by rfl) (.tmp 99) (.tmp 111) 102 (by rfl) w7.heap.size 97 j0 _ 8 Tryd.underlying102 hjj hy0 hy1 hy2 (by rfl) _ i (nl (L.take i)) (by rfl) (own_below P1.out (K1.alloc K1.size _)) (some ⟨w8.heap.size,0,none⟩) 1 1 [.int .u64 (z:Int)] (by rfl) (fun h=>by cases h) (Sl.new_ w8 _ [.int .u64 (z:Int)]) (by intro u hu;simp at hu;subst hu;rfl) (by unfold maxLen;omega) (by omega) (by have:=D1.size;simp;omega) ?_;intro v9 w9 hown9 hgrow9;have D3:Below w7.heap.size w7 w9:=(D1.alloc D1.size _).grown hgrow9 (by have:=D1.size;simp;omega) (own_blk P1.out)))
        rename_i hHeld
        clear hHeld
        have O9:=Lib.hid hown9
        have HD3:=Lib.hid D3
        clear c0 c1 ch0 cv0 D0 D1 D3 K1 hb8 hown9 hgrow9
        go_wp2_with fail
        go_roundw
        case rel =>
         refine⟨i+1,by omega,by go_num,?_,HD3.out⟩
         have hiL:i < L.length:=by rw[HLL.out.2.1];exact hil
         rw[take_snoc L i z (by rw[HZZ.out,List.getD_eq_getElem?_getD,List.getElem?_eq_getElem hiL];rfl),nl_append]
         exact O9.out
        case measure=>simp[intOf];omega
       ·obtain rfl:i=8:=by omega
        obtain⟨gn,cn,rfl,hsn⟩:=own_at P1.out (by decide)
        have HSN:=Lib.hid hsn
        clear hsn
        go_wp2_with fail
        go_roundw
        case rel =>
         refine⟨m+1,gn,cn,by omega,congrArg _ (by have:=HF.out;omega),rfl,?_,((R2.out.trans (BW.out.mono R2.out.size)).trans (Q2.out.mono (Nat.le_trans R2.out.size BW.out.size))).trans (P2.out.mono (Nat.le_trans R2.out.size (Nat.le_trans BW.out.size Q2.out.size)))⟩
         have e1:run false all (m+1)=L:=by rw[HLL.out.1,HBLK.out,HF.out];rfl
         have e2:L.take 8=L:=List.take_of_length_le (by rw[HLL.out.2.1];exact Nat.le_refl _)
         have h:=HSN.out
         rw[e2] at h
         rw[e1];exact h
        case measure=>simp[intOf];have:=HF.out;omega
   ·obtain rfl:m=M:=by omega
    have hFe:F=N:=by rw[hF];exact HMN.out.2.symm
    have f1:¬(F:Int) < (N:Int):=by omega
    clear hFe hF
    go_wp2_with fail
    obtain⟨ws,hws⟩:∃L,L=run false all m:=⟨_,rfl⟩
    have hwl:ws.length=8:=by rw[hws];exact run_length _ _ _
    have hwlt:∀x∈ws,x < mo false:=by rw[hws];exact run_lt _ _ _
    rw[←hws] at R1
    have HWS2:=Lib.hid hws
    have HWL:=Lib.hid hwl
    have HWT:=Lib.hid hwlt
    obtain⟨wf,rfl⟩:∃wf:World,wf=wr:=⟨_,rfl⟩
    clear hws hwl hwlt
    go_loopw [19,20] (fun o t wx=>RL532 ws wf o t wx) (fun _ t _=>8 - (intOf t).toNat)
    case atStart=>exact⟨0,Nat.zero_le _,rfl,own_nil _ _ _,Below.refl _ _⟩
    case round =>
     obtain⟨i,hi8,rfl,hown,hbel⟩:=hrel
     have P1:=Lib.hid hown
     have P2:=Lib.hid hbel
     clear hown hbel
     by_cases hil:i < 8
     ·have d1:=keepc P2.out (keepc R2.out (keepc BC.out C1.out))
      obtain⟨X,hX⟩:∃X,X=ws.getD i 0:=⟨_,rfl⟩
      have hiw:i < ws.length:=by rw[HWL.out];exact hil
      have hXl:X < 4294967296:=by
       have:=HWT.out X (by rw[hX,List.getD_eq_getElem?_getD,List.getElem?_eq_getElem hiw];exact List.getElem_mem _)
       rwa [mo_false] at this
      have HX:=Lib.hid (And.intro hX (And.intro hXl hiw))
      have HXC:=Lib.hid (show ∀y:World,Below wf.heap.size wf y→y.cell? ⟨gh,i,none⟩=some (.int .u64 (X:Int)) from fun y hy=>by
       have:=sl_num R1.out hil
       rw[add_at] at this
       rw[hX];exact keepc hy this)
      have bi:(i:Int) < 8:=by omega
      clear hX hXl hiw
      go_wp2_with fail
      clear d1
      obtain⟨pre,hpre⟩:∃p,p=(ws.take i).flatMap fun x=>be x 4:=⟨_,rfl⟩
      have HPRE:=Lib.hid hpre
      rw[←hpre] at P1
      clear hpre
      go_loopw [19,21] (fun o s wx=>RL632 pre X i wf o s wx) (fun _ s _=>(intOf s+8).toNat)
      case atStart=>exact⟨0,Nat.zero_le _,congrArg _ (by simp),(by rw[List.take_zero,List.append_nil];exact P1.out),P2.out⟩
      case round =>
       obtain⟨t,ht,rfl,hown,hbel⟩:=hrel
       obtain⟨A4,c4,rfl,hs4,hn4,hl4,-, hA4⟩:=Sl.own hown
       have T1:=Lib.hid hown
       have T2:=Lib.hid hbel
       have T3:=Lib.hid hA4
       clear hown hbel hs4 hn4 hA4
       by_cases htl:t < 4
       ·obtain⟨s,hs⟩:∃s,s=32 - 8 - 8*t:=⟨_,rfl⟩
        have es:(32:Int) - 8 - 8*(t:Int)=(s:Int):=by omega
        rw[es]
        have hs64:(s:Int) < 64:=by omega
        have hsw:IntKind.u64.wrap (s:Int)=(s:Int):=by rw[IntKind.wrap_u64];omega
        have cX:=HXC.out _ T2.out
        have HSS:=Lib.hid (And.intro hs es)
        clear hs es
        go_wp2_with (at_builtin;refine wpList_append_sl rfl _ _ 22 rfl wf.heap.size 5 i0 _ 1 Tryd.underlying22 hi hz0 hz1 hz2 rfl _ (i*4+t) (bl (pre ++ (be X 4).take t)) rfl (own_below T1.out ((Below.refl _ _).alloc (Nat.le_refl _) _)) (some ⟨wr.heap.size,0,none⟩) 1 1 [.int .u8 ((X:Int) / 2 ^ s%256)] rfl (fun h=>by cases h) ?c1 ?c2 ?c3 ?c4 ?c5 ?_)
        case c1=>exact Sl.new_ wr _ [.int .u8 ((X:Int) / 2 ^ s%256)]
        case c2=>first|rfl|(intro u hu;simp at hu;subst hu;rfl)
        case c3=>unfold maxLen;omega
        case c4=>omega
        case c5=>have:=T2.out.size;simp;omega
        intro v' w8 hown1 hgrow
        have HB1:=Lib.hid (show Below wf.heap.size wf w8 from(T2.out.alloc T2.out.size _).grown hgrow (by have:=T2.out.size;simp;omega) (own_blk T1.out))
        have HO1:=Lib.hid hown1
        clear hown1 hgrow cX
        go_wp2_with fail
        go_roundw
        case rel =>
         first|refine⟨t+1,by omega,congrArg _ (by have:=HSS.out;omega),?_,HB1.out⟩|((repeat apply Exists.intro);refine⟨?_,rfl⟩;refine⟨t+1,by omega,congrArg _ (by have:=HSS.out;omega),?_,HB1.out⟩)
         have hb:=be_get X 4 t htl
         have h8:s=8*(4 - 1 - t):=by have:=HSS.out.1;omega
         have ey:(X:Int) / 2 ^ s%256=((X / 256 ^ (4 - 1 - t)%256:Nat):Int):=by
          rw[div_cast,h8,Nat.pow_mul,show(2:Nat) ^ 8=256 from rfl];simp
         have h:=HO1.out
         rw[ey,show[Value.int .u8 ((X / 256 ^ (4 - 1 - t)%256:Nat):Int)]=bl [X / 256 ^ (4 - 1 - t)%256] from rfl,←bl_append,List.append_assoc,←take_snoc _ t _ hb] at h
         exact h
        case measure=>simp[intOf];have:=HSS.out;omega
       ·obtain rfl:t=4:=by omega
        have es:(32:Int) - 8 - 8*((4:Nat):Int)=-8:=by omega
        rw[es]
        clear es
        go_wp2_with fail
        go_roundw
        case rel =>
         refine⟨i+1,by omega,by go_num,?_,T2.out⟩
         have h:=T1.out
         have e1:(be X 4).take 4=be X 4:=List.take_of_length_le (by rw[be_length];exact Nat.le_refl _)
         have e2:(ws.take (i+1)).flatMap (fun x=>be x 4)=pre ++ be X 4:=by
          rw[take_snoc ws i X (by rw[HX.out.1,List.getD_eq_getElem?_getD,List.getElem?_eq_getElem HX.out.2.2];rfl),List.flatMap_append,←HPRE.out]
          simp
         rw[e1,←e2] at h
         rw[show(i+1)*4=i*4+4 by omega]
         exact h
        case measure=>simp[intOf];omega
     ·obtain rfl:i=8:=by omega
      go_wp2_with fail
      go_ret2
      have BWF:=BC.out.trans (R2.out.mono BC.out.size)
      refine⟨_,rfl,own_base (base':=w.heap.size) ?_ (Nat.le_trans B0.out.size BWF.size),(B0.out.trans (BWF.mono B0.out.size)).trans (P2.out.mono (Nat.le_trans B0.out.size BWF.size))⟩
      have h:=P1.out
      rw[List.take_of_length_le (by rw[HWL.out];exact Nat.le_refl _)] at h
      have e:(ws.flatMap fun x=>be x 4)=dg false l:=by
       rw[HWS2.out,HMN.out.1,HALL.out.1]
       unfold dg
       rw[HLN.out,PLN.out,HNN.out,Nat.zero_add]
       rfl
      rw[e] at h
      exact h
end Go.Proofs.YtnnfpmebopgogaaDoor.Sh
