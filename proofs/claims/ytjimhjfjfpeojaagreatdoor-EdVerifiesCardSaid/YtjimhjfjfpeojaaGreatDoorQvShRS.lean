/- Joined texts. -/
import Derived.Deep.RegionLaw
import Derived.Deep.AppendLies
import Derived.Deep.CutBlock
import Derived.Deep.DeepCutAuto
import Derived.Outline
import Derived.Test.YtjimhjfjfpeojaaGreatDoorQvShRPad
import Derived.Test.YtjimhjfjfpeojaaGreatDoorQvSaC
set_option maxRecDepth 100000
set_option maxHeartbeats 8000000
set_option linter.unusedVariables false
namespace Go.Proofs.YtjimhjfjfpeojaaGreatDoor.Sh
open Go.RowKit Go.Proofs.YtjimhjfjfpeojaaGreatDoor.Gn Go.Deep
attribute [local go_sem ↓] Go.wp_at_zero Go.wp_at_succ
theorem Z22(b:Bool)(T:List Nat)(m:Nat):(run b T m).length=8:=by
 induction m with
 |zero=>cases b <;> rfl
 |succ m ih=>rw[run,bh_length _ _ _ ih]
theorem Ztz(b:Bool):∀x∈st b,x < mo b:=by cases b <;> decide
theorem Zkq(b:Bool)(T:List Nat)(m:Nat):∀x∈run b T m,x < mo b:=by
 cases m with
 |zero=>exact Ztz b
 |succ m=>exact Zqk b _ _
theorem Zrh(b:Bool){l:List Nat}(h:l.length=8)(hl:∀x∈l,x < mo b):Lt8 b (V8.of l):=by
 have hg:∀j,j < 8→l.getD j 0 < mo b:=fun j hj=>hl _ (by rw[List.getD_eq_getElem?_getD,List.getElem?_eq_getElem (by omega)];exact List.getElem_mem _)
 exact⟨hg 0 (by decide),hg 1 (by decide),hg 2 (by decide),hg 3 (by decide),hg 4 (by decide),hg 5 (by decide),hg 6 (by decide),hg 7 (by decide)⟩
theorem Zri{l:List Nat}(h:l.length=8):nl l=nl8 (V8.of l):=by
 obtain⟨a,b,c,d,e,f,g,k,rfl⟩:=Z4s h
 rfl
theorem Zrj{w:World}{q:Nat}{xs:List Value}(h:Bl w q 24 xs.toArray)(hl:xs.length=8):Sl w (some ⟨q,0,none⟩) 8 xs :=
 Sl.of_bl h 0 8 _ hl (fun k v hk=>by rw[Nat.zero_add];simpa using hk)
theorem Zrk{w:World}{base:Nat}{e:TypeId}{v:Value}{n:Nat}{xs:List Value}(h:w.ownsRow base e 1 v n xs)(hn:0 < n) :
  ∃g cap,v=.slice (some ⟨g,0,none⟩) n cap∧Sl w (some ⟨g,0,none⟩) n xs:=by
 have h0:=h
 obtain⟨hl,h2⟩:=h
 rcases h2 with⟨rfl,rfl⟩|⟨g,cap,cur,rfl,-⟩
 ·simp at hl;omega
 ·obtain⟨A,c2,e1,hs,-⟩:=Sl.own h0
  injection e1 with e1 e2 e3
  subst e1
  exact⟨g,cap,rfl,hs⟩
theorem Zb6{w:World}{base:Nat}{e:TypeId}{v:Value}{n:Nat}{xs:List Value}(h:w.ownsRow base e 1 v n xs):∀k,v.ownBlock=some k→base≤k:=by
 obtain⟨A,cap,rfl,-, -, -, -, hA⟩:=Sl.own h
 intro k hk
 cases A with
 |none=>cases hk
 |some ad=>simp[Value.ownBlock] at hk;have:=(hA ad rfl).1;omega
theorem Zb7{w w':World}(h:w.grownBy w' none):Below w.heap.size w w':=(Below.refl _ _).grown h (Nat.le_refl _) (fun k e=>by cases e)
theorem Zdl(n:Nat):pads true n≤256:=by
 have:=Nat.mod_lt n (show 0 < 128 by decide)
 simp[pads,bk];split <;> omega
theorem Zh8{ws:List Nat}(h:ws.length=8)(hw:∀j,j < 8→ws.getD j 0=sc.getD j 0 / 2 ^ (64 - 64)):ws=st true:=by
 have hl:(st true).length=8:=rfl
 apply List.ext_getElem (by rw[h,hl])
 intro j h1 h2
 have:=hw j (by omega)
 have hs:sc.length=8:=rfl
 simp only[st,wd] at h2 ⊢
 simp only[List.length_map] at h2
 simpa[List.getD_eq_getElem?_getD,List.getElem?_eq_getElem h1,List.getElem?_eq_getElem h2] using this
def Zu0(all:List Nat)(M:Nat)(wc:World)(h f:Value)(wr:World):Prop :=
 ∃(m gh ch:Nat),m≤M∧f=.int .i64 ((m*128:Nat):Int)∧h=.slice (some ⟨gh,0,none⟩) 8 ch∧Sl wr (some ⟨gh,0,none⟩) 8 (nl (run true all m))∧Below wc.heap.size wc wr
def Zu1(wsx:List Nat)(V:V8)(w6:World)(v t:Value)(wx:World):Prop :=
 ∃(j gv cv:Nat),j≤80∧t=.int .i64 (j:Int)∧v=.slice (some ⟨gv,0,none⟩) 8 cv∧Sl wx (some ⟨gv,0,none⟩) 8 (nl8 (mx true wsx V j))∧Below w6.heap.size w6 wx
def Zu2(L:List Nat)(w7:World)(o t:Value)(wx:World):Prop :=
 ∃i:Nat,i≤8∧t=.int .i64 (i:Int)∧wx.ownsRow w7.heap.size 24 1 o i (nl (L.take i))∧Below w7.heap.size w7 wx
def Zu3(ws:List Nat)(wf:World)(o t:Value)(wx:World):Prop :=
 ∃i:Nat,i≤8∧t=.int .i64 (i:Int)∧wx.ownsRow wf.heap.size 5 1 o (i*8) (bl ((ws.take i).flatMap fun x=>be x 8))∧Below wf.heap.size wf wx
def Zu4(pre:List Nat)(X i:Nat)(wf:World)(o s:Value)(wx:World):Prop :=
 ∃t:Nat,t≤8∧s=.int .i64 ((64:Int) - 8 - 8*(t:Int))∧wx.ownsRow wf.heap.size 5 1 o (i*8+t) (bl (pre ++ (be X 8).take t))∧Below wf.heap.size wf wx
def Zu5(g:Nat)(w5:World)(s:Value)(wx:World):Prop :=
 ∃(i:Nat) (ws:List Nat),i≤8∧s=.int .i64 (i:Int)∧((0:Nat)=0→i=0)∧ws.length=8∧(∀j,j < 8→ws.getD j 0=if j < i then sc.getD j 0 / 2 ^ (64 - 64) else sc.getD j 0)∧Bl wx g 24 (nl ws).toArray∧w5.grownBy wx (some g)
theorem rsum64_any(l:List Nat)(A:Option Addr)(n c:Nat)(w:World)(hl:∀x∈l,x < 256)(hsl:Sl w A n (bl l))(hnil:A=none→c=0)(hn:n≤1048576) :
  Calls Tryz.prog 112 #[.slice A n c,.int .i64 512] w
   fun e w'=>∃v,e=.returned (.tuple #[v,.int .i64 0])∧w'.ownsRow w.heap.size 5 1 v 64 (bl (dg true l))∧Below w.heap.size w w':=by
 have HL:=Lib.hid hl
 have HS:=Lib.hid hsl
 have HN:=Lib.hid hnil
 have hln:l.length=n:=by have:=hsl.1;rwa [Z15] at this
 have HLN:=Lib.hid hln
 have t1:decide (1048576 < (n:Int))=false:=by simp;omega
 obtain⟨i0,hi,hz0,hz1,hz2⟩:=info_parts Zrg
 obtain⟨j0,hjj,hy0,hy1,hy2⟩:=info_parts info64
 clear hl hsl hnil hln
 go_enter Tryz.func112,Tryz.ntmps112
 go_upto_region 6 with fail
 have c0:(w.alloc (.cells #[.int .u64 0,.int .u64 64] 145)).cell? ⟨w.heap.size,0,none⟩=some (.int .u64 0):=(Bl.new_ w 145 #[.int .u64 0,.int .u64 64]).cell_ rfl
 have c1:(w.alloc (.cells #[.int .u64 0,.int .u64 64] 145)).cell? ⟨w.heap.size,1,none⟩=some (.int .u64 64):=(Bl.new_ w 145 #[.int .u64 0,.int .u64 64]).cell_ rfl
 have b0:Below w.heap.size w (w.alloc (.cells #[.int .u64 0,.int .u64 64] 145)):=(Below.refl _ _).alloc (Nat.le_refl _) _
 have z0:w.heap.size < (w.alloc (.cells #[.int .u64 0,.int .u64 64] 145)).heap.size:=by simp
 generalize hw0:w.alloc _=w0 at c0 c1 b0 z0 ⊢
 clear hw0
 have B0:=Lib.hid b0
 have C0:=Lib.hid c0
 have C1:=Lib.hid c1
 have Z0:=Lib.hid z0
 clear b0 c0 c1 z0
 have PL:=Lib.hid (Zdl n)
 go_upto_block 0 with(first|(go_at_call 132;(with_reducible refine(Zdk n _ hn).mono ?_);rintro e w1 ⟨vp,rfl,hown,hb1⟩;have B1:=Lib.hid hb1;have O1:=Lib.hid hown;obtain⟨Ap,cp,rfl,hslp,hnilp,hlcp,-, -⟩:=Sl.own hown;have S1:=Lib.hid hslp;have N1:=Lib.hid hnilp;clear hb1 hown hslp hnilp hlcp)|(at_builtin;refine Z0i rfl (.tmp 36) (.tmp 37) 22 rfl w0.heap.size 5 i0 _ 1 Tryz.underlying22 hi hz0 hz1 hz2 rfl (.slice none 0 0) 0 [] rfl (Z4v _ _ _) A n c (bl l) rfl HN.out ((HS.out.below B0.out).below B1.out) (Z6z _) (by unfold maxLen;omega) (by omega) B1.out.size ?_;intro v2 w2 hown2 hgrow2;have O2:=Lib.hid hown2;have B2:=Lib.hid (Zb7 hgrow2);clear hown2 hgrow2)|(at_builtin;refine Z0i rfl (.tmp 38) (.tmp 39) 22 rfl w0.heap.size 5 i0 _ 1 Tryz.underlying22 hi hz0 hz1 hz2 rfl v2 (0+n) ([] ++ bl l) rfl O2.out Ap (pads true n) cp (bl (pad true n)) rfl N1.out (S1.out.below B2.out) (Z6z _) (by have:=PL.out;unfold maxLen;omega) (by have:=PL.out;omega) (Nat.le_trans B1.out.size B2.out.size) ?_;intro v3 w3 hown3 hgrow3;have O3:=Lib.hid hown3;have B3:=Lib.hid (show Below w0.heap.size w0 w3 from(B1.out.trans (B2.out.mono B1.out.size)).grown hgrow3 (Nat.le_trans B1.out.size B2.out.size) (Zb6 O2.out));clear hown3 hgrow3)|(go_at_call 133;(with_reducible refine(Z6y _).mono ?_);rintro e w4 ⟨rfl,hw4⟩;have K4:=Lib.hid (show Bl w4 w3.heap.size 24 (nl kc).toArray by rw[hw4];exact Bl.new_ _ _ _);have B4:=Lib.hid (show Below w3.heap.size w3 w4 by rw[hw4];exact(Below.refl _ _).alloc (Nat.le_refl _) _);clear hw4)|(go_at_call 134;(with_reducible refine(Zb4 _).mono ?_);rintro e w5 ⟨rfl,hw5⟩;have K5:=Lib.hid (show Bl w5 w4.heap.size 24 (nl sc).toArray by rw[hw5];exact Bl.new_ _ _ _);have B5:=Lib.hid (show Below w4.heap.size w4 w5 by rw[hw5];exact(Below.refl _ _).alloc (Nat.le_refl _) _);clear hw5))
 obtain⟨A3,cap3,rfl,hs3,hn3,hl3,hm3,hA3⟩:=Sl.own O3.out
 have S3:=Lib.hid hs3
 have N3:=Lib.hid hn3
 have A3B:=Lib.hid hA3
 clear hs3 hn3 hm3 hA3
 have PLN:=Lib.hid (show(pad true n).length=pads true n from Z3x true n)
 obtain⟨N,hN⟩:∃N,N=0+n+pads true n:=⟨_,rfl⟩
 rw[←hN] at S3 hl3 ⊢
 have HNN:=Lib.hid hN
 clear hN O3
 go_cut [12] (fun s12 wx=>∃ws:List Nat,ws=st true∧Bl wx w4.heap.size 24 (nl ws).toArray∧w5.grownBy wx (some w4.heap.size))
 case first =>
  go_wp2_with fail
  go_loopw [12] (fun s wx=>Zu5 w4.heap.size w5 s wx) (fun s _=>8 - (intOf s).toNat)
  case atStart=>exact⟨0,sc,Nat.zero_le _,rfl,fun _=>rfl,rfl,fun j hj=>by rw[if_neg (by omega)],K5.out,World.grownBy.refl _ _⟩
  case round =>
   obtain⟨i,ws,hi8,rfl,hz,hwl,hws,hb,hg⟩:=hrel
   have HZ:=Lib.hid hz
   have HWL:=Lib.hid hwl
   have HWS:=Lib.hid hws
   have HB:=Lib.hid hb
   have HG:=Lib.hid hg
   clear hz hwl hws hb hg
   have BZ:Below w0.heap.size w0 w5:=(B3.out.trans (B4.out.mono B3.out.size)).trans (B5.out.mono (Nat.le_trans B3.out.size B4.out.size))
   have k0:=Z05 BZ C0.out
   have cz:wr.cell? ⟨w.heap.size,0,none⟩=some (.int .u64 0):=(Z0k HG.out (Z0h k0) (fun e=>by injection e with e;simp at e;have:=Z0.out;have:=B3.out.size;have:=B4.out.size;omega)).trans k0
   clear k0 BZ
   by_cases hlt:i < 8
   ·obtain rfl:i=0:=HZ.out rfl
    go_wp2_with fail
    go_meet
    exact⟨ws,Zh8 HWL.out (fun j hj=>by rw[HWS.out j hj,if_neg (by omega)];simp),HB.out,HG.out⟩
   ·obtain rfl:i=8:=by omega
    go_wp2_with fail
    go_meet
    exact⟨ws,Zh8 HWL.out (fun j hj=>by rw[HWS.out j hj];first|rw[if_pos hj]|(exact absurd (HZ.out rfl) (by decide))),HB.out,HG.out⟩
 case rest =>
  obtain⟨ws,hws,hb,hg⟩:=hcut
  have HWS:=Lib.hid hws
  have HB:=Lib.hid hb
  have HG:=Lib.hid hg
  clear hws hb hg
  obtain⟨all,hall⟩:∃L,L=l ++ pad true n:=⟨_,rfl⟩
  have hallN:all.length=N:=by rw[hall,List.length_append,HLN.out,PLN.out,HNN.out];omega
  have hallB:∀x∈all,x < 256:=by
   intro x hx
   rw[hall] at hx
   rcases List.mem_append.1 hx with h|h
   ·exact HL.out x h
   ·unfold pad at h
    simp only[List.mem_cons,List.mem_append,List.mem_replicate] at h
    rcases h with rfl|⟨-, rfl⟩|h
    ·decide
    ·decide
    ·exact be_lt _ _ _ h
  obtain⟨M,hM⟩:∃M,M=N / 128:=⟨_,rfl⟩
  have hMN:N=M*128:=by
   have h1:=Z9g true n
   have h2:bk true=128:=rfl
   rw[h2] at h1
   have:=HNN.out
   omega
  have hNpos:0 < N:=by have:=HNN.out;have:=(show 0 < pads true n by have:=Z6n true n;omega);omega
  obtain⟨a3,rfl,-⟩:=S3.out.at_ hNpos
  have hA:=A3B.out a3 rfl
  have BZ:Below w0.heap.size w0 w5:=(B3.out.trans (B4.out.mono B3.out.size)).trans (B5.out.mono (Nat.le_trans B3.out.size B4.out.size))
  have s34:=B4.out.size
  have s45:=B5.out.size
  have s03:=B3.out.size
  have hgl:w4.heap.size < w5.heap.size:=K5.out.lt
  have h34l:w3.heap.size < w4.heap.size:=K4.out.lt
  have BC:=Lib.hid (show Below w0.heap.size w0 wc from BZ.grown HG.out BZ.size (fun k e=>by injection e with e;omega))
  have SA:=Lib.hid (show Sl wc (some a3) N (bl all) from by
   have h:=((S3.out.below B4.out).below B5.out).only HG.out (fun ad e=>by injection e with e;intro h;injection h with h;rw[←e] at h;omega)
   rwa [List.nil_append,←Z4d,←hall] at h)
  have KC:=Lib.hid (show Bl wc w3.heap.size 24 (nl kc).toArray from(K4.out.below' B5.out).grown HG.out (fun e=>by injection e with e;omega))
  have KS:=Lib.hid (show Sl wc (some ⟨w4.heap.size,0,none⟩) 8 (nl (st true)) from Sl.of_bl HB.out 0 8 _ (by rw[nl_length];rfl) (fun k v hk=>by rw[Nat.zero_add,HWS.out];simpa using hk))
  have HALL:=Lib.hid (And.intro hall (And.intro hallN hallB))
  have HMN:=Lib.hid (And.intro hM hMN)
  have ZC:=Lib.hid (show w0.heap.size≤wc.heap.size∧w4.heap.size < wc.heap.size∧w3.heap.size < wc.heap.size∧a3.block < wc.heap.size from by obtain⟨_,_,_,h,_⟩:=HG.out;exact⟨by omega,by omega,by omega,by omega⟩)
  have hN2:N≤2000000:=by have:=HNN.out;have:=PL.out;omega
  clear hall hallN hallB hM hMN hNpos hA BZ s34 s45 s03 hgl h34l
  go_wp2_with fail
  go_loopw [11,13] (fun h f wr=>Zu0 all M wc h f wr) (fun _ f _=>N - (intOf f).toNat)
  case atStart=>exact⟨0,_,_,Nat.zero_le _,rfl,rfl,KS.out,Below.refl _ _⟩
  case round =>
   obtain⟨m,gh,ch',hm,rfl,rfl,hsl,hbel⟩:=hrel
   have R1:=Lib.hid hsl
   have R2:=Lib.hid hbel
   clear hsl hbel
   obtain⟨F,hF⟩:∃F,F=m*128:=⟨_,rfl⟩
   rw[←hF]
   by_cases hlt:m < M
   ·have hFN:F+128≤N:=by have:=HMN.out.2;rw[this,hF];have:(m+1)*128≤M*128:=Nat.mul_le_mul_right _ hlt;omega
    have c0:=Z05 R2.out (Z05 BC.out C0.out)
    have c1:=Z05 R2.out (Z05 BC.out C1.out)
    have f1:(F:Int) < (N:Int):=by omega
    have f2:IntKind.i64.wrap ((F:Int)+128)=(F:Int)+128:=IntWalk.i64_in _ (by omega)
    have f7:IntKind.i64.wrap 128=128:=IntWalk.i64_in _ (by decide)
    have f5:¬cap3=F:=by omega
    have g0:(0:Int)≤(F:Int)+128:=by omega
    have g1:((F:Int)+128).toNat=F+128:=by omega
    have g2:(F:Int)+128≤(cap3:Int):=by omega
    have g4:(F:Int)≤(F:Int)+128:=by omega
    have HF:=Lib.hid hF
    clear hF
    obtain⟨blk,hblk⟩:∃B,B=(all.drop F).take 128:=⟨_,rfl⟩
    have hblkB:∀x∈blk,x < 256:=fun x hx=>by rw[hblk] at hx;exact HALL.out.2.2 x (List.mem_of_mem_drop (List.mem_of_mem_take hx))
    have SB:=Lib.hid (show Sl wr (some (a3.add F)) 128 (bl blk) from by
     have h1:=(SA.out.below R2.out).drop_ F (by omega) hl3
     rw[if_neg f5] at h1
     have h2:=h1.take_ 128 (by omega)
     rw[Z7l,Z4w,←hblk] at h2
     exact h2)
    have XP:=Lib.hid (show ∀(wx:World) (cx:Nat),Below wr.heap.size wr wx→Calls Tryz.prog 135 #[.agg #[.int .u64 0,.int .u64 64],.slice (some (a3.add F)) 128 cx] wx fun e w'=>∃v,e=.returned v∧w'.ownsRow wx.heap.size 24 1 v 80 (nl (wds true blk))∧Below wx.heap.size wx w' from fun wx cx hb=>Z9q (a3.add F) cx blk wx hblkB (SB.out.below hb))
    have HBLK:=Lib.hid hblk
    clear hblk hblkB
    go_wp2_with fail
    go_region_held3 (fun x'=>x'.cell? ⟨w.heap.size,0,none⟩=some (.int .u64 0)∧x'.cell? ⟨w.heap.size,1,none⟩=some (.int .u64 64))
     (first|exact⟨c0,c1⟩|exact⟨Z05 K1 c0,Z05 K1 c1⟩)
     (first|(go_at_call 135;(with_reducible refine(XP.out _ _ (by exact(Below.refl _ _).drew)).mono ?_);rintro e w6 ⟨v6,rfl,hown6,hb6⟩;have K1:=Z2c hb6;obtain⟨A6,c6,rfl,hs6,-, -, -, -⟩:=Sl.own hown6;obtain⟨a6,rfl,-⟩:=hs6.at_ (show 0 < 80 by decide)))
    rename_i hHeld
    clear hHeld
    have BW:=Lib.hid K1
    have S6:=Lib.hid hs6
    clear K1 hb6 hown6 hs6 c0 c1 f1 f2 f5 f7 g0 g1 g2 g4
    obtain⟨V,hV⟩:∃V,V=V8.of (run true all m):=⟨_,rfl⟩
    have HV:=Lib.hid hV
    have R3:=Lib.hid (show Sl w6 (some ⟨gh,0,none⟩) 8 (nl8 V) from by rw[hV,←Zri (Z22 _ _ _)];exact R1.out.below BW.out)
    have LV:=Lib.hid (show Lt8 true V from by rw[hV];exact Zrh true (Z22 _ _ _) (Zkq _ _ _))
    obtain⟨wsx,hwsx⟩:∃L,L=wds true blk:=⟨_,rfl⟩
    rw[←hwsx] at S6
    have HWX:=Lib.hid hwsx
    have KC6:=Lib.hid ((KC.out.below' R2.out).below' BW.out)
    have BC6:=Lib.hid (BC.out.trans ((R2.out.trans (BW.out.mono R2.out.size)).mono BC.out.size))
    clear hV hwsx XP
    go_wp2_with fail
    go_loopw [15,16] (fun v t wx=>Zu1 wsx V w6 v t wx) (fun _ t _=>80 - (intOf t).toNat)
    case atStart=>exact⟨0,_,_,Nat.zero_le _,rfl,rfl,R3.out,Below.refl _ _⟩
    case round =>
     obtain⟨j,gv,cv,hj,rfl,rfl,hsl,hbel⟩:=hrel
     have Q1:=Lib.hid hsl
     have Q2:=Lib.hid hbel
     clear hsl hbel
     by_cases hjl:j < 80
     ·have c0:=Z05 Q2.out (Z05 BC6.out C0.out)
      have c1:=Z05 Q2.out (Z05 BC6.out C1.out)
      obtain⟨kk,hkk⟩:∃k,k=kc.getD j 0:=⟨_,rfl⟩
      obtain⟨xx,hxx⟩:∃x,x=wsx.getD j 0:=⟨_,rfl⟩
      have ck:wr.cell? ⟨w3.heap.size,j,none⟩=some (.int .u64 (kk:Int)):=by
       have hjk:j < kc.length:=Nat.lt_of_lt_of_le hjl (by decide)
       refine Z05 Q2.out (KC6.out.cell_ ?_)
       simp only[List.getElem?_toArray,Zkp,List.getElem?_eq_getElem hjk,Option.map_some,hkk,List.getD_eq_getElem?_getD,Option.getD_some]
      have cx:wr.cell? (a6.add j)=some (.int .u64 (xx:Int)):=by rw[hxx];exact Z05 Q2.out (sl_num S6.out hjl)
      have RD:=Lib.hid (show ∀wy:World,Below wr.heap.size wr wy→Calls Tryz.prog 136 #[.agg #[.int .u64 0,.int .u64 64],.slice (some ⟨gv,0,none⟩) 8 cv,.int .u64 (kk:Int),.int .u64 (xx:Int)] wy
       fun e w'=>∃q,e=.returned (.slice (some ⟨q,0,none⟩) 8 8)∧Bl w' q 24 (nl8 (rnd true (kk / 2 ^ (64 - 64)) xx (mx true wsx V j))).toArray∧Below wy.heap.size wy w' from
       fun wy hy=>Zb5 gv cv (mx true wsx V j) (Zqj true wsx V LV.out j) kk xx wy (Q1.out.below hy))
      have HKX:=Lib.hid (And.intro hkk hxx)
      clear hkk hxx
      have b1:(j:Int) < 80:=by omega
      have b2:(j:Int) < 80:=by omega
      go_wp2_with fail
      go_region_held3 (fun x'=>x'.cell? ⟨w.heap.size,0,none⟩=some (.int .u64 0)∧x'.cell? ⟨w.heap.size,1,none⟩=some (.int .u64 64)∧x'.cell? ⟨w3.heap.size,j,none⟩=some (.int .u64 (kk:Int))∧x'.cell? (a6.add j)=some (.int .u64 (xx:Int)))
       (first|exact⟨c0,c1,ck,cx⟩|exact⟨Z05 K1 c0,Z05 K1 c1,Z05 K1 ck,Z05 K1 cx⟩)
       (first|(go_at_call 136;(with_reducible refine(RD.out _ (by exact(Below.refl _ _).drew)).mono ?_);rintro e w7 ⟨q,rfl,hbq,hb7⟩;have K1:=Z2c hb7))
      rename_i hHeld
      clear hHeld
      have HB7:=Lib.hid (Q2.out.trans (K1.mono Q2.out.size))
      have HBQ:=Lib.hid hbq
      clear K1 hb7 hbq c0 c1 ck cx
      go_wp2_with fail
      go_roundw
      case rel =>
       refine⟨j+1,q,8,by omega,by go_num,rfl,?_,HB7.out⟩
       have e:mx true wsx V (j+1)=rnd true (kk / 2 ^ (64 - 64)) xx (mx true wsx V j):=by rw[HKX.out.1,HKX.out.2];rfl
       rw[e]
       exact Zrj HBQ.out rfl
      case measure=>simp[intOf];omega
     ·have ej:((j:Nat):Int)=80:=by omega
      rw[ej]
      clear ej
      obtain rfl:j=80:=by omega
      obtain⟨w7,rfl⟩:∃w7:World,w7=wr:=⟨_,rfl⟩
      obtain⟨L,hL⟩:∃L,L=bh true (run true all m) blk:=⟨_,rfl⟩
      have hLl:L.length=8:=by rw[hL];exact bh_length _ _ _ (Z22 _ _ _)
      have hLg:∀i,i < 8→L.getD i 0=(V.l.getD i 0+(mx true wsx V 80).l.getD i 0)%18446744073709551616:=fun i hi=>by
       have e1:(run true all m)=V.l:=by
        have h8:=Z22 true all m
        rw[HV.out]
        obtain⟨x0,x1,x2,x3,x4,x5,x6,x7,h⟩:=Z4s h8
        rw[h];rfl
       rw[hL,bh,Zc8 _ _ _ _ (by rw[Z22];exact hi) hi,←HWX.out,←HV.out,e1,Z0w]
       rfl
      have FK:=Lib.hid (show ∀(i:Nat) (y:World),i < 8→Below w7.heap.size w7 y→y.cell? ⟨w.heap.size,0,none⟩=some (.int .u64 0)∧y.cell? ⟨w.heap.size,1,none⟩=some (.int .u64 64)∧y.cell? ⟨gh,i,none⟩=some (.int .u64 ((V.l.getD i 0:Nat):Int))∧y.cell? ⟨gv,i,none⟩=some (.int .u64 (((mx true wsx V 80).l.getD i 0:Nat):Int)) from fun i y hi hy=>by
       have h1:nl8 V=nl V.l:=rfl
       have h2:nl8 (mx true wsx V 80)=nl (mx true wsx V 80).l:=rfl
       have k1:=sl_num (by rw[←h1];exact R3.out) hi
       have k2:=sl_num (by rw[←h2];exact Q1.out) hi
       rw[Z41] at k1 k2
       exact⟨Z05 hy (Z05 Q2.out (Z05 BC6.out C0.out)),Z05 hy (Z05 Q2.out (Z05 BC6.out C1.out)),Z05 hy (Z05 Q2.out k1),Z05 hy k2⟩)
      have HLL:=Lib.hid (And.intro hL (And.intro hLl hLg))
      clear hL hLl hLg
      go_wp2_with fail
      go_loopw [17,18] (fun o t wx=>Zu2 L w7 o t wx) (fun _ t _=>8 - (intOf t).toNat)
      case atStart=>exact⟨0,Nat.zero_le _,rfl,Z4v _ _ _,Below.refl _ _⟩
      case round =>
       obtain⟨i,hi8,rfl,hown,hbel⟩:=hrel
       have P1:=Lib.hid hown
       have P2:=Lib.hid hbel
       clear hown hbel
       by_cases hil:i < 8
       ·obtain⟨c0,c1,ch0,cv0⟩:=FK.out i wr hil P2.out
        obtain⟨x,hx⟩:∃x,x=V.l.getD i 0:=⟨_,rfl⟩
        obtain⟨y,hy⟩:∃y,y=(mx true wsx V 80).l.getD i 0:=⟨_,rfl⟩
        obtain⟨z,hz⟩:∃z,z=L.getD i 0:=⟨_,rfl⟩
        have FI:=Lib.hid (fun y h=>FK.out i y hil h)
        rw[←hx,←hy] at FI
        rw[←hx] at ch0
        rw[←hy] at cv0
        have HCZ:=Lib.hid (show ∀wy:World,Calls Tryz.prog 137 #[.agg #[.int .u64 0,.int .u64 64],.int .u64 (IntKind.u64.wrap ((x:Int)+(y:Int)))] wy fun e w'=>e=.returned (.int .u64 (z:Int))∧Below wy.heap.size wy w' from fun wy=>by
         refine(Zh2 _ (Zh3 _) (Lib.hid (Zh4 _)) wy).mono fun e w' ⟨h1,h2⟩=>⟨?_,h2⟩
         rw[h1]
         refine Z13 ?_
         rw[hz,HLL.out.2.2 i hil,←hx,←hy]
         simp only[IntKind.wrap_u64]
         omega)
        have HZZ:=Lib.hid hz
        have D0:Below w7.heap.size w7 wr.drew:=P2.out.drew
        clear hx hy hz
        have b1:(i:Int) < 8:=by omega
        go_wp2_with fail
        go_region_held3 (fun x'=>x'.cell? ⟨w.heap.size,0,none⟩=some (.int .u64 0)∧x'.cell? ⟨w.heap.size,1,none⟩=some (.int .u64 64)∧x'.cell? ⟨gh,i,none⟩=some (.int .u64 (x:Int))∧x'.cell? ⟨gv,i,none⟩=some (.int .u64 (y:Int)))
         (first|(with_reducible exact FI.out _ D0)|(with_reducible exact FI.out _ D3)|(with_reducible exact FI.out _ (D1.alloc D1.size _))|(with_reducible exact FI.out _ D1))
         (first|(go_at_call 137;(with_reducible refine(HCZ.out _).mono ?_);rintro e w8 ⟨rfl,hb8⟩;have K1:=Z2c hb8;have D1:=P2.out.trans (K1.mono P2.out.size))|(refine Z6v (o:=⟨some 112,_,_,_,_,_⟩) (by rfl) (.tmp 99) (.tmp 111) 32 (by rfl) w7.heap.size 24 j0 _ 8 Tryz.underlying32 hjj hy0 hy1 hy2 (by rfl) _ i (nl (L.take i)) (by rfl) (own_below P1.out (K1.alloc K1.size _)) (some ⟨w8.heap.size,0,none⟩) 1 1 [.int .u64 (z:Int)] (by rfl) (fun h=>by cases h) (Sl.new_ w8 _ [.int .u64 (z:Int)]) (by intro u hu;simp at hu;subst hu;rfl) (by unfold maxLen;omega) (by omega) (by have:=D1.size;simp;omega) ?_;intro v9 w9 hown9 hgrow9;have D3:Below w7.heap.size w7 w9:=(D1.alloc D1.size _).grown hgrow9 (by have:=D1.size;simp;omega) (Zb6 P1.out)))
        rename_i hHeld
        clear hHeld
        have O9:=Lib.hid hown9
        have HD3:=Lib.hid D3
        clear c0 c1 ch0 cv0 D0 D1 D3 K1 hb8 hown9 hgrow9
        go_wp2_with fail
        go_roundw
        case rel =>
         refine⟨i+1,by omega,by go_num,?_,HD3.out⟩
         have hiL:i < L.length:=by rw[HLL.out.2.1];exact hil
         rw[Z3j L i z (by rw[HZZ.out,List.getD_eq_getElem?_getD,List.getElem?_eq_getElem hiL];rfl),nl_append]
         exact O9.out
        case measure=>simp[intOf];omega
       ·obtain rfl:i=8:=by omega
        obtain⟨gn,cn,rfl,hsn⟩:=Zrk P1.out (by decide)
        have HSN:=Lib.hid hsn
        clear hsn
        go_wp2_with fail
        go_roundw
        case rel =>
         refine⟨m+1,gn,cn,by omega,congrArg _ (by have:=HF.out;omega),rfl,?_,((R2.out.trans (BW.out.mono R2.out.size)).trans (Q2.out.mono (Nat.le_trans R2.out.size BW.out.size))).trans (P2.out.mono (Nat.le_trans R2.out.size (Nat.le_trans BW.out.size Q2.out.size)))⟩
         have e1:run true all (m+1)=L:=by rw[HLL.out.1,HBLK.out,HF.out];rfl
         have e2:L.take 8=L:=List.take_of_length_le (by rw[HLL.out.2.1];exact Nat.le_refl _)
         have h:=HSN.out
         rw[e2] at h
         rw[e1];exact h
        case measure=>simp[intOf];have:=HF.out;omega
   ·obtain rfl:m=M:=by omega
    have hFe:F=N:=by rw[hF];exact HMN.out.2.symm
    have f1:¬(F:Int) < (N:Int):=by omega
    clear hFe hF
    go_wp2_with fail
    obtain⟨ws,hws⟩:∃L,L=run true all m:=⟨_,rfl⟩
    have hwl:ws.length=8:=by rw[hws];exact Z22 _ _ _
    have hwlt:∀x∈ws,x < mo true:=by rw[hws];exact Zkq _ _ _
    rw[←hws] at R1
    have HWS2:=Lib.hid hws
    have HWL:=Lib.hid hwl
    have HWT:=Lib.hid hwlt
    obtain⟨wf,rfl⟩:∃wf:World,wf=wr:=⟨_,rfl⟩
    clear hws hwl hwlt
    go_loopw [19,20] (fun o t wx=>Zu3 ws wf o t wx) (fun _ t _=>8 - (intOf t).toNat)
    case atStart=>exact⟨0,Nat.zero_le _,rfl,Z4v _ _ _,Below.refl _ _⟩
    case round =>
     obtain⟨i,hi8,rfl,hown,hbel⟩:=hrel
     have P1:=Lib.hid hown
     have P2:=Lib.hid hbel
     clear hown hbel
     by_cases hil:i < 8
     ·have d1:=Z05 P2.out (Z05 R2.out (Z05 BC.out C1.out))
      obtain⟨X,hX⟩:∃X,X=ws.getD i 0:=⟨_,rfl⟩
      have hiw:i < ws.length:=by rw[HWL.out];exact hil
      have hXl:X < 18446744073709551616:=by
       have:=HWT.out X (by rw[hX,List.getD_eq_getElem?_getD,List.getElem?_eq_getElem hiw];exact List.getElem_mem _)
       rwa [Z0w] at this
      have HX:=Lib.hid (And.intro hX (And.intro hXl hiw))
      have HXC:=Lib.hid (show ∀y:World,Below wf.heap.size wf y→y.cell? ⟨gh,i,none⟩=some (.int .u64 (X:Int)) from fun y hy=>by
       have:=sl_num R1.out hil
       rw[Z41] at this
       rw[hX];exact Z05 hy this)
      have bi:(i:Int) < 8:=by omega
      clear hX hXl hiw
      go_wp2_with fail
      clear d1
      obtain⟨pre,hpre⟩:∃p,p=(ws.take i).flatMap fun x=>be x 8:=⟨_,rfl⟩
      have HPRE:=Lib.hid hpre
      rw[←hpre] at P1
      clear hpre
      go_loopw [19,21] (fun o s wx=>Zu4 pre X i wf o s wx) (fun _ s _=>(intOf s+8).toNat)
      case atStart=>exact⟨0,Nat.zero_le _,congrArg _ (by simp),(by rw[List.take_zero,List.append_nil];exact P1.out),P2.out⟩
      case round =>
       obtain⟨t,ht,rfl,hown,hbel⟩:=hrel
       obtain⟨A4,c4,rfl,hs4,hn4,hl4,-, hA4⟩:=Sl.own hown
       have T1:=Lib.hid hown
       have T2:=Lib.hid hbel
       have T3:=Lib.hid hA4
       clear hown hbel hs4 hn4 hA4
       by_cases htl:t < 8
       ·obtain⟨s,hs⟩:∃s,s=64 - 8 - 8*t:=⟨_,rfl⟩
        have es:(64:Int) - 8 - 8*(t:Int)=(s:Int):=by omega
        rw[es]
        have hs64:(s:Int) < 64:=by omega
        have hsw:IntKind.u64.wrap (s:Int)=(s:Int):=by rw[IntKind.wrap_u64];omega
        have cX:=HXC.out _ T2.out
        have HSS:=Lib.hid (And.intro hs es)
        clear hs es
        go_wp2_with (at_builtin;refine Z0i rfl _ _ 22 rfl wf.heap.size 5 i0 _ 1 Tryz.underlying22 hi hz0 hz1 hz2 rfl _ (i*8+t) (bl (pre ++ (be X 8).take t)) rfl (own_below T1.out ((Below.refl _ _).alloc (Nat.le_refl _) _)) (some ⟨wr.heap.size,0,none⟩) 1 1 [.int .u8 ((X:Int) / 2 ^ s%256)] rfl (fun h=>by cases h) ?c1 ?c2 ?c3 ?c4 ?c5 ?_)
        case c1=>exact Sl.new_ wr _ [.int .u8 ((X:Int) / 2 ^ s%256)]
        case c2=>first|rfl|(intro u hu;simp at hu;subst hu;rfl)
        case c3=>unfold maxLen;omega
        case c4=>omega
        case c5=>have:=T2.out.size;simp;omega
        intro v' w8 hown1 hgrow
        have HB1:=Lib.hid (show Below wf.heap.size wf w8 from(T2.out.alloc T2.out.size _).grown hgrow (by have:=T2.out.size;simp;omega) (Zb6 T1.out))
        have HO1:=Lib.hid hown1
        clear hown1 hgrow cX
        go_wp2_with fail
        go_roundw
        case rel =>
         first|refine⟨t+1,by omega,congrArg _ (by have:=HSS.out;omega),?_,HB1.out⟩|((repeat apply Exists.intro);refine⟨?_,rfl⟩;refine⟨t+1,by omega,congrArg _ (by have:=HSS.out;omega),?_,HB1.out⟩)
         have hb:=Zg6 X 8 t htl
         have h8:s=8*(8 - 1 - t):=by have:=HSS.out.1;omega
         have ey:(X:Int) / 2 ^ s%256=((X / 256 ^ (8 - 1 - t)%256:Nat):Int):=by
          rw[Z3w,h8,Nat.pow_mul,show(2:Nat) ^ 8=256 from rfl];simp
         have h:=HO1.out
         rw[ey,show[Value.int .u8 ((X / 256 ^ (8 - 1 - t)%256:Nat):Int)]=bl [X / 256 ^ (8 - 1 - t)%256] from rfl,←Z4d,List.append_assoc,←Z3j _ t _ hb] at h
         exact h
        case measure=>simp[intOf];have:=HSS.out;omega
       ·obtain rfl:t=8:=by omega
        have es:(64:Int) - 8 - 8*((8:Nat):Int)=-8:=by omega
        rw[es]
        clear es
        go_wp2_with fail
        go_roundw
        case rel =>
         refine⟨i+1,by omega,by go_num,?_,T2.out⟩
         have h:=T1.out
         have e1:(be X 8).take 8=be X 8:=List.take_of_length_le (by rw[be_length];exact Nat.le_refl _)
         have e2:(ws.take (i+1)).flatMap (fun x=>be x 8)=pre ++ be X 8:=by
          rw[Z3j ws i X (by rw[HX.out.1,List.getD_eq_getElem?_getD,List.getElem?_eq_getElem HX.out.2.2];rfl),List.flatMap_append,←HPRE.out]
          simp
         rw[e1,←e2] at h
         rw[show(i+1)*8=i*8+8 by omega]
         exact h
        case measure=>simp[intOf];omega
     ·obtain rfl:i=8:=by omega
      go_wp2_with fail
      go_ret2
      have BWF:=BC.out.trans (R2.out.mono BC.out.size)
      refine⟨_,rfl,Z7k (base':=w.heap.size) ?_ (Nat.le_trans B0.out.size BWF.size),(B0.out.trans (BWF.mono B0.out.size)).trans (P2.out.mono (Nat.le_trans B0.out.size BWF.size))⟩
      have h:=P1.out
      rw[List.take_of_length_le (by rw[HWL.out];exact Nat.le_refl _)] at h
      have e:(ws.flatMap fun x=>be x 8)=dg true l:=by
       rw[HWS2.out,HMN.out.1,HALL.out.1]
       unfold dg
       rw[HLN.out,PLN.out,HNN.out,Nat.zero_add]
       rfl
      rw[e] at h
      exact h
end Go.Proofs.YtjimhjfjfpeojaaGreatDoor.Sh
