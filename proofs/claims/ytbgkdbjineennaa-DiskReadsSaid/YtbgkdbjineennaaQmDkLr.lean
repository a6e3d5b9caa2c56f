/- Joined texts. -/
import Derived.Test.YtbgkdbjineennaaQmDkTh
set_option linter.unusedVariables false
namespace Go.Proofs.Ytbgkdbjineennaa.Dk
open Go.IntWalk Go.RowKit Go.Proofs.Ytbgkdbjineennaa.Gn Go.Proofs.Ytbgkdbjineennaa.Fd Go.Deep
theorem wf64{k:Int}(h:(Lit.int .i64 k).wf) : -9223372036854775808≤k∧k≤9223372036854775807:=by
 simpa[Lit.wf,IntKind.min,IntKind.max,IntKind.signed,IntKind.bits] using h
theorem rows_take{n:M}(a k:Nat)(x:List Nat)(hu:n.up=true)(hs:64*a+k≤64*n.ss.length)(h:n.load a k=(0,x)):(n.rows a ((k+63) / 64)).take k=x:=by
 rw[load_in hu a k hs] at h
 exact(Prod.mk.inj h).2
set_option maxRecDepth 100000 in
set_option maxHeartbeats 8000000 in
theorem walk_diskReads{w:World}(B:Option Addr)(mm cap:Nat)(bs:List Nat)(hB:Sl w B mm (bl bs))(hB0:B=none→cap=0)(hcap:mm≤cap)(s:Int){L:Option Addr}{l:List Od}(lc:Nat)(hl:Ol w w.heap.size L l)(at_:Int)(wat:(Lit.int .i64 at_).wf)(X:Option Addr)(xn xc:Nat)(xl:List Nat)(hx:Sl w X xn (bl xl))(hx0:X=none→xc=0)(hxc:xn≤xc)(hxin:∀ad,X=some ad→ad.block < w.heap.size)(fl:Bool) :
  Calls Try.prog 5 #[.slice B mm cap,.int .i64 s,.slice L l.length lc,.int .i64 at_,.slice X xn xc,.bool fl] w fun e w'=>e=.returned (.bool true)∧Below w.heap.size w w':=by
 have MC:=Lib.hid (made_any lc hl B mm cap bs hB hB0 hcap s)
 have KN:=Lib.hid known_any
 have HX:=Lib.hid hx
 have HA:=Lib.hid (And.intro hx0 (And.intro hxc hxin))
 have hxl:xl.length=xn:=by have:=hx.1;rwa [bl_length] at this
 have WAT:=Lib.hid (wf64 wat)
 obtain⟨K,hK⟩:∃K,l.length=K:=⟨_,rfl⟩
 rw[hK] at MC ⊢
 have HXL:=Lib.hid hxl
 clear hl hB hB0 hcap hx hx0 hxc hxin hK wat hxl
 go_enter Try.func5,Try.ntmps5
 go_upto_region 2 with(go_at_call 8;(with_reducible refine MC.out.mono ?_);rintro e w1 ⟨p,rfl,hp,hb1⟩;have B1:=Lib.hid hb1;have HP:=Lib.hid hp;clear hb1 hp)
 have hp:=HP.out
 clear HP
 rcases hp with rfl|⟨g,gb,H,cs,cw,ch,m,rfl,d1,h1,h2,h3,-, -⟩
 ·go_wp2_with (go_at_call 10;(with_reducible refine(KN.out _).mono ?_);rintro e w2 ⟨rfl,hb2⟩;have B2:=Lib.hid hb2;clear hb2)
  go_ret
  exact⟨rfl,B1.out.trans (B2.out.mono B1.out.size)⟩
 have D1:=Lib.hid d1
 clear d1
 by_cases hn:(1000:Int) < (xn:Int)
 ·go_wp2_with (go_at_call 10;(with_reducible refine(KN.out _).mono ?_);rintro e w2 ⟨rfl,hb2⟩;have B2:=Lib.hid hb2;clear hb2)
  go_ret
  exact⟨rfl,B1.out.trans (B2.out.mono B1.out.size)⟩
 have ST:=Lib.hid (Start_dd D1.out)
 obtain⟨S,hS⟩:∃S,m.ss.length=S:=⟨_,rfl⟩
 have HM:=Lib.hid (And.intro h2 (And.intro h3 hS))
 have hS9:S≤100:=by omega
 obtain⟨k,hk⟩:∃k:Nat,at_%((S:Int)+1)=(k:Int):=⟨(at_%((S:Int)+1)).toNat,by have:=Int.emod_nonneg at_ (show(S:Int)+1≠0 by omega);omega⟩
 have hkS:k≤S:=by have:=Int.emod_lt_of_pos at_ (show(0:Int) < (S:Int)+1 by omega);omega
 have AM:=among_any at_ ((S:Int)+1)
 rw[hk] at AM
 have AM:=Lib.hid (fun u=>AM u (by omega) (by omega) WAT.out.1 WAT.out.2)
 clear h1 h2 h3 hS hk
 go_upto_region 6 with(first
  |(go_at_call 11;(with_reducible refine ST.out.mono ?_);rintro e w2 ⟨⟨v2,rfl⟩,d2,g2⟩;have D2:=Lib.hid d2;have G2:=Lib.hid g2;have SZ:=(size_dd d2);rw[show m.start.ss.length=S from HM.out.2.2] at SZ;have SZ:=Lib.hid SZ;clear d2 g2)
  |(go_at_call 20;(with_reducible refine SZ.out.mono ?_);rintro e w3 ⟨rfl,rfl⟩)
  |(go_at_call 19;(with_reducible refine(AM.out _).mono ?_);rintro e w3 ⟨rfl,rfl⟩))
 have B2:=Lib.hid (B1.out.trans (g_below D1.out G2.out))
 have SV:=Save_dd D2.out (show m.start.ss.length≤100 by rw[show m.start.ss.length=S from HM.out.2.2];exact hS9) (k:Int) X xn xc xl (HX.out.below B2.out) HA.out.1 HA.out.2.1 (fun ad e _=>HA.out.2.2 ad e) (by omega) (fun _=>by show m.hd.length+xn < _;have:=HM.out.1;omega) (fun _=>by show m.st+xn < _;have:=HM.out.2.1;omega)
 rcases save_none m.start k xl rfl rfl (show k≤m.start.ss.length by rw[show m.start.ss.length=S from HM.out.2.2];exact hkS) with⟨e1,e2,e3⟩|⟨e1,e2,e3,e4,e5,e6⟩
 ·rw[show m.start.ss.length=S from HM.out.2.2,HXL.out] at e2
  have SV:=Lib.hid (SV.mono fun e w' (h:OpQ w2 w.heap.size g gb H false (.slice none 0 0) (m.start.save (k:Int) xl) e w')=>show OpK w2 w.heap.size g gb H false (.slice none 0 0) 61 m.start e w' from h.k (by rw[e1];rfl) e3)
  have q1:64*((S:Int) - (k:Int)) < (xn:Int):=by omega
  clear e1 e2 e3
  go_wp2_with (first
   |(go_at_call 21;(with_reducible refine SV.out.mono ?_);rintro e w4 ⟨rfl,H3,cw3,d3,-, g3⟩;have G3:=Lib.hid g3;have SZ3:=(size_dd d3);rw[show m.start.ss.length=S from HM.out.2.2] at SZ3;have SZ3:=Lib.hid SZ3;clear d3 g3)
   |(go_at_call 20;(with_reducible refine SZ3.out.mono ?_);rintro e w5 ⟨rfl,rfl⟩)
   |(go_at_call 10;(with_reducible refine(KN.out _).mono ?_);rintro e w6 ⟨rfl,hb2⟩;have B6:=Lib.hid hb2;clear hb2))
  go_ret
  have B4:=B2.out.trans (ts_below D2.out G3.out)
  exact⟨rfl,B4.trans (B6.out.mono B4.size)⟩
 ·rw[HXL.out] at e5
  have hlen:(m.start.save (k:Int) xl).2.ss.length=S:=by rw[e4];exact HM.out.2.2
  have hhs:=M.save_hs m.start (k:Int) xl
  rw[HXL.out] at hhs e6
  obtain⟨M3,hM3⟩:∃M3,(m.start.save (k:Int) xl).2=M3:=⟨_,rfl⟩
  have hfl:M3.flush.1=0∧M3.flush.2.load (k:Int) xn=(0,xl):=by
   have:=read_flush m.start k xl rfl rfl (show k≤m.start.ss.length by rw[show m.start.ss.length=S from HM.out.2.2];exact hkS) e1
   rwa [hM3,HXL.out] at this
  have SV:=Lib.hid (SV.mono fun e w' (h:OpQ w2 w.heap.size g gb H false (.slice none 0 0) (m.start.save (k:Int) xl) e w')=>show OpK w2 w.heap.size g gb H false (.slice none 0 0) 0 M3 e w' from h.k (by rw[e1];rfl) hM3)
  rw[hM3] at e2 e3 hhs e6 hlen
  have h30:M3.hd.length < 1000000∧M3.st < 1000000000:=by
   have hq1:=HM.out.1
   have hq2:=HM.out.2.1
   have hq3:m.start.hd.length=m.hd.length:=rfl
   have hq4:m.start.st=m.st:=rfl
   omega
  have e5':64*k+xn≤64*S:=by rw[show m.start.ss.length=S from HM.out.2.2] at e5;exact e5
  have H3:=Lib.hid (And.intro e2 (And.intro e6 (And.intro hlen h30)))
  have HF:=Lib.hid hfl
  have HE:=Lib.hid e5'
  have hfe:=M.flush_none e3 e2
  have HFE:=Lib.hid hfe
  clear e1 e2 e3 e4 e5 e6 hlen hhs hM3 hfl h30 e5' hfe
  cases fl with
  |false =>
   go_wp2_with (first
    |(go_at_call 21;(with_reducible refine SV.out.mono ?_);rintro e w4 ⟨rfl,H4,cw4,d4,-, g4⟩;have D4:=Lib.hid d4;have G4:=Lib.hid g4;have B4:=Lib.hid (B2.out.trans (ts_below D2.out g4));have X4:=Lib.hid (HX.out.below B4.out);clear d4 g4)
    |(go_at_call 22;(with_reducible refine(Load_ok D4.out H3.out.2.2.2.1 H3.out.1 k xn (by rw[H3.out.2.2.1];exact HE.out)).mono ?_);rintro e w5 ⟨v5,rfl,hown,hb5⟩;rw[H3.out.2.1] at hown;obtain⟨vA,vc,rfl,-, hsl,-⟩:=own_sl0 hown;have B5:=Lib.hid hb5;have SB:=same_any X vA xn xn xc vc xl xl w5 (X4.out.below hb5) hsl;rw[decide_eq_true rfl] at SB;have SB:=Lib.hid SB;clear hown hsl hb5)
    |(go_at_call 15;(with_reducible refine SB.out.mono ?_);rintro e w8 ⟨rfl,rfl⟩)
    |(go_at_call 10;(with_reducible refine(KN.out _).mono ?_);rintro e w6 ⟨rfl,hb2⟩;have B6:=Lib.hid hb2;clear hb2))
   go_ret
   exact⟨rfl,B4.out.trans ((B5.out.trans (B6.out.mono B5.out.size)).mono B4.out.size)⟩
  |true =>
   have hup:M3.flush.2.up=true:=by rw[HFE.out];exact H3.out.1
   have hlen2:M3.flush.2.ss.length=S:=by rw[M.flush_size];exact H3.out.2.2.1
   have hhd2:M3.flush.2.hd.length < 1000000:=by have:=(M.flush_hs M3).1;have:=H3.out.2.2.2.1;omega
   have RT:=rows_take k xn xl hup (by rw[hlen2];exact HE.out) HF.out.2
   have HF1:=HF.out.1
   obtain⟨M4,hM4⟩:∃M4,M3.flush=M4:=⟨_,rfl⟩
   rw[hM4] at hup hlen2 hhd2 RT HF1
   have H4':=Lib.hid (And.intro hup (And.intro RT (And.intro hlen2 (And.intro hhd2 HF1))))
   have HM4:=Lib.hid hM4
   clear hup RT hlen2 hhd2 HF1 hM4
   go_wp2_with (first
    |(go_at_call 21;(with_reducible refine SV.out.mono ?_);rintro e w4 ⟨rfl,H4,cw4,d4,-, g4⟩;have D4:=Lib.hid d4;have B4:=Lib.hid (B2.out.trans (ts_below D2.out g4));have FC:=Flush_dd d4 H3.out.2.2.2.1 H3.out.2.2.2.2;rw[HM4.out] at FC;have FC:=Lib.hid (FC.mono fun e w' h=>show e=.returned (.int .i64 0)∧OpQ w4 w.heap.size g gb H4 false (.slice none 0 0) M4 e w' from⟨by rw[h.1,H4'.out.2.2.2.2];rfl,h⟩);clear d4 g4)
    |(go_at_call 12;(with_reducible refine FC.out.mono ?_);rintro e w5 ⟨rfl,-, H5,cw5,d5,-, g5⟩;have D5:=Lib.hid d5;have B5':=Lib.hid (B4.out.trans (ts_below D4.out g5));have X5:=Lib.hid (HX.out.below B5'.out);clear d5 g5)
    |(go_at_call 22;(with_reducible refine(Load_ok D5.out H4'.out.2.2.2.1 H4'.out.1 k xn (by rw[H4'.out.2.2.1];exact HE.out)).mono ?_);rintro e w6 ⟨v5,rfl,hown,hb5⟩;rw[H4'.out.2.1] at hown;obtain⟨vA,vc,rfl,-, hsl,-⟩:=own_sl0 hown;have B6:=Lib.hid hb5;have SB:=same_any X vA xn xn xc vc xl xl w6 (X5.out.below hb5) hsl;rw[decide_eq_true rfl] at SB;have SB:=Lib.hid SB;clear hown hsl hb5)
    |(go_at_call 15;(with_reducible refine SB.out.mono ?_);rintro e w8 ⟨rfl,rfl⟩)
    |(go_at_call 10;(with_reducible refine(KN.out _).mono ?_);rintro e w7 ⟨rfl,hb2⟩;have B7:=Lib.hid hb2;clear hb2))
   go_ret
   exact⟨rfl,B5'.out.trans ((B6.out.trans (B7.out.mono B6.out.size)).mono B5'.out.size)⟩
end Go.Proofs.Ytbgkdbjineennaa.Dk
