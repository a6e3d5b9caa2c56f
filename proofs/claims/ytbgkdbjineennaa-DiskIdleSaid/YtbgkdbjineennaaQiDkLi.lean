/- Joined texts. -/
import Derived.Test.YtbgkdbjineennaaQiDkTj
import Derived.Test.YtbgkdbjineennaaQiDkLm
set_option linter.unusedVariables false
namespace Go.Proofs.Ytbgkdbjineennaa.Dk
open Go.IntWalk Go.RowKit Go.Proofs.Ytbgkdbjineennaa.Gn Go.Proofs.Ytbgkdbjineennaa.Fd Go.Deep
def Box(lo hi g gb:Nat)(H ch:Value):Prop:=(lo≤g∧g < hi)∧(lo≤gb∧gb < hi)∧(∀b,H.ownBlock=some b→lo≤b∧b < hi)∧(∀b,ch.ownBlock=some b→lo≤b∧b < hi)
def Out(lo hi g gb:Nat)(H ch:Value):Prop:=(g < lo∨hi≤g)∧(gb < lo∨hi≤gb)∧(∀b,H.ownBlock=some b→b < lo∨hi≤b)∧(∀b,ch.ownBlock=some b→b < lo∨hi≤b)
section
variable {w:World} {base g gb lo hi:Nat} {H:Value} {cs:Bool} {cw:Int} {ch:Value} {m:M}
theorem Dd.ch_base(D:Dd w base g gb H cs cw ch m){b:Nat}(hb:ch.ownBlock=some b):base≤b∧b < w.heap.size:=⟨(D.kinds.2.2.2 b hb).1,(D.kinds.2.2.2 b hb).2.lt⟩
theorem Dd.box(D:Dd w base g gb H cs cw ch m):Box base w.heap.size g gb H ch :=
 ⟨⟨D.b1,Bl.lt D.blk⟩,⟨D.b2,Bl.lt D.byt⟩,fun b hb=>⟨(own_kd D.own hb).1,own_lt D.own hb⟩,fun b hb=>D.ch_base hb⟩
theorem Dd.away(D:Dd w base g gb H cs cw ch m)(hb:Box lo hi g gb H ch){S:List Nat}{w':World}(hG:Gx S w w')(hS:∀b∈S,b < lo∨hi≤b):Dd w' base g gb H cs cw ch m :=
 D.kept hG fun b hb'=>⟨fun e=>by have:=hS b hb';have:=hb.1;omega,fun e=>by have:=hS b hb';have:=hb.2.1;omega,fun e=>by have:=hS b hb';have:=hb.2.2.1 b e;omega,fun e=>by have:=hS b hb';have:=hb.2.2.2 b e;omega⟩
theorem Dd.off_box(D:Dd w base g gb H cs cw ch m)(hb:Out lo hi g gb H ch){S:List Nat}{w':World}(hG:Gx S w w')(hS:∀b∈S,lo≤b∧b < hi):Dd w' base g gb H cs cw ch m :=
 D.kept hG fun b hb'=>⟨fun e=>by have:=hS b hb';have:=hb.1;omega,fun e=>by have:=hS b hb';have:=hb.2.1;omega,fun e=>by have:=hS b hb';have:=hb.2.2.1 b e;omega,fun e=>by have:=hS b hb';have:=hb.2.2.2 b e;omega⟩
theorem Box.ts(h:Box lo hi g gb H ch):∀b∈Ts g gb H,lo≤b∧b < hi:=by
 intro b hb
 simp only[Ts,List.mem_cons,Option.mem_toList] at hb
 rcases hb with rfl|rfl|hb
 ·exact h.1
 ·exact h.2.1
 ·exact h.2.2.1 b hb
theorem Out.ts(h:Out lo hi g gb H ch):∀b∈Ts g gb H,b < lo∨hi≤b:=by
 intro b hb
 simp only[Ts,List.mem_cons,Option.mem_toList] at hb
 rcases hb with rfl|rfl|hb
 ·exact h.1
 ·exact h.2.1
 ·exact h.2.2.1 b hb
theorem Out.next{u:World}{H' ch':Value}(h:Out lo hi g gb H ch)(hu:hi≤u.heap.size)(o1:H'.ownBlock=H.ownBlock∨∃q,H'.ownBlock=some q∧u.heap.size≤q)(o2:ch'=ch∨∀q,ch'.ownBlock=some q→u.heap.size≤q):Out lo hi g gb H' ch':=by
 refine⟨h.1,h.2.1,fun b hb=>?_,fun b hb=>?_⟩
 ·rcases o1 with e|⟨q,e,hq⟩
  ·rw[e] at hb;exact h.2.2.1 b hb
  ·rw[e] at hb;cases hb;right;omega
 ·rcases o2 with e|hq
  ·rw[e] at hb;exact h.2.2.2 b hb
  ·right;have:=hq b hb;omega
end
theorem Od.ok.up{w:World}{a0 a1:Nat}{o:Od}(h:o.ok w a0)(ha:a0≤a1):o.ok w a1 :=
 ⟨h.b,h.b0,h.b1,fun ad e hn=>Nat.lt_of_lt_of_le (h.b2 ad e hn) ha,h.b9,h.c,h.c0,h.c1,fun ad e hn=>Nat.lt_of_lt_of_le (h.c2 ad e hn) ha,h.c9,h.cb,h.n9⟩
def tftt:List Bool:=[true,true,false,true]
def IdQ(u:World)(a0 g gb:Nat)(H ch:Value)(r:Nat × M)(e:Ending)(w':World):Prop:=e=.returned (.int .i64 ((r.1:Nat):Int))∧∃H1 cs1 cw1 ch1,Dd w' a0 g gb H1 cs1 cw1 ch1 r.2∧(H1.ownBlock=H.ownBlock∨∃q,H1.ownBlock=some q∧u.heap.size≤q)∧(ch1=ch∨∀q,ch1.ownBlock=some q→u.heap.size≤q)∧Gx (Ts g gb H) u w'
theorem OpQ.id{u:World}{a0 g gb:Nat}{H:Value}{cs:Bool}{ch:Value}{r:Nat × M}{e:Ending}{w':World}(h:OpQ u a0 g gb H cs ch r e w'):IdQ u a0 g gb H ch r e w':=by
 obtain⟨h1,H1,cw1,h2,h3,h4⟩:=h
 exact⟨h1,H1,cs,cw1,ch,h2,h3,.inl rfl,h4⟩
theorem SetQ.id{u:World}{a0 g gb:Nat}{H:Value}{ch:Value}{r:Nat × M}{e:Ending}{w':World}(h:SetQ u a0 g gb H ch r e w'):IdQ u a0 g gb H ch r e w':=by
 obtain⟨h1,cs1,cw1,ch1,h2,h3,h4⟩:=h
 exact⟨h1,H,cs1,cw1,ch1,h2,.inl rfl,h3,h4.mono fun k hk=>by rw[List.mem_singleton.1 hk];simp[Ts]⟩
set_option maxRecDepth 100000 in
set_option maxHeartbeats 16000000 in
theorem walk_diskIdle{w:World}(B:Option Addr)(mm cap:Nat)(bs:List Nat)(hB:Sl w B mm (bl bs))(hB0:B=none→cap=0)(hcap:mm≤cap)(s:Int){L:Option Addr}{l:List Od}(lc:Nat)(hl:Ol w w.heap.size L l){o:Od}(ho:o.ok w w.heap.size) :
  Calls Try.prog 7 #[.slice B mm cap,.int .i64 s,.slice L l.length lc,.agg #[.int .i64 o.kd,.int .i64 o.at_,.int .i64 o.nn,.slice o.bA o.bn o.bc,.slice o.cA o.cn o.cc]] w fun e w'=>e=.returned (.bool true)∧Below w.heap.size w w':=by
 have BW0:Below w.heap.size w (w.alloc (.cells #[.int .i64 o.kd,.int .i64 o.at_,.int .i64 o.nn,.slice o.bA o.bn o.bc,.slice o.cA o.cn o.cc] 37)):=(Below.refl _ _).alloc (Nat.le_refl _) _
 have HBX0:=Bl.new_ w 37 #[.int .i64 o.kd,.int .i64 o.at_,.int .i64 o.nn,.slice o.bA o.bn o.bc,.slice o.cA o.cn o.cc]
 obtain⟨W0,hW0⟩:∃W0,w.alloc (.cells #[.int .i64 o.kd,.int .i64 o.at_,.int .i64 o.nn,.slice o.bA o.bn o.bc,.slice o.cA o.cn o.cc] 37)=W0:=⟨_,rfl⟩
 rw[hW0] at HBX0 BW0
 have HBX:=Lib.hid HBX0
 have BW:=Lib.hid BW0
 have MC:=Lib.hid (made_any (w:=W0) lc ((hl.low BW0).up BW0.size) B mm cap bs (hB.below BW0) hB0 hcap s)
 have KN:=Lib.hid known_any
 have HO:=Lib.hid ho
 obtain⟨K,hK⟩:∃K,l.length=K:=⟨_,rfl⟩
 rw[hK] at MC ⊢
 clear hl hB hB0 hcap ho hK HBX0 BW0
 go_enter Try.func7,Try.ntmps7
 go_upto_region 2 with(go_at_call 8;(with_reducible refine MC.out.mono ?_);rintro e w1 ⟨p,rfl,hp,hb1⟩;have B1:=Lib.hid hb1;have HP:=Lib.hid hp;clear hb1 hp)
 have hp:=HP.out
 have BB1:=Lib.hid (BW.out.trans (B1.out.mono BW.out.size))
 clear HP
 rcases hp with rfl|⟨g,gb,H,cs,cw,ch,m,rfl,d1,h1,h2,h3,-, -⟩
 ·go_wp2_with (go_at_call 10;(with_reducible refine(KN.out _).mono ?_);rintro e w2 ⟨rfl,hb2⟩;have B2:=Lib.hid hb2;clear hb2)
  go_ret
  exact⟨rfl,BB1.out.trans (B2.out.mono BB1.out.size)⟩
 have D1:=Lib.hid d1
 clear d1
 have BX1:=Lib.hid (HBX.out.below' B1.out)
 have x0:w1.cell? ⟨w.heap.size,0,none⟩=some (.int .i64 o.kd):=BX1.out.cell_ rfl
 have x1:w1.cell? ⟨w.heap.size,1,none⟩=some (.int .i64 o.at_):=BX1.out.cell_ rfl
 have x2:w1.cell? ⟨w.heap.size,2,none⟩=some (.int .i64 o.nn):=BX1.out.cell_ rfl
 have x3:w1.cell? ⟨w.heap.size,3,none⟩=some (.slice o.bA o.bn o.bc):=BX1.out.cell_ rfl
 have x4:w1.cell? ⟨w.heap.size,4,none⟩=some (.slice o.cA o.cn o.cc):=BX1.out.cell_ rfl
 have BA:=Lib.hid (show Below w1.heap.size w1 (w1.alloc (.cells #[.int .i64 o.kd,.int .i64 o.at_,.int .i64 o.nn,.slice o.bA o.bn o.bc,.slice o.cA o.cn o.cc] 37)) from(Below.refl _ _).alloc (Nat.le_refl _) _)
 have OKA:=Lib.hid ((HO.out.low (BB1.out.trans (BA.out.mono BB1.out.size))).up (show w.heap.size≤(w1.alloc (.cells #[.int .i64 o.kd,.int .i64 o.at_,.int .i64 o.nn,.slice o.bA o.bn o.bc,.slice o.cA o.cn o.cc] 37)).heap.size from Nat.le_trans BB1.out.size BA.out.size))
 have LC0:=long_any (w:=w1.alloc (.cells #[.int .i64 o.kd,.int .i64 o.at_,.int .i64 o.nn,.slice o.bA o.bn o.bc,.slice o.cA o.cn o.cc] 37)) (a0:=(w1.alloc (.cells #[.int .i64 o.kd,.int .i64 o.at_,.int .i64 o.nn,.slice o.bA o.bn o.bc,.slice o.cA o.cn o.cc] 37)).heap.size) (L:=some ⟨w1.heap.size,0,none⟩) (l:=[o]) 1
  ⟨Sl.of_bl (Bl.new_ w1 _ _) 0 _ _ rfl fun k v hk=>by rw[Nat.zero_add];simpa[orow,Od.row] using hk,fun x hx=>by rw[List.mem_singleton.1 hx];exact OKA.out,(fun ad e=>by cases e;simp),(by show 1 < 1000000000000000;decide)⟩
 have LC0:Calls Try.prog 17 #[.slice (some ⟨w1.heap.size,0,none⟩) 1 1] (w1.alloc (.cells #[.int .i64 o.kd,.int .i64 o.at_,.int .i64 o.nn,.slice o.bA o.bn o.bc,.slice o.cA o.cn o.cc] 37)) _:=LC0
 cases hlg:lg 0 [o] with
 |true =>
  rw[hlg] at LC0
  have LC:=Lib.hid LC0
  clear hlg LC0
  go_wp2_with (first
   |(go_at_call 17;(with_reducible refine LC.out.mono ?_);rintro e w3 ⟨rfl,hb3⟩;have B3:=Lib.hid hb3;clear hb3)
   |(go_at_call 10;(with_reducible refine(KN.out _).mono ?_);rintro e w2 ⟨rfl,hb2⟩;have B2:=Lib.hid hb2;clear hb2))
  go_ret
  have b3:=BB1.out.trans ((BA.out.trans (B3.out.mono BA.out.size)).mono BB1.out.size)
  exact⟨rfl,b3.trans (B2.out.mono b3.size)⟩
 |false =>
  rw[hlg] at LC0
  have LC:=Lib.hid LC0
  have TT:=lg_tot [o] 0 hlg
  have hbn:o.bn≤3000:=by simp[tot] at TT;omega
  clear hlg LC0 TT
  go_upto_region 4 with(go_at_call 17;(with_reducible refine LC.out.mono ?_);rintro e w3 ⟨rfl,hb3⟩;have B3:=Lib.hid (BA.out.trans (hb3.mono BA.out.size));clear hb3)
  have D3:=Lib.hid (D1.out.below B3.out)
  have CP:=Lib.hid (Copy_dd D3.out (by omega) (by omega))
  go_upto_region 7 with(go_at_call 23;(with_reducible refine CP.out.mono ?_);rintro e w4 ⟨c,cb,cH,cch,cp',tl',rfl,dc,hb4⟩;have DC:=Lib.hid dc;have B4:=Lib.hid hb4;clear dc hb4)
  have BX:=Lib.hid (DC.out.box)
  have D4:=Lib.hid (D3.out.below B4.out)
  have OUT:=Lib.hid (show Out w3.heap.size w4.heap.size g gb H ch from by
   obtain⟨⟨-, k1⟩,⟨-, k2⟩,k3,k4⟩:=D3.out.box
   exact⟨.inl k1,.inl k2,fun b hb=>.inl (k3 b hb).2,fun b hb=>.inl (k4 b hb).2⟩)
  have B14:=Lib.hid (B3.out.trans (B4.out.mono B3.out.size))
  have BB4:=Lib.hid (BB1.out.trans (B14.out.mono BB1.out.size))
  have BX4:=Lib.hid (BX1.out.below' B14.out)
  have OK4:=Lib.hid (HO.out.low BB4.out)
  have HM:=Lib.hid (And.intro h1 (And.intro h2 h3))
  have y0:w4.cell? ⟨w.heap.size,0,none⟩=some (.int .i64 o.kd):=BX4.out.cell_ rfl
  have y1:w4.cell? ⟨w.heap.size,1,none⟩=some (.int .i64 o.at_):=BX4.out.cell_ rfl
  have y2:w4.cell? ⟨w.heap.size,2,none⟩=some (.int .i64 o.nn):=BX4.out.cell_ rfl
  have y3:w4.cell? ⟨w.heap.size,3,none⟩=some (.slice o.bA o.bn o.bc):=BX4.out.cell_ rfl
  have y4:w4.cell? ⟨w.heap.size,4,none⟩=some (.slice o.cA o.cn o.cc):=BX4.out.cell_ rfl
  clear x0 x1 x2 x3 x4 h1 h2 h3
  have a04:W0.heap.size≤w4.heap.size:=Nat.le_trans B1.out.size B14.out.size
  by_cases k1:o.kd=1
  ·rw[k1] at y0
   have ST0:Calls Try.prog 18 #[.pointer (some ⟨g,0,none⟩),.int .i64 o.at_,.slice o.bA o.bn o.bc] w4 (IdQ w4 W0.heap.size g gb H ch (m.write o.at_ o.bs)):=(Write_dd D4.out (by have:=HM.out.2.1;omega) (by have:=HM.out.2.2;omega) o.at_ o.bs o.bA o.bn o.bc OK4.out.b (by have:=OK4.out.b9;omega)).mono fun e w' h=>h.id
   have ID:=(fun h=>write_idle m o.at_ o.bs h:(m.write o.at_ o.bs).1≠0→((m.write o.at_ o.bs).1=60∧m.up=true)∨(m.write o.at_ o.bs).2=m)
   obtain⟨R,hR⟩:∃R,(m.write o.at_ o.bs)=R:=⟨_,rfl⟩
   rw[hR] at ST0 ID
   obtain⟨E,hE⟩:∃E:Int,((R.1:Nat):Int)=E:=⟨_,rfl⟩
   have ST:=Lib.hid (ST0.mono fun e w' (h:IdQ w4 W0.heap.size g gb H ch R e w')=>show e=.returned (.int .i64 E)∧∃H1 cs1 cw1 ch1,Dd w' W0.heap.size g gb H1 cs1 cw1 ch1 R.2∧(H1.ownBlock=H.ownBlock∨∃q,H1.ownBlock=some q∧w4.heap.size≤q)∧(ch1=ch∨∀q,ch1.ownBlock=some q→w4.heap.size≤q)∧Gx (Ts g gb H) w4 w' from⟨by rw[←hE];exact h.1,h.2⟩)
   clear ST0 hR
   by_cases e0:E=0
   ·subst e0
    go_wp2_with (first
     |(go_at_call 18;(with_reducible refine ST.out.mono ?_);rintro e w5 ⟨rfl,H5,cs5,cw5,ch5,d5,o5,p5,g5⟩;have D5:=Lib.hid d5;have O5:=Lib.hid o5;have P5:=Lib.hid p5;have G5:=Lib.hid g5;have DC5:=Lib.hid (DC.out.away BX.out g5 (OUT.out.ts));have UPC:=Lib.hid (show Calls Try.prog 9 #[.pointer (some ⟨c,0,none⟩)] w5 (fun e w'=>e=.returned (.bool m.up)∧w5=w') from up_dd (m:=m.re cp' tl') DC5.out);clear d5 o5 p5 g5)
     |(go_at_call 10;(with_reducible refine(KN.out _).mono ?_);rintro e w6 ⟨rfl,hb6⟩;have B6:=Lib.hid hb6;clear hb6))
    go_ret
    have b5:=BB4.out.trans ((ts_below D4.out G5.out).mono BW.out.size)
    exact⟨rfl,b5.trans (B6.out.mono b5.size)⟩
   ·have q0:(E == 0)=false:=by rw[beq_eq_false_iff_ne];exact e0
    by_cases e6:E=60
    ·have q6:(E == 60)=true:=by rw[e6];rfl
     cases hu:m.up with
     |true =>
      have HU:=Lib.hid hu
      clear ID hE e0 e6 hu
      go_upto_region 15 with(first
       |(go_at_call 18;(with_reducible refine ST.out.mono ?_);rintro e w5 ⟨rfl,H5,cs5,cw5,ch5,d5,o5,p5,g5⟩;have D5:=Lib.hid d5;have O5:=Lib.hid o5;have P5:=Lib.hid p5;have G5:=Lib.hid g5;have DC5:=Lib.hid (DC.out.away BX.out g5 (OUT.out.ts));have UPC:=Lib.hid (show Calls Try.prog 9 #[.pointer (some ⟨c,0,none⟩)] w5 (fun e w'=>e=.returned (.bool m.up)∧w5=w') from up_dd (m:=m.re cp' tl') DC5.out);clear d5 o5 p5 g5))
      have UPC1:=UPC.out
      rw[HU.out] at UPC1
      have UPC2:=Lib.hid UPC1
      clear UPC1
      go_wp2_with (first
       |(go_at_call 9;(with_reducible refine UPC2.out.mono ?_);rintro e w7 ⟨rfl,rfl⟩)
       |(go_at_call 10;(with_reducible refine(KN.out _).mono ?_);rintro e w6 ⟨rfl,hb6⟩;have B6:=Lib.hid hb6;clear hb6))
      go_ret
      have b5:=BB4.out.trans ((ts_below D4.out G5.out).mono BW.out.size)
      exact⟨rfl,b5.trans (B6.out.mono b5.size)⟩
     |false =>
      have HU:=Lib.hid hu
      have hidle:R.2=m:=(ID (by omega)).resolve_left (by rw[hu];exact fun h=>by cases h.2)
      have HI:=Lib.hid hidle
      clear ID hE e0 e6 hu hidle
      go_upto_region 15 with(first
       |(go_at_call 18;(with_reducible refine ST.out.mono ?_);rintro e w5 ⟨rfl,H5,cs5,cw5,ch5,d5,o5,p5,g5⟩;have D5:=Lib.hid d5;have O5:=Lib.hid o5;have P5:=Lib.hid p5;have G5:=Lib.hid g5;have DC5:=Lib.hid (DC.out.away BX.out g5 (OUT.out.ts));have UPC:=Lib.hid (show Calls Try.prog 9 #[.pointer (some ⟨c,0,none⟩)] w5 (fun e w'=>e=.returned (.bool m.up)∧w5=w') from up_dd (m:=m.re cp' tl') DC5.out);clear d5 o5 p5 g5))
      have UPC1:=UPC.out
      rw[HU.out] at UPC1
      have UPC2:=Lib.hid UPC1
      clear UPC1
      go_upto_region 17 with(first
       |(go_at_call 9;(with_reducible refine UPC2.out.mono ?_);rintro e w7 ⟨rfl,rfl⟩))
      have D5':=Lib.hid (show Dd w5 W0.heap.size g gb H5 cs5 cw5 ch5 m from by have:=D5.out;rwa [HI.out] at this)
      have OUT5:=Lib.hid (OUT.out.next (Nat.le_refl _) O5.out P5.out)
      have BT5:=Lib.hid (show Below w5.heap.size w5 (w5.alloc (.cells #[.bool true,.bool true,.bool false,.bool true] 4)) from(Below.refl _ _).alloc (Nat.le_refl _) _)
      have SL5:=Lib.hid (show Sl (w5.alloc (.cells #[.bool true,.bool true,.bool false,.bool true] 4)) (some ⟨w5.heap.size,0,none⟩) 4 (tftt.map Value.bool) from Sl.of_bl (Bl.new_ w5 _ _) 0 _ _ rfl fun k v hk=>by rw[Nat.zero_add];simpa[tftt] using hk)
      have D5a:=Lib.hid (D5'.out.below BT5.out)
      have DC5a:=Lib.hid (DC5.out.below BT5.out)
      have LD:=Lib.hid (Lose_dd D5a.out (by have:=HM.out.2.1;omega) (some ⟨w5.heap.size,0,none⟩) 4 4 tftt SL5.out (by decide) (by unfold maxLen;decide) (fun e=>by cases e) (fun ad e _=>by cases e;show w5.heap.size≠gb;have:=Bl.lt D5'.out.byt;omega))
      obtain⟨m7,hm7⟩:∃m7,m.lose tftt=m7:=⟨_,rfl⟩
      have HM7:=Lib.hid hm7
      have hs7:m7.ss.length≤1500:=by rw[←hm7,M.lose_size];have:=HM.out.1;omega
      clear hm7
      go_upto_region 18 with(go_at_call 14;(with_reducible refine LD.out.mono ?_);rintro e w6 ⟨⟨v6,rfl⟩,H6,d6,o6,g6⟩;rw[HM7.out] at d6;have D6:=Lib.hid d6;have O6:=Lib.hid o6;have G6:=Lib.hid g6;clear d6 o6 g6)
      have DC6:=Lib.hid (DC5a.out.away BX.out G6.out OUT5.out.ts)
      have OUT6:=Lib.hid (show Out w3.heap.size w4.heap.size g gb H6 ch5 from⟨OUT5.out.1,OUT5.out.2.1,fun b hb=>OUT5.out.2.2.1 b (by rw[←O6.out];exact hb),OUT5.out.2.2.2⟩)
      have BT6:=Lib.hid (show Below w6.heap.size w6 (w6.alloc (.cells #[.bool true,.bool true,.bool false,.bool true] 4)) from(Below.refl _ _).alloc (Nat.le_refl _) _)
      have SL6:=Lib.hid (show Sl (w6.alloc (.cells #[.bool true,.bool true,.bool false,.bool true] 4)) (some ⟨w6.heap.size,0,none⟩) 4 (tftt.map Value.bool) from Sl.of_bl (Bl.new_ w6 _ _) 0 _ _ rfl fun k v hk=>by rw[Nat.zero_add];simpa[tftt] using hk)
      have D6a:=Lib.hid (D6.out.below BT6.out)
      have DC6a:=Lib.hid (DC6.out.below BT6.out)
      have LCC:=Lib.hid (Lose_dd DC6a.out (by show m.hd.length < 1000000;have:=HM.out.2.1;omega) (some ⟨w6.heap.size,0,none⟩) 4 4 tftt SL6.out (by decide) (by unfold maxLen;decide) (fun e=>by cases e) (fun ad e _=>by cases e;show w6.heap.size≠cb;have:=Bl.lt DC6.out.byt;omega))
      go_upto_region 19 with(go_at_call 14;(with_reducible refine LCC.out.mono ?_);rintro e w7 ⟨⟨v7,rfl⟩,H7,d7,o7,g7⟩;rw[lose_re,HM7.out] at d7;have DC7:=Lib.hid d7;have G7:=Lib.hid g7;clear d7 o7 g7)
      have D7:=Lib.hid (D6a.out.off_box OUT6.out G7.out BX.out.ts)
      have BC7:=bytes_new D7.out hs7
      obtain⟨X,hX⟩:∃X,m7.ss.flatten=X:=⟨_,rfl⟩
      rw[hX] at BC7
      have HX:=Lib.hid hX
      have BC7:=Lib.hid BC7
      have BB5:=Lib.hid (BB4.out.trans ((ts_below D4.out G5.out).mono BW.out.size))
      have BB6:=Lib.hid (BB5.out.trans ((BT5.out.mono BB5.out.size).trans ((ts_below D5a.out G6.out).mono BW.out.size)))
      have BB7:=Lib.hid (BB6.out.trans ((BT6.out.mono BB6.out.size).trans ((ts_below DC6a.out G7.out).mono (Nat.le_trans BB1.out.size B3.out.size))))
      clear hX
      go_wp2_with (first
       |(go_at_call 13;(with_reducible refine BC7.out.mono ?_);rintro e w8 ⟨q8,c8,rfl,k1,-, -, k3⟩;have S8:=Lib.hid k1;have B8:=Lib.hid k3;have D8:=Lib.hid (D7.out.below k3);have DC8:=Lib.hid (DC7.out.below k3);have BC8:=bytes_new DC8.out (show(m7.re cp' tl').ss.length≤1500 from hs7);rw[show(m7.re cp' tl').ss.flatten=X from HX.out] at BC8;have BC8:=Lib.hid BC8;clear k1 k3)
       |(go_at_call 13;(with_reducible refine BC8.out.mono ?_);rintro e w9 ⟨q9,c9,rfl,k1,-, -, k3⟩;have B9:=Lib.hid k3;have D9:=Lib.hid (D8.out.below k3);have DC9:=Lib.hid (DC8.out.below k3);have SB:=same_any (some ⟨q8,0,none⟩) (some ⟨q9,0,none⟩) X.length X.length c8 c9 X X w9 (S8.out.below k3) k1;rw[decide_eq_true rfl] at SB;have SB:=Lib.hid SB;have SR:=Lib.hid (strokes_dd D9.out);have SRC:=Lib.hid (show Calls Try.prog 27 #[.pointer (some ⟨c,0,none⟩)] w9 (fun e w'=>e=.returned (.int .i64 (m7.st:Int))∧w9=w') from strokes_dd (m:=m7.re cp' tl') DC9.out);have UR:=Lib.hid (up_dd D9.out);have URC:=Lib.hid (show Calls Try.prog 9 #[.pointer (some ⟨c,0,none⟩)] w9 (fun e w'=>e=.returned (.bool m7.up)∧w9=w') from up_dd (m:=m7.re cp' tl') DC9.out);clear k1 k3)
       |(go_at_call 15;(with_reducible refine SB.out.mono ?_);rintro e wa ⟨rfl,rfl⟩)
       |(go_at_call 27;(with_reducible refine SR.out.mono ?_);rintro e wb ⟨rfl,rfl⟩)
       |(go_at_call 27;(with_reducible refine SRC.out.mono ?_);rintro e wb ⟨rfl,rfl⟩)
       |(go_at_call 9;(with_reducible refine UR.out.mono ?_);rintro e wc ⟨rfl,rfl⟩)
       |(go_at_call 9;(with_reducible refine URC.out.mono ?_);rintro e wc ⟨rfl,rfl⟩)
       |(go_at_call 10;(with_reducible refine(KN.out _).mono ?_);rintro e wd ⟨rfl,hbd⟩;have BD:=Lib.hid hbd;clear hbd))
      go_ret
      have b9:=BB7.out.trans ((B8.out.trans (B9.out.mono B8.out.size)).mono BB7.out.size)
      exact⟨rfl,b9.trans (BD.out.mono b9.size)⟩
    ·have q6:(E == 60)=false:=by rw[beq_eq_false_iff_ne];exact e6
     have hidle:R.2=m:=(ID (by omega)).resolve_left (fun h=>e6 (by rw[←hE,h.1];rfl))
     have HI:=Lib.hid hidle
     clear ID hE e0 e6 hidle
     go_upto_region 17 with(first
      |(go_at_call 18;(with_reducible refine ST.out.mono ?_);rintro e w5 ⟨rfl,H5,cs5,cw5,ch5,d5,o5,p5,g5⟩;have D5:=Lib.hid d5;have O5:=Lib.hid o5;have P5:=Lib.hid p5;have G5:=Lib.hid g5;have DC5:=Lib.hid (DC.out.away BX.out g5 (OUT.out.ts));have UPC:=Lib.hid (show Calls Try.prog 9 #[.pointer (some ⟨c,0,none⟩)] w5 (fun e w'=>e=.returned (.bool m.up)∧w5=w') from up_dd (m:=m.re cp' tl') DC5.out);clear d5 o5 p5 g5))
     have D5':=Lib.hid (show Dd w5 W0.heap.size g gb H5 cs5 cw5 ch5 m from by have:=D5.out;rwa [HI.out] at this)
     have OUT5:=Lib.hid (OUT.out.next (Nat.le_refl _) O5.out P5.out)
     have BT5:=Lib.hid (show Below w5.heap.size w5 (w5.alloc (.cells #[.bool true,.bool true,.bool false,.bool true] 4)) from(Below.refl _ _).alloc (Nat.le_refl _) _)
     have SL5:=Lib.hid (show Sl (w5.alloc (.cells #[.bool true,.bool true,.bool false,.bool true] 4)) (some ⟨w5.heap.size,0,none⟩) 4 (tftt.map Value.bool) from Sl.of_bl (Bl.new_ w5 _ _) 0 _ _ rfl fun k v hk=>by rw[Nat.zero_add];simpa[tftt] using hk)
     have D5a:=Lib.hid (D5'.out.below BT5.out)
     have DC5a:=Lib.hid (DC5.out.below BT5.out)
     have LD:=Lib.hid (Lose_dd D5a.out (by have:=HM.out.2.1;omega) (some ⟨w5.heap.size,0,none⟩) 4 4 tftt SL5.out (by decide) (by unfold maxLen;decide) (fun e=>by cases e) (fun ad e _=>by cases e;show w5.heap.size≠gb;have:=Bl.lt D5'.out.byt;omega))
     obtain⟨m7,hm7⟩:∃m7,m.lose tftt=m7:=⟨_,rfl⟩
     have HM7:=Lib.hid hm7
     have hs7:m7.ss.length≤1500:=by rw[←hm7,M.lose_size];have:=HM.out.1;omega
     clear hm7
     go_upto_region 18 with(go_at_call 14;(with_reducible refine LD.out.mono ?_);rintro e w6 ⟨⟨v6,rfl⟩,H6,d6,o6,g6⟩;rw[HM7.out] at d6;have D6:=Lib.hid d6;have O6:=Lib.hid o6;have G6:=Lib.hid g6;clear d6 o6 g6)
     have DC6:=Lib.hid (DC5a.out.away BX.out G6.out OUT5.out.ts)
     have OUT6:=Lib.hid (show Out w3.heap.size w4.heap.size g gb H6 ch5 from⟨OUT5.out.1,OUT5.out.2.1,fun b hb=>OUT5.out.2.2.1 b (by rw[←O6.out];exact hb),OUT5.out.2.2.2⟩)
     have BT6:=Lib.hid (show Below w6.heap.size w6 (w6.alloc (.cells #[.bool true,.bool true,.bool false,.bool true] 4)) from(Below.refl _ _).alloc (Nat.le_refl _) _)
     have SL6:=Lib.hid (show Sl (w6.alloc (.cells #[.bool true,.bool true,.bool false,.bool true] 4)) (some ⟨w6.heap.size,0,none⟩) 4 (tftt.map Value.bool) from Sl.of_bl (Bl.new_ w6 _ _) 0 _ _ rfl fun k v hk=>by rw[Nat.zero_add];simpa[tftt] using hk)
     have D6a:=Lib.hid (D6.out.below BT6.out)
     have DC6a:=Lib.hid (DC6.out.below BT6.out)
     have LCC:=Lib.hid (Lose_dd DC6a.out (by show m.hd.length < 1000000;have:=HM.out.2.1;omega) (some ⟨w6.heap.size,0,none⟩) 4 4 tftt SL6.out (by decide) (by unfold maxLen;decide) (fun e=>by cases e) (fun ad e _=>by cases e;show w6.heap.size≠cb;have:=Bl.lt DC6.out.byt;omega))
     go_upto_region 19 with(go_at_call 14;(with_reducible refine LCC.out.mono ?_);rintro e w7 ⟨⟨v7,rfl⟩,H7,d7,o7,g7⟩;rw[lose_re,HM7.out] at d7;have DC7:=Lib.hid d7;have G7:=Lib.hid g7;clear d7 o7 g7)
     have D7:=Lib.hid (D6a.out.off_box OUT6.out G7.out BX.out.ts)
     have BC7:=bytes_new D7.out hs7
     obtain⟨X,hX⟩:∃X,m7.ss.flatten=X:=⟨_,rfl⟩
     rw[hX] at BC7
     have HX:=Lib.hid hX
     have BC7:=Lib.hid BC7
     have BB5:=Lib.hid (BB4.out.trans ((ts_below D4.out G5.out).mono BW.out.size))
     have BB6:=Lib.hid (BB5.out.trans ((BT5.out.mono BB5.out.size).trans ((ts_below D5a.out G6.out).mono BW.out.size)))
     have BB7:=Lib.hid (BB6.out.trans ((BT6.out.mono BB6.out.size).trans ((ts_below DC6a.out G7.out).mono (Nat.le_trans BB1.out.size B3.out.size))))
     clear hX
     go_wp2_with (first
      |(go_at_call 13;(with_reducible refine BC7.out.mono ?_);rintro e w8 ⟨q8,c8,rfl,k1,-, -, k3⟩;have S8:=Lib.hid k1;have B8:=Lib.hid k3;have D8:=Lib.hid (D7.out.below k3);have DC8:=Lib.hid (DC7.out.below k3);have BC8:=bytes_new DC8.out (show(m7.re cp' tl').ss.length≤1500 from hs7);rw[show(m7.re cp' tl').ss.flatten=X from HX.out] at BC8;have BC8:=Lib.hid BC8;clear k1 k3)
      |(go_at_call 13;(with_reducible refine BC8.out.mono ?_);rintro e w9 ⟨q9,c9,rfl,k1,-, -, k3⟩;have B9:=Lib.hid k3;have D9:=Lib.hid (D8.out.below k3);have DC9:=Lib.hid (DC8.out.below k3);have SB:=same_any (some ⟨q8,0,none⟩) (some ⟨q9,0,none⟩) X.length X.length c8 c9 X X w9 (S8.out.below k3) k1;rw[decide_eq_true rfl] at SB;have SB:=Lib.hid SB;have SR:=Lib.hid (strokes_dd D9.out);have SRC:=Lib.hid (show Calls Try.prog 27 #[.pointer (some ⟨c,0,none⟩)] w9 (fun e w'=>e=.returned (.int .i64 (m7.st:Int))∧w9=w') from strokes_dd (m:=m7.re cp' tl') DC9.out);have UR:=Lib.hid (up_dd D9.out);have URC:=Lib.hid (show Calls Try.prog 9 #[.pointer (some ⟨c,0,none⟩)] w9 (fun e w'=>e=.returned (.bool m7.up)∧w9=w') from up_dd (m:=m7.re cp' tl') DC9.out);clear k1 k3)
      |(go_at_call 15;(with_reducible refine SB.out.mono ?_);rintro e wa ⟨rfl,rfl⟩)
      |(go_at_call 27;(with_reducible refine SR.out.mono ?_);rintro e wb ⟨rfl,rfl⟩)
      |(go_at_call 27;(with_reducible refine SRC.out.mono ?_);rintro e wb ⟨rfl,rfl⟩)
      |(go_at_call 9;(with_reducible refine UR.out.mono ?_);rintro e wc ⟨rfl,rfl⟩)
      |(go_at_call 9;(with_reducible refine URC.out.mono ?_);rintro e wc ⟨rfl,rfl⟩)
      |(go_at_call 10;(with_reducible refine(KN.out _).mono ?_);rintro e wd ⟨rfl,hbd⟩;have BD:=Lib.hid hbd;clear hbd))
     go_ret
     have b9:=BB7.out.trans ((B8.out.trans (B9.out.mono B8.out.size)).mono BB7.out.size)
     exact⟨rfl,b9.trans (BD.out.mono b9.size)⟩
  by_cases k3:o.kd=3
  ·rw[k3] at y0
   have ST0:Calls Try.prog 28 #[.pointer (some ⟨g,0,none⟩),.int .i64 o.nn,.slice o.cA o.cn o.cc] w4 (IdQ w4 W0.heap.size g gb H ch (m.set o.nn o.cl)):=(Set_dd D4.out o.nn OK4.out.n9 o.cA o.cn o.cc o.cl OK4.out.c (fun e=>by have:=OK4.out.c0 e;have:=OK4.out.c1;omega)).mono fun e w' h=>h.id
   have ID:=(fun h=>.inr (set_idle m o.nn o.cl h):(m.set o.nn o.cl).1≠0→((m.set o.nn o.cl).1=60∧m.up=true)∨(m.set o.nn o.cl).2=m)
   obtain⟨R,hR⟩:∃R,(m.set o.nn o.cl)=R:=⟨_,rfl⟩
   rw[hR] at ST0 ID
   obtain⟨E,hE⟩:∃E:Int,((R.1:Nat):Int)=E:=⟨_,rfl⟩
   have ST:=Lib.hid (ST0.mono fun e w' (h:IdQ w4 W0.heap.size g gb H ch R e w')=>show e=.returned (.int .i64 E)∧∃H1 cs1 cw1 ch1,Dd w' W0.heap.size g gb H1 cs1 cw1 ch1 R.2∧(H1.ownBlock=H.ownBlock∨∃q,H1.ownBlock=some q∧w4.heap.size≤q)∧(ch1=ch∨∀q,ch1.ownBlock=some q→w4.heap.size≤q)∧Gx (Ts g gb H) w4 w' from⟨by rw[←hE];exact h.1,h.2⟩)
   clear ST0 hR
   by_cases e0:E=0
   ·subst e0
    go_wp2_with (first
     |(go_at_call 28;(with_reducible refine ST.out.mono ?_);rintro e w5 ⟨rfl,H5,cs5,cw5,ch5,d5,o5,p5,g5⟩;have D5:=Lib.hid d5;have O5:=Lib.hid o5;have P5:=Lib.hid p5;have G5:=Lib.hid g5;have DC5:=Lib.hid (DC.out.away BX.out g5 (OUT.out.ts));have UPC:=Lib.hid (show Calls Try.prog 9 #[.pointer (some ⟨c,0,none⟩)] w5 (fun e w'=>e=.returned (.bool m.up)∧w5=w') from up_dd (m:=m.re cp' tl') DC5.out);clear d5 o5 p5 g5)
     |(go_at_call 10;(with_reducible refine(KN.out _).mono ?_);rintro e w6 ⟨rfl,hb6⟩;have B6:=Lib.hid hb6;clear hb6))
    go_ret
    have b5:=BB4.out.trans ((ts_below D4.out G5.out).mono BW.out.size)
    exact⟨rfl,b5.trans (B6.out.mono b5.size)⟩
   ·have q0:(E == 0)=false:=by rw[beq_eq_false_iff_ne];exact e0
    by_cases e6:E=60
    ·have q6:(E == 60)=true:=by rw[e6];rfl
     cases hu:m.up with
     |true =>
      have HU:=Lib.hid hu
      clear ID hE e0 e6 hu
      go_upto_region 15 with(first
       |(go_at_call 28;(with_reducible refine ST.out.mono ?_);rintro e w5 ⟨rfl,H5,cs5,cw5,ch5,d5,o5,p5,g5⟩;have D5:=Lib.hid d5;have O5:=Lib.hid o5;have P5:=Lib.hid p5;have G5:=Lib.hid g5;have DC5:=Lib.hid (DC.out.away BX.out g5 (OUT.out.ts));have UPC:=Lib.hid (show Calls Try.prog 9 #[.pointer (some ⟨c,0,none⟩)] w5 (fun e w'=>e=.returned (.bool m.up)∧w5=w') from up_dd (m:=m.re cp' tl') DC5.out);clear d5 o5 p5 g5))
      have UPC1:=UPC.out
      rw[HU.out] at UPC1
      have UPC2:=Lib.hid UPC1
      clear UPC1
      go_wp2_with (first
       |(go_at_call 9;(with_reducible refine UPC2.out.mono ?_);rintro e w7 ⟨rfl,rfl⟩)
       |(go_at_call 10;(with_reducible refine(KN.out _).mono ?_);rintro e w6 ⟨rfl,hb6⟩;have B6:=Lib.hid hb6;clear hb6))
      go_ret
      have b5:=BB4.out.trans ((ts_below D4.out G5.out).mono BW.out.size)
      exact⟨rfl,b5.trans (B6.out.mono b5.size)⟩
     |false =>
      have HU:=Lib.hid hu
      have hidle:R.2=m:=(ID (by omega)).resolve_left (by rw[hu];exact fun h=>by cases h.2)
      have HI:=Lib.hid hidle
      clear ID hE e0 e6 hu hidle
      go_upto_region 15 with(first
       |(go_at_call 28;(with_reducible refine ST.out.mono ?_);rintro e w5 ⟨rfl,H5,cs5,cw5,ch5,d5,o5,p5,g5⟩;have D5:=Lib.hid d5;have O5:=Lib.hid o5;have P5:=Lib.hid p5;have G5:=Lib.hid g5;have DC5:=Lib.hid (DC.out.away BX.out g5 (OUT.out.ts));have UPC:=Lib.hid (show Calls Try.prog 9 #[.pointer (some ⟨c,0,none⟩)] w5 (fun e w'=>e=.returned (.bool m.up)∧w5=w') from up_dd (m:=m.re cp' tl') DC5.out);clear d5 o5 p5 g5))
      have UPC1:=UPC.out
      rw[HU.out] at UPC1
      have UPC2:=Lib.hid UPC1
      clear UPC1
      go_upto_region 17 with(first
       |(go_at_call 9;(with_reducible refine UPC2.out.mono ?_);rintro e w7 ⟨rfl,rfl⟩))
      have D5':=Lib.hid (show Dd w5 W0.heap.size g gb H5 cs5 cw5 ch5 m from by have:=D5.out;rwa [HI.out] at this)
      have OUT5:=Lib.hid (OUT.out.next (Nat.le_refl _) O5.out P5.out)
      have BT5:=Lib.hid (show Below w5.heap.size w5 (w5.alloc (.cells #[.bool true,.bool true,.bool false,.bool true] 4)) from(Below.refl _ _).alloc (Nat.le_refl _) _)
      have SL5:=Lib.hid (show Sl (w5.alloc (.cells #[.bool true,.bool true,.bool false,.bool true] 4)) (some ⟨w5.heap.size,0,none⟩) 4 (tftt.map Value.bool) from Sl.of_bl (Bl.new_ w5 _ _) 0 _ _ rfl fun k v hk=>by rw[Nat.zero_add];simpa[tftt] using hk)
      have D5a:=Lib.hid (D5'.out.below BT5.out)
      have DC5a:=Lib.hid (DC5.out.below BT5.out)
      have LD:=Lib.hid (Lose_dd D5a.out (by have:=HM.out.2.1;omega) (some ⟨w5.heap.size,0,none⟩) 4 4 tftt SL5.out (by decide) (by unfold maxLen;decide) (fun e=>by cases e) (fun ad e _=>by cases e;show w5.heap.size≠gb;have:=Bl.lt D5'.out.byt;omega))
      obtain⟨m7,hm7⟩:∃m7,m.lose tftt=m7:=⟨_,rfl⟩
      have HM7:=Lib.hid hm7
      have hs7:m7.ss.length≤1500:=by rw[←hm7,M.lose_size];have:=HM.out.1;omega
      clear hm7
      go_upto_region 18 with(go_at_call 14;(with_reducible refine LD.out.mono ?_);rintro e w6 ⟨⟨v6,rfl⟩,H6,d6,o6,g6⟩;rw[HM7.out] at d6;have D6:=Lib.hid d6;have O6:=Lib.hid o6;have G6:=Lib.hid g6;clear d6 o6 g6)
      have DC6:=Lib.hid (DC5a.out.away BX.out G6.out OUT5.out.ts)
      have OUT6:=Lib.hid (show Out w3.heap.size w4.heap.size g gb H6 ch5 from⟨OUT5.out.1,OUT5.out.2.1,fun b hb=>OUT5.out.2.2.1 b (by rw[←O6.out];exact hb),OUT5.out.2.2.2⟩)
      have BT6:=Lib.hid (show Below w6.heap.size w6 (w6.alloc (.cells #[.bool true,.bool true,.bool false,.bool true] 4)) from(Below.refl _ _).alloc (Nat.le_refl _) _)
      have SL6:=Lib.hid (show Sl (w6.alloc (.cells #[.bool true,.bool true,.bool false,.bool true] 4)) (some ⟨w6.heap.size,0,none⟩) 4 (tftt.map Value.bool) from Sl.of_bl (Bl.new_ w6 _ _) 0 _ _ rfl fun k v hk=>by rw[Nat.zero_add];simpa[tftt] using hk)
      have D6a:=Lib.hid (D6.out.below BT6.out)
      have DC6a:=Lib.hid (DC6.out.below BT6.out)
      have LCC:=Lib.hid (Lose_dd DC6a.out (by show m.hd.length < 1000000;have:=HM.out.2.1;omega) (some ⟨w6.heap.size,0,none⟩) 4 4 tftt SL6.out (by decide) (by unfold maxLen;decide) (fun e=>by cases e) (fun ad e _=>by cases e;show w6.heap.size≠cb;have:=Bl.lt DC6.out.byt;omega))
      go_upto_region 19 with(go_at_call 14;(with_reducible refine LCC.out.mono ?_);rintro e w7 ⟨⟨v7,rfl⟩,H7,d7,o7,g7⟩;rw[lose_re,HM7.out] at d7;have DC7:=Lib.hid d7;have G7:=Lib.hid g7;clear d7 o7 g7)
      have D7:=Lib.hid (D6a.out.off_box OUT6.out G7.out BX.out.ts)
      have BC7:=bytes_new D7.out hs7
      obtain⟨X,hX⟩:∃X,m7.ss.flatten=X:=⟨_,rfl⟩
      rw[hX] at BC7
      have HX:=Lib.hid hX
      have BC7:=Lib.hid BC7
      have BB5:=Lib.hid (BB4.out.trans ((ts_below D4.out G5.out).mono BW.out.size))
      have BB6:=Lib.hid (BB5.out.trans ((BT5.out.mono BB5.out.size).trans ((ts_below D5a.out G6.out).mono BW.out.size)))
      have BB7:=Lib.hid (BB6.out.trans ((BT6.out.mono BB6.out.size).trans ((ts_below DC6a.out G7.out).mono (Nat.le_trans BB1.out.size B3.out.size))))
      clear hX
      go_wp2_with (first
       |(go_at_call 13;(with_reducible refine BC7.out.mono ?_);rintro e w8 ⟨q8,c8,rfl,k1,-, -, k3⟩;have S8:=Lib.hid k1;have B8:=Lib.hid k3;have D8:=Lib.hid (D7.out.below k3);have DC8:=Lib.hid (DC7.out.below k3);have BC8:=bytes_new DC8.out (show(m7.re cp' tl').ss.length≤1500 from hs7);rw[show(m7.re cp' tl').ss.flatten=X from HX.out] at BC8;have BC8:=Lib.hid BC8;clear k1 k3)
       |(go_at_call 13;(with_reducible refine BC8.out.mono ?_);rintro e w9 ⟨q9,c9,rfl,k1,-, -, k3⟩;have B9:=Lib.hid k3;have D9:=Lib.hid (D8.out.below k3);have DC9:=Lib.hid (DC8.out.below k3);have SB:=same_any (some ⟨q8,0,none⟩) (some ⟨q9,0,none⟩) X.length X.length c8 c9 X X w9 (S8.out.below k3) k1;rw[decide_eq_true rfl] at SB;have SB:=Lib.hid SB;have SR:=Lib.hid (strokes_dd D9.out);have SRC:=Lib.hid (show Calls Try.prog 27 #[.pointer (some ⟨c,0,none⟩)] w9 (fun e w'=>e=.returned (.int .i64 (m7.st:Int))∧w9=w') from strokes_dd (m:=m7.re cp' tl') DC9.out);have UR:=Lib.hid (up_dd D9.out);have URC:=Lib.hid (show Calls Try.prog 9 #[.pointer (some ⟨c,0,none⟩)] w9 (fun e w'=>e=.returned (.bool m7.up)∧w9=w') from up_dd (m:=m7.re cp' tl') DC9.out);clear k1 k3)
       |(go_at_call 15;(with_reducible refine SB.out.mono ?_);rintro e wa ⟨rfl,rfl⟩)
       |(go_at_call 27;(with_reducible refine SR.out.mono ?_);rintro e wb ⟨rfl,rfl⟩)
       |(go_at_call 27;(with_reducible refine SRC.out.mono ?_);rintro e wb ⟨rfl,rfl⟩)
       |(go_at_call 9;(with_reducible refine UR.out.mono ?_);rintro e wc ⟨rfl,rfl⟩)
       |(go_at_call 9;(with_reducible refine URC.out.mono ?_);rintro e wc ⟨rfl,rfl⟩)
       |(go_at_call 10;(with_reducible refine(KN.out _).mono ?_);rintro e wd ⟨rfl,hbd⟩;have BD:=Lib.hid hbd;clear hbd))
      go_ret
      have b9:=BB7.out.trans ((B8.out.trans (B9.out.mono B8.out.size)).mono BB7.out.size)
      exact⟨rfl,b9.trans (BD.out.mono b9.size)⟩
    ·have q6:(E == 60)=false:=by rw[beq_eq_false_iff_ne];exact e6
     have hidle:R.2=m:=(ID (by omega)).resolve_left (fun h=>e6 (by rw[←hE,h.1];rfl))
     have HI:=Lib.hid hidle
     clear ID hE e0 e6 hidle
     go_upto_region 17 with(first
      |(go_at_call 28;(with_reducible refine ST.out.mono ?_);rintro e w5 ⟨rfl,H5,cs5,cw5,ch5,d5,o5,p5,g5⟩;have D5:=Lib.hid d5;have O5:=Lib.hid o5;have P5:=Lib.hid p5;have G5:=Lib.hid g5;have DC5:=Lib.hid (DC.out.away BX.out g5 (OUT.out.ts));have UPC:=Lib.hid (show Calls Try.prog 9 #[.pointer (some ⟨c,0,none⟩)] w5 (fun e w'=>e=.returned (.bool m.up)∧w5=w') from up_dd (m:=m.re cp' tl') DC5.out);clear d5 o5 p5 g5))
     have D5':=Lib.hid (show Dd w5 W0.heap.size g gb H5 cs5 cw5 ch5 m from by have:=D5.out;rwa [HI.out] at this)
     have OUT5:=Lib.hid (OUT.out.next (Nat.le_refl _) O5.out P5.out)
     have BT5:=Lib.hid (show Below w5.heap.size w5 (w5.alloc (.cells #[.bool true,.bool true,.bool false,.bool true] 4)) from(Below.refl _ _).alloc (Nat.le_refl _) _)
     have SL5:=Lib.hid (show Sl (w5.alloc (.cells #[.bool true,.bool true,.bool false,.bool true] 4)) (some ⟨w5.heap.size,0,none⟩) 4 (tftt.map Value.bool) from Sl.of_bl (Bl.new_ w5 _ _) 0 _ _ rfl fun k v hk=>by rw[Nat.zero_add];simpa[tftt] using hk)
     have D5a:=Lib.hid (D5'.out.below BT5.out)
     have DC5a:=Lib.hid (DC5.out.below BT5.out)
     have LD:=Lib.hid (Lose_dd D5a.out (by have:=HM.out.2.1;omega) (some ⟨w5.heap.size,0,none⟩) 4 4 tftt SL5.out (by decide) (by unfold maxLen;decide) (fun e=>by cases e) (fun ad e _=>by cases e;show w5.heap.size≠gb;have:=Bl.lt D5'.out.byt;omega))
     obtain⟨m7,hm7⟩:∃m7,m.lose tftt=m7:=⟨_,rfl⟩
     have HM7:=Lib.hid hm7
     have hs7:m7.ss.length≤1500:=by rw[←hm7,M.lose_size];have:=HM.out.1;omega
     clear hm7
     go_upto_region 18 with(go_at_call 14;(with_reducible refine LD.out.mono ?_);rintro e w6 ⟨⟨v6,rfl⟩,H6,d6,o6,g6⟩;rw[HM7.out] at d6;have D6:=Lib.hid d6;have O6:=Lib.hid o6;have G6:=Lib.hid g6;clear d6 o6 g6)
     have DC6:=Lib.hid (DC5a.out.away BX.out G6.out OUT5.out.ts)
     have OUT6:=Lib.hid (show Out w3.heap.size w4.heap.size g gb H6 ch5 from⟨OUT5.out.1,OUT5.out.2.1,fun b hb=>OUT5.out.2.2.1 b (by rw[←O6.out];exact hb),OUT5.out.2.2.2⟩)
     have BT6:=Lib.hid (show Below w6.heap.size w6 (w6.alloc (.cells #[.bool true,.bool true,.bool false,.bool true] 4)) from(Below.refl _ _).alloc (Nat.le_refl _) _)
     have SL6:=Lib.hid (show Sl (w6.alloc (.cells #[.bool true,.bool true,.bool false,.bool true] 4)) (some ⟨w6.heap.size,0,none⟩) 4 (tftt.map Value.bool) from Sl.of_bl (Bl.new_ w6 _ _) 0 _ _ rfl fun k v hk=>by rw[Nat.zero_add];simpa[tftt] using hk)
     have D6a:=Lib.hid (D6.out.below BT6.out)
     have DC6a:=Lib.hid (DC6.out.below BT6.out)
     have LCC:=Lib.hid (Lose_dd DC6a.out (by show m.hd.length < 1000000;have:=HM.out.2.1;omega) (some ⟨w6.heap.size,0,none⟩) 4 4 tftt SL6.out (by decide) (by unfold maxLen;decide) (fun e=>by cases e) (fun ad e _=>by cases e;show w6.heap.size≠cb;have:=Bl.lt DC6.out.byt;omega))
     go_upto_region 19 with(go_at_call 14;(with_reducible refine LCC.out.mono ?_);rintro e w7 ⟨⟨v7,rfl⟩,H7,d7,o7,g7⟩;rw[lose_re,HM7.out] at d7;have DC7:=Lib.hid d7;have G7:=Lib.hid g7;clear d7 o7 g7)
     have D7:=Lib.hid (D6a.out.off_box OUT6.out G7.out BX.out.ts)
     have BC7:=bytes_new D7.out hs7
     obtain⟨X,hX⟩:∃X,m7.ss.flatten=X:=⟨_,rfl⟩
     rw[hX] at BC7
     have HX:=Lib.hid hX
     have BC7:=Lib.hid BC7
     have BB5:=Lib.hid (BB4.out.trans ((ts_below D4.out G5.out).mono BW.out.size))
     have BB6:=Lib.hid (BB5.out.trans ((BT5.out.mono BB5.out.size).trans ((ts_below D5a.out G6.out).mono BW.out.size)))
     have BB7:=Lib.hid (BB6.out.trans ((BT6.out.mono BB6.out.size).trans ((ts_below DC6a.out G7.out).mono (Nat.le_trans BB1.out.size B3.out.size))))
     clear hX
     go_wp2_with (first
      |(go_at_call 13;(with_reducible refine BC7.out.mono ?_);rintro e w8 ⟨q8,c8,rfl,k1,-, -, k3⟩;have S8:=Lib.hid k1;have B8:=Lib.hid k3;have D8:=Lib.hid (D7.out.below k3);have DC8:=Lib.hid (DC7.out.below k3);have BC8:=bytes_new DC8.out (show(m7.re cp' tl').ss.length≤1500 from hs7);rw[show(m7.re cp' tl').ss.flatten=X from HX.out] at BC8;have BC8:=Lib.hid BC8;clear k1 k3)
      |(go_at_call 13;(with_reducible refine BC8.out.mono ?_);rintro e w9 ⟨q9,c9,rfl,k1,-, -, k3⟩;have B9:=Lib.hid k3;have D9:=Lib.hid (D8.out.below k3);have DC9:=Lib.hid (DC8.out.below k3);have SB:=same_any (some ⟨q8,0,none⟩) (some ⟨q9,0,none⟩) X.length X.length c8 c9 X X w9 (S8.out.below k3) k1;rw[decide_eq_true rfl] at SB;have SB:=Lib.hid SB;have SR:=Lib.hid (strokes_dd D9.out);have SRC:=Lib.hid (show Calls Try.prog 27 #[.pointer (some ⟨c,0,none⟩)] w9 (fun e w'=>e=.returned (.int .i64 (m7.st:Int))∧w9=w') from strokes_dd (m:=m7.re cp' tl') DC9.out);have UR:=Lib.hid (up_dd D9.out);have URC:=Lib.hid (show Calls Try.prog 9 #[.pointer (some ⟨c,0,none⟩)] w9 (fun e w'=>e=.returned (.bool m7.up)∧w9=w') from up_dd (m:=m7.re cp' tl') DC9.out);clear k1 k3)
      |(go_at_call 15;(with_reducible refine SB.out.mono ?_);rintro e wa ⟨rfl,rfl⟩)
      |(go_at_call 27;(with_reducible refine SR.out.mono ?_);rintro e wb ⟨rfl,rfl⟩)
      |(go_at_call 27;(with_reducible refine SRC.out.mono ?_);rintro e wb ⟨rfl,rfl⟩)
      |(go_at_call 9;(with_reducible refine UR.out.mono ?_);rintro e wc ⟨rfl,rfl⟩)
      |(go_at_call 9;(with_reducible refine URC.out.mono ?_);rintro e wc ⟨rfl,rfl⟩)
      |(go_at_call 10;(with_reducible refine(KN.out _).mono ?_);rintro e wd ⟨rfl,hbd⟩;have BD:=Lib.hid hbd;clear hbd))
     go_ret
     have b9:=BB7.out.trans ((B8.out.trans (B9.out.mono B8.out.size)).mono BB7.out.size)
     exact⟨rfl,b9.trans (BD.out.mono b9.size)⟩
  by_cases k8:o.kd=8
  ·rw[k8] at y0
   have ST0:Calls Try.prog 21 #[.pointer (some ⟨g,0,none⟩),.int .i64 o.at_,.slice o.bA o.bn o.bc] w4 (IdQ w4 W0.heap.size g gb H ch (m.save o.at_ o.bs)):=(Save_dd D4.out HM.out.1 o.at_ o.bA o.bn o.bc o.bs OK4.out.b OK4.out.b0 OK4.out.b1 (fun ad e h0=>Nat.lt_of_lt_of_le (OK4.out.b2 ad e h0) BW.out.size) (by have:=OK4.out.b9;omega) (fun _=>by have:=HM.out.2.1;omega) (fun _=>by have:=HM.out.2.2;omega)).mono fun e w' h=>h.id
   have ID:=(fun h=>save_idle m o.at_ o.bs h:(m.save o.at_ o.bs).1≠0→((m.save o.at_ o.bs).1=60∧m.up=true)∨(m.save o.at_ o.bs).2=m)
   obtain⟨R,hR⟩:∃R,(m.save o.at_ o.bs)=R:=⟨_,rfl⟩
   rw[hR] at ST0 ID
   obtain⟨E,hE⟩:∃E:Int,((R.1:Nat):Int)=E:=⟨_,rfl⟩
   have ST:=Lib.hid (ST0.mono fun e w' (h:IdQ w4 W0.heap.size g gb H ch R e w')=>show e=.returned (.int .i64 E)∧∃H1 cs1 cw1 ch1,Dd w' W0.heap.size g gb H1 cs1 cw1 ch1 R.2∧(H1.ownBlock=H.ownBlock∨∃q,H1.ownBlock=some q∧w4.heap.size≤q)∧(ch1=ch∨∀q,ch1.ownBlock=some q→w4.heap.size≤q)∧Gx (Ts g gb H) w4 w' from⟨by rw[←hE];exact h.1,h.2⟩)
   clear ST0 hR
   by_cases e0:E=0
   ·subst e0
    go_wp2_with (first
     |(go_at_call 21;(with_reducible refine ST.out.mono ?_);rintro e w5 ⟨rfl,H5,cs5,cw5,ch5,d5,o5,p5,g5⟩;have D5:=Lib.hid d5;have O5:=Lib.hid o5;have P5:=Lib.hid p5;have G5:=Lib.hid g5;have DC5:=Lib.hid (DC.out.away BX.out g5 (OUT.out.ts));have UPC:=Lib.hid (show Calls Try.prog 9 #[.pointer (some ⟨c,0,none⟩)] w5 (fun e w'=>e=.returned (.bool m.up)∧w5=w') from up_dd (m:=m.re cp' tl') DC5.out);clear d5 o5 p5 g5)
     |(go_at_call 10;(with_reducible refine(KN.out _).mono ?_);rintro e w6 ⟨rfl,hb6⟩;have B6:=Lib.hid hb6;clear hb6))
    go_ret
    have b5:=BB4.out.trans ((ts_below D4.out G5.out).mono BW.out.size)
    exact⟨rfl,b5.trans (B6.out.mono b5.size)⟩
   ·have q0:(E == 0)=false:=by rw[beq_eq_false_iff_ne];exact e0
    by_cases e6:E=60
    ·have q6:(E == 60)=true:=by rw[e6];rfl
     cases hu:m.up with
     |true =>
      have HU:=Lib.hid hu
      clear ID hE e0 e6 hu
      go_upto_region 15 with(first
       |(go_at_call 21;(with_reducible refine ST.out.mono ?_);rintro e w5 ⟨rfl,H5,cs5,cw5,ch5,d5,o5,p5,g5⟩;have D5:=Lib.hid d5;have O5:=Lib.hid o5;have P5:=Lib.hid p5;have G5:=Lib.hid g5;have DC5:=Lib.hid (DC.out.away BX.out g5 (OUT.out.ts));have UPC:=Lib.hid (show Calls Try.prog 9 #[.pointer (some ⟨c,0,none⟩)] w5 (fun e w'=>e=.returned (.bool m.up)∧w5=w') from up_dd (m:=m.re cp' tl') DC5.out);clear d5 o5 p5 g5))
      have UPC1:=UPC.out
      rw[HU.out] at UPC1
      have UPC2:=Lib.hid UPC1
      clear UPC1
      go_wp2_with (first
       |(go_at_call 9;(with_reducible refine UPC2.out.mono ?_);rintro e w7 ⟨rfl,rfl⟩)
       |(go_at_call 10;(with_reducible refine(KN.out _).mono ?_);rintro e w6 ⟨rfl,hb6⟩;have B6:=Lib.hid hb6;clear hb6))
      go_ret
      have b5:=BB4.out.trans ((ts_below D4.out G5.out).mono BW.out.size)
      exact⟨rfl,b5.trans (B6.out.mono b5.size)⟩
     |false =>
      have HU:=Lib.hid hu
      have hidle:R.2=m:=(ID (by omega)).resolve_left (by rw[hu];exact fun h=>by cases h.2)
      have HI:=Lib.hid hidle
      clear ID hE e0 e6 hu hidle
      go_upto_region 15 with(first
       |(go_at_call 21;(with_reducible refine ST.out.mono ?_);rintro e w5 ⟨rfl,H5,cs5,cw5,ch5,d5,o5,p5,g5⟩;have D5:=Lib.hid d5;have O5:=Lib.hid o5;have P5:=Lib.hid p5;have G5:=Lib.hid g5;have DC5:=Lib.hid (DC.out.away BX.out g5 (OUT.out.ts));have UPC:=Lib.hid (show Calls Try.prog 9 #[.pointer (some ⟨c,0,none⟩)] w5 (fun e w'=>e=.returned (.bool m.up)∧w5=w') from up_dd (m:=m.re cp' tl') DC5.out);clear d5 o5 p5 g5))
      have UPC1:=UPC.out
      rw[HU.out] at UPC1
      have UPC2:=Lib.hid UPC1
      clear UPC1
      go_upto_region 17 with(first
       |(go_at_call 9;(with_reducible refine UPC2.out.mono ?_);rintro e w7 ⟨rfl,rfl⟩))
      have D5':=Lib.hid (show Dd w5 W0.heap.size g gb H5 cs5 cw5 ch5 m from by have:=D5.out;rwa [HI.out] at this)
      have OUT5:=Lib.hid (OUT.out.next (Nat.le_refl _) O5.out P5.out)
      have BT5:=Lib.hid (show Below w5.heap.size w5 (w5.alloc (.cells #[.bool true,.bool true,.bool false,.bool true] 4)) from(Below.refl _ _).alloc (Nat.le_refl _) _)
      have SL5:=Lib.hid (show Sl (w5.alloc (.cells #[.bool true,.bool true,.bool false,.bool true] 4)) (some ⟨w5.heap.size,0,none⟩) 4 (tftt.map Value.bool) from Sl.of_bl (Bl.new_ w5 _ _) 0 _ _ rfl fun k v hk=>by rw[Nat.zero_add];simpa[tftt] using hk)
      have D5a:=Lib.hid (D5'.out.below BT5.out)
      have DC5a:=Lib.hid (DC5.out.below BT5.out)
      have LD:=Lib.hid (Lose_dd D5a.out (by have:=HM.out.2.1;omega) (some ⟨w5.heap.size,0,none⟩) 4 4 tftt SL5.out (by decide) (by unfold maxLen;decide) (fun e=>by cases e) (fun ad e _=>by cases e;show w5.heap.size≠gb;have:=Bl.lt D5'.out.byt;omega))
      obtain⟨m7,hm7⟩:∃m7,m.lose tftt=m7:=⟨_,rfl⟩
      have HM7:=Lib.hid hm7
      have hs7:m7.ss.length≤1500:=by rw[←hm7,M.lose_size];have:=HM.out.1;omega
      clear hm7
      go_upto_region 18 with(go_at_call 14;(with_reducible refine LD.out.mono ?_);rintro e w6 ⟨⟨v6,rfl⟩,H6,d6,o6,g6⟩;rw[HM7.out] at d6;have D6:=Lib.hid d6;have O6:=Lib.hid o6;have G6:=Lib.hid g6;clear d6 o6 g6)
      have DC6:=Lib.hid (DC5a.out.away BX.out G6.out OUT5.out.ts)
      have OUT6:=Lib.hid (show Out w3.heap.size w4.heap.size g gb H6 ch5 from⟨OUT5.out.1,OUT5.out.2.1,fun b hb=>OUT5.out.2.2.1 b (by rw[←O6.out];exact hb),OUT5.out.2.2.2⟩)
      have BT6:=Lib.hid (show Below w6.heap.size w6 (w6.alloc (.cells #[.bool true,.bool true,.bool false,.bool true] 4)) from(Below.refl _ _).alloc (Nat.le_refl _) _)
      have SL6:=Lib.hid (show Sl (w6.alloc (.cells #[.bool true,.bool true,.bool false,.bool true] 4)) (some ⟨w6.heap.size,0,none⟩) 4 (tftt.map Value.bool) from Sl.of_bl (Bl.new_ w6 _ _) 0 _ _ rfl fun k v hk=>by rw[Nat.zero_add];simpa[tftt] using hk)
      have D6a:=Lib.hid (D6.out.below BT6.out)
      have DC6a:=Lib.hid (DC6.out.below BT6.out)
      have LCC:=Lib.hid (Lose_dd DC6a.out (by show m.hd.length < 1000000;have:=HM.out.2.1;omega) (some ⟨w6.heap.size,0,none⟩) 4 4 tftt SL6.out (by decide) (by unfold maxLen;decide) (fun e=>by cases e) (fun ad e _=>by cases e;show w6.heap.size≠cb;have:=Bl.lt DC6.out.byt;omega))
      go_upto_region 19 with(go_at_call 14;(with_reducible refine LCC.out.mono ?_);rintro e w7 ⟨⟨v7,rfl⟩,H7,d7,o7,g7⟩;rw[lose_re,HM7.out] at d7;have DC7:=Lib.hid d7;have G7:=Lib.hid g7;clear d7 o7 g7)
      have D7:=Lib.hid (D6a.out.off_box OUT6.out G7.out BX.out.ts)
      have BC7:=bytes_new D7.out hs7
      obtain⟨X,hX⟩:∃X,m7.ss.flatten=X:=⟨_,rfl⟩
      rw[hX] at BC7
      have HX:=Lib.hid hX
      have BC7:=Lib.hid BC7
      have BB5:=Lib.hid (BB4.out.trans ((ts_below D4.out G5.out).mono BW.out.size))
      have BB6:=Lib.hid (BB5.out.trans ((BT5.out.mono BB5.out.size).trans ((ts_below D5a.out G6.out).mono BW.out.size)))
      have BB7:=Lib.hid (BB6.out.trans ((BT6.out.mono BB6.out.size).trans ((ts_below DC6a.out G7.out).mono (Nat.le_trans BB1.out.size B3.out.size))))
      clear hX
      go_wp2_with (first
       |(go_at_call 13;(with_reducible refine BC7.out.mono ?_);rintro e w8 ⟨q8,c8,rfl,k1,-, -, k3⟩;have S8:=Lib.hid k1;have B8:=Lib.hid k3;have D8:=Lib.hid (D7.out.below k3);have DC8:=Lib.hid (DC7.out.below k3);have BC8:=bytes_new DC8.out (show(m7.re cp' tl').ss.length≤1500 from hs7);rw[show(m7.re cp' tl').ss.flatten=X from HX.out] at BC8;have BC8:=Lib.hid BC8;clear k1 k3)
       |(go_at_call 13;(with_reducible refine BC8.out.mono ?_);rintro e w9 ⟨q9,c9,rfl,k1,-, -, k3⟩;have B9:=Lib.hid k3;have D9:=Lib.hid (D8.out.below k3);have DC9:=Lib.hid (DC8.out.below k3);have SB:=same_any (some ⟨q8,0,none⟩) (some ⟨q9,0,none⟩) X.length X.length c8 c9 X X w9 (S8.out.below k3) k1;rw[decide_eq_true rfl] at SB;have SB:=Lib.hid SB;have SR:=Lib.hid (strokes_dd D9.out);have SRC:=Lib.hid (show Calls Try.prog 27 #[.pointer (some ⟨c,0,none⟩)] w9 (fun e w'=>e=.returned (.int .i64 (m7.st:Int))∧w9=w') from strokes_dd (m:=m7.re cp' tl') DC9.out);have UR:=Lib.hid (up_dd D9.out);have URC:=Lib.hid (show Calls Try.prog 9 #[.pointer (some ⟨c,0,none⟩)] w9 (fun e w'=>e=.returned (.bool m7.up)∧w9=w') from up_dd (m:=m7.re cp' tl') DC9.out);clear k1 k3)
       |(go_at_call 15;(with_reducible refine SB.out.mono ?_);rintro e wa ⟨rfl,rfl⟩)
       |(go_at_call 27;(with_reducible refine SR.out.mono ?_);rintro e wb ⟨rfl,rfl⟩)
       |(go_at_call 27;(with_reducible refine SRC.out.mono ?_);rintro e wb ⟨rfl,rfl⟩)
       |(go_at_call 9;(with_reducible refine UR.out.mono ?_);rintro e wc ⟨rfl,rfl⟩)
       |(go_at_call 9;(with_reducible refine URC.out.mono ?_);rintro e wc ⟨rfl,rfl⟩)
       |(go_at_call 10;(with_reducible refine(KN.out _).mono ?_);rintro e wd ⟨rfl,hbd⟩;have BD:=Lib.hid hbd;clear hbd))
      go_ret
      have b9:=BB7.out.trans ((B8.out.trans (B9.out.mono B8.out.size)).mono BB7.out.size)
      exact⟨rfl,b9.trans (BD.out.mono b9.size)⟩
    ·have q6:(E == 60)=false:=by rw[beq_eq_false_iff_ne];exact e6
     have hidle:R.2=m:=(ID (by omega)).resolve_left (fun h=>e6 (by rw[←hE,h.1];rfl))
     have HI:=Lib.hid hidle
     clear ID hE e0 e6 hidle
     go_upto_region 17 with(first
      |(go_at_call 21;(with_reducible refine ST.out.mono ?_);rintro e w5 ⟨rfl,H5,cs5,cw5,ch5,d5,o5,p5,g5⟩;have D5:=Lib.hid d5;have O5:=Lib.hid o5;have P5:=Lib.hid p5;have G5:=Lib.hid g5;have DC5:=Lib.hid (DC.out.away BX.out g5 (OUT.out.ts));have UPC:=Lib.hid (show Calls Try.prog 9 #[.pointer (some ⟨c,0,none⟩)] w5 (fun e w'=>e=.returned (.bool m.up)∧w5=w') from up_dd (m:=m.re cp' tl') DC5.out);clear d5 o5 p5 g5))
     have D5':=Lib.hid (show Dd w5 W0.heap.size g gb H5 cs5 cw5 ch5 m from by have:=D5.out;rwa [HI.out] at this)
     have OUT5:=Lib.hid (OUT.out.next (Nat.le_refl _) O5.out P5.out)
     have BT5:=Lib.hid (show Below w5.heap.size w5 (w5.alloc (.cells #[.bool true,.bool true,.bool false,.bool true] 4)) from(Below.refl _ _).alloc (Nat.le_refl _) _)
     have SL5:=Lib.hid (show Sl (w5.alloc (.cells #[.bool true,.bool true,.bool false,.bool true] 4)) (some ⟨w5.heap.size,0,none⟩) 4 (tftt.map Value.bool) from Sl.of_bl (Bl.new_ w5 _ _) 0 _ _ rfl fun k v hk=>by rw[Nat.zero_add];simpa[tftt] using hk)
     have D5a:=Lib.hid (D5'.out.below BT5.out)
     have DC5a:=Lib.hid (DC5.out.below BT5.out)
     have LD:=Lib.hid (Lose_dd D5a.out (by have:=HM.out.2.1;omega) (some ⟨w5.heap.size,0,none⟩) 4 4 tftt SL5.out (by decide) (by unfold maxLen;decide) (fun e=>by cases e) (fun ad e _=>by cases e;show w5.heap.size≠gb;have:=Bl.lt D5'.out.byt;omega))
     obtain⟨m7,hm7⟩:∃m7,m.lose tftt=m7:=⟨_,rfl⟩
     have HM7:=Lib.hid hm7
     have hs7:m7.ss.length≤1500:=by rw[←hm7,M.lose_size];have:=HM.out.1;omega
     clear hm7
     go_upto_region 18 with(go_at_call 14;(with_reducible refine LD.out.mono ?_);rintro e w6 ⟨⟨v6,rfl⟩,H6,d6,o6,g6⟩;rw[HM7.out] at d6;have D6:=Lib.hid d6;have O6:=Lib.hid o6;have G6:=Lib.hid g6;clear d6 o6 g6)
     have DC6:=Lib.hid (DC5a.out.away BX.out G6.out OUT5.out.ts)
     have OUT6:=Lib.hid (show Out w3.heap.size w4.heap.size g gb H6 ch5 from⟨OUT5.out.1,OUT5.out.2.1,fun b hb=>OUT5.out.2.2.1 b (by rw[←O6.out];exact hb),OUT5.out.2.2.2⟩)
     have BT6:=Lib.hid (show Below w6.heap.size w6 (w6.alloc (.cells #[.bool true,.bool true,.bool false,.bool true] 4)) from(Below.refl _ _).alloc (Nat.le_refl _) _)
     have SL6:=Lib.hid (show Sl (w6.alloc (.cells #[.bool true,.bool true,.bool false,.bool true] 4)) (some ⟨w6.heap.size,0,none⟩) 4 (tftt.map Value.bool) from Sl.of_bl (Bl.new_ w6 _ _) 0 _ _ rfl fun k v hk=>by rw[Nat.zero_add];simpa[tftt] using hk)
     have D6a:=Lib.hid (D6.out.below BT6.out)
     have DC6a:=Lib.hid (DC6.out.below BT6.out)
     have LCC:=Lib.hid (Lose_dd DC6a.out (by show m.hd.length < 1000000;have:=HM.out.2.1;omega) (some ⟨w6.heap.size,0,none⟩) 4 4 tftt SL6.out (by decide) (by unfold maxLen;decide) (fun e=>by cases e) (fun ad e _=>by cases e;show w6.heap.size≠cb;have:=Bl.lt DC6.out.byt;omega))
     go_upto_region 19 with(go_at_call 14;(with_reducible refine LCC.out.mono ?_);rintro e w7 ⟨⟨v7,rfl⟩,H7,d7,o7,g7⟩;rw[lose_re,HM7.out] at d7;have DC7:=Lib.hid d7;have G7:=Lib.hid g7;clear d7 o7 g7)
     have D7:=Lib.hid (D6a.out.off_box OUT6.out G7.out BX.out.ts)
     have BC7:=bytes_new D7.out hs7
     obtain⟨X,hX⟩:∃X,m7.ss.flatten=X:=⟨_,rfl⟩
     rw[hX] at BC7
     have HX:=Lib.hid hX
     have BC7:=Lib.hid BC7
     have BB5:=Lib.hid (BB4.out.trans ((ts_below D4.out G5.out).mono BW.out.size))
     have BB6:=Lib.hid (BB5.out.trans ((BT5.out.mono BB5.out.size).trans ((ts_below D5a.out G6.out).mono BW.out.size)))
     have BB7:=Lib.hid (BB6.out.trans ((BT6.out.mono BB6.out.size).trans ((ts_below DC6a.out G7.out).mono (Nat.le_trans BB1.out.size B3.out.size))))
     clear hX
     go_wp2_with (first
      |(go_at_call 13;(with_reducible refine BC7.out.mono ?_);rintro e w8 ⟨q8,c8,rfl,k1,-, -, k3⟩;have S8:=Lib.hid k1;have B8:=Lib.hid k3;have D8:=Lib.hid (D7.out.below k3);have DC8:=Lib.hid (DC7.out.below k3);have BC8:=bytes_new DC8.out (show(m7.re cp' tl').ss.length≤1500 from hs7);rw[show(m7.re cp' tl').ss.flatten=X from HX.out] at BC8;have BC8:=Lib.hid BC8;clear k1 k3)
      |(go_at_call 13;(with_reducible refine BC8.out.mono ?_);rintro e w9 ⟨q9,c9,rfl,k1,-, -, k3⟩;have B9:=Lib.hid k3;have D9:=Lib.hid (D8.out.below k3);have DC9:=Lib.hid (DC8.out.below k3);have SB:=same_any (some ⟨q8,0,none⟩) (some ⟨q9,0,none⟩) X.length X.length c8 c9 X X w9 (S8.out.below k3) k1;rw[decide_eq_true rfl] at SB;have SB:=Lib.hid SB;have SR:=Lib.hid (strokes_dd D9.out);have SRC:=Lib.hid (show Calls Try.prog 27 #[.pointer (some ⟨c,0,none⟩)] w9 (fun e w'=>e=.returned (.int .i64 (m7.st:Int))∧w9=w') from strokes_dd (m:=m7.re cp' tl') DC9.out);have UR:=Lib.hid (up_dd D9.out);have URC:=Lib.hid (show Calls Try.prog 9 #[.pointer (some ⟨c,0,none⟩)] w9 (fun e w'=>e=.returned (.bool m7.up)∧w9=w') from up_dd (m:=m7.re cp' tl') DC9.out);clear k1 k3)
      |(go_at_call 15;(with_reducible refine SB.out.mono ?_);rintro e wa ⟨rfl,rfl⟩)
      |(go_at_call 27;(with_reducible refine SR.out.mono ?_);rintro e wb ⟨rfl,rfl⟩)
      |(go_at_call 27;(with_reducible refine SRC.out.mono ?_);rintro e wb ⟨rfl,rfl⟩)
      |(go_at_call 9;(with_reducible refine UR.out.mono ?_);rintro e wc ⟨rfl,rfl⟩)
      |(go_at_call 9;(with_reducible refine URC.out.mono ?_);rintro e wc ⟨rfl,rfl⟩)
      |(go_at_call 10;(with_reducible refine(KN.out _).mono ?_);rintro e wd ⟨rfl,hbd⟩;have BD:=Lib.hid hbd;clear hbd))
     go_ret
     have b9:=BB7.out.trans ((B8.out.trans (B9.out.mono B8.out.size)).mono BB7.out.size)
     exact⟨rfl,b9.trans (BD.out.mono b9.size)⟩
  have z1:(o.kd == 1)=false:=by rw[beq_eq_false_iff_ne];exact k1
  have z3:(o.kd == 3)=false:=by rw[beq_eq_false_iff_ne];exact k3
  have z8:(o.kd == 8)=false:=by rw[beq_eq_false_iff_ne];exact k8
  clear k1 k3 k8
  go_wp2_with (go_at_call 10;(with_reducible refine(KN.out _).mono ?_);rintro e w2 ⟨rfl,hb2⟩;have B2:=Lib.hid hb2;clear hb2)
  go_ret
  exact⟨rfl,BB4.out.trans (B2.out.mono BB4.out.size)⟩
end Go.Proofs.Ytbgkdbjineennaa.Dk
