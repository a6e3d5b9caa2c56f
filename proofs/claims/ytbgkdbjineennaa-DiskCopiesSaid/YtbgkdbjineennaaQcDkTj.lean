/- Joined texts. -/
import Derived.Test.YtbgkdbjineennaaQcDkTi
set_option linter.unusedVariables false
namespace Go.Proofs.Ytbgkdbjineennaa.Dk
open Go.IntWalk Go.RowKit Go.Proofs.Ytbgkdbjineennaa.Gn Go.Proofs.Ytbgkdbjineennaa.Fd Go.Deep
theorem hrow_one:∀(l:List (Nat × List Nat)),∀v∈hrow l,v.oneCell'=true
 | []=>fun v hv=>by cases hv
 |x :: l=>fun v hv=>by
  rw[hrow,List.mem_append] at hv
  rcases hv with hv|hv
  ·exact wv_one _ _ v hv
  ·exact hrow_one l v hv
def CloneWQ(hd:List (Nat × List Nat))(w:World)(e:Ending)(w':World):Prop:=∃v,e=.returned v∧w'.ownsRow w.heap.size 67 65 v hd.length (hrow hd)∧Below w.heap.size w w'
set_option maxRecDepth 100000 in
theorem cloneW_nil(w:World):Calls Try.prog 39 #[.slice none 0 0] w (CloneWQ [] w):=by
 go_enter Try.func39,Try.ntmps39
 have hne:∀w,Sem.run Try.prog (binOp .eql 56 (.slice none 0 0) (.slice none 0 0)) w=.ok (.bool true) w:=fun w=>by kernel_rfl
 go_wp2_with fail
 go_ret
 exact⟨_,rfl,⟨rfl,.inl ⟨rfl,rfl⟩⟩,Below.refl _ _⟩
set_option maxRecDepth 100000 in
set_option maxHeartbeats 4000000 in
theorem cloneW_some(ad:Addr)(n cap:Nat)(hd:List (Nat × List Nat))(w:World)(hn:hd.length=n)(hln:(hrow hd).length=n*65)(hs:Sl w (some ad) (n*65) (hrow hd))(hn9:n≤100000) :
  Calls Try.prog 39 #[.slice (some ad) n cap] w (CloneWQ hd w):=by
 obtain⟨i0,hi,hz0,hz1,hz2⟩:=info_parts infoW
 go_enter Try.func39,Try.ntmps39
 have hne:∀w,Sem.run Try.prog (binOp .eql 56 (.slice (some ad) n cap) (.slice none 0 0)) w=.ok (.bool false) w:=fun w=>by kernel_rfl
 go_upto_region 3 with(fail)
 refine wp_region_lit ?_
 refine sq_new (w.alloc (.cells #[] 67)) (.slice (some ⟨w.heap.size,0,none⟩) 0 0) rfl (by kernel_rfl) ?_
 refine sq_run (.slice (some ad) n cap) rfl (by kernel_rfl) ?_
 have hs1:=hs.below ((Below.refl w.heap.size w).alloc (Nat.le_refl _) (.cells #[] 67))
 refine wpList_append_own _ rfl (.tmp 5) (.tmp 6) 56 rfl w.heap.size 67 i0 _ 65 72 Try.underlying56 hi hz0 hz1 hz2 (by kernel_rfl) (by decide) (.slice (some ⟨w.heap.size,0,none⟩) 0 0) 0 [] rfl ⟨rfl,.inr ⟨w.heap.size,0,#[],rfl,Nat.le_refl _,heap_alloc_new w _,Nat.le_refl _,Nat.zero_le _,rfl,rfl⟩⟩ ad n cap (hrow hd) rfl hln (fun j u hj=>by
  obtain⟨ad',e,hc⟩:=hs1.2 j u hj
  cases e;exact hc) (hrow_one hd) (by unfold maxLen;omega) (by omega) (by simp) ?_
 intro v' w1 hown hgrow _
 rw[Nat.zero_add,List.nil_append] at hown
 have hB:Below w.heap.size w w1:=((Below.refl w.heap.size w).alloc (Nat.le_refl _) (.cells #[] 67)).grown hgrow (by simp) (by intro k e;simp[Value.ownBlock] at e;omega)
 have HO:=Lib.hid hown
 have HB:=Lib.hid hB
 have HN:=Lib.hid hn
 clear hB hgrow hs hs1 hln hn
 obtain⟨-, ⟨rfl,h0⟩|⟨g,cp,cur,rfl,-⟩⟩:=hown
 ·refine sq_run (.slice none 0 0) rfl (by kernel_rfl) ?_
  refine sq_done ?_
  simp only[Act.put,List.setIfInBounds_toArray,List.set_cons_zero,List.set_cons_succ]
  go_wp2_with fail
  go_ret
  exact⟨_,rfl,by rw[HN.out];exact HO.out,HB.out⟩
 ·refine sq_run (.slice (some ⟨g,0,none⟩) n cp) rfl (by kernel_rfl) ?_
  refine sq_done ?_
  simp only[Act.put,List.setIfInBounds_toArray,List.set_cons_zero,List.set_cons_succ]
  go_wp2_with fail
  go_ret
  exact⟨_,rfl,by rw[HN.out];exact HO.out,HB.out⟩
theorem own_sl65{w:World}{base:Nat}{t:TypeId}{g n c:Nat}{xs:List Value}(h:w.ownsRow base t 65 (.slice (some ⟨g,0,none⟩) n c) n xs):Sl w (some ⟨g,0,none⟩) (n*65) xs:=by
 obtain⟨hl,⟨e,h0⟩|⟨g',cap,cur,e,hb',hh,h1,h2,h3,h4⟩⟩:=h
 ·cases e
 ·cases e
  refine Sl.of_bl hh 0 _ _ hl fun k v hk=>?_
  have hk5:k < n*65:=by have:=(List.getElem?_eq_some_iff.1 hk).1;omega
  rw[Nat.zero_add,←Array.getElem?_toList,←hk,←h4,List.getElem?_take,if_pos hk5]
theorem cloneW{w:World}{base n:Nat}{H:Value}{hd:List (Nat × List Nat)}(h:w.ownsRow base 67 65 H hd.length (hrow hd))(hn9:hd.length≤100000):Calls Try.prog 39 #[H] w (CloneWQ hd w):=by
 obtain⟨hl,⟨rfl,h0⟩|⟨g,cap,cur,rfl,-⟩⟩:=id h
 ·obtain rfl:hd=[]:=List.length_eq_zero_iff.1 h0
  exact cloneW_nil w
 ·exact cloneW_some _ _ _ hd w rfl hl (own_sl65 h) hn9
section
variable {w:World} {base g gb:Nat} {H:Value} {cs:Bool} {cw:Int} {ch:Value} {m:M}
def CloneCQ(w:World)(cs:Bool)(cw:Int)(o:Option (Nat × List Bool))(e:Ending)(w':World):Prop:=∃v,e=.returned v∧Ct w' w.heap.size cs cw v o∧v.oneCell'=true∧Below w.heap.size w w'
set_option maxRecDepth 100000 in
theorem cloneB_nil2(w:World):Calls Try.prog 40 #[.slice none 0 0] w fun e w'=>e=.returned (.slice none 0 0)∧w=w':=by
 go_enter Try.func40,Try.ntmps40
 have hne:∀w,Sem.run Try.prog (binOp .eql 24 (.slice none 0 0) (.slice none 0 0)) w=.ok (.bool true) w:=fun w=>by kernel_rfl
 go_wp2_with fail
 go_ret
 exact⟨rfl,rfl⟩
theorem own_val1{w:World}{base size n:Nat}{t:TypeId}{v:Value}{xs:List Value}(h:w.ownsRow base t size v n xs):v.oneCell'=true:=by
 obtain⟨-, ⟨rfl,-⟩|⟨g,cap,cur,rfl,-⟩⟩:=h <;> rfl
theorem Ct.clone{w:World}{base:Nat}{cs:Bool}{cw:Int}{ch:Value}{o:Option (Nat × List Bool)}(hc:Ct w base cs cw ch o){u:World}(hu:Below w.heap.size w u):Calls Try.prog 40 #[ch] u (CloneCQ u cs cw o):=by
 cases o with
 |none =>
  obtain⟨h1,h2,rfl⟩:=hc
  refine(cloneB_nil2 u).mono ?_
  rintro e w' ⟨rfl,rfl⟩
  exact⟨_,rfl,⟨h1,h2,rfl⟩,rfl,Below.refl _ _⟩
 |some x =>
  obtain⟨k,c⟩:=x
  obtain⟨h1,h2,h3,h4,h5⟩:=hc
  obtain⟨A,cap,rfl,hle,hsl,hA⟩:=own_sl0 h5
  refine(cloneB A c.length cap c u (hsl.below hu) (fun e=>by have:=hA e;omega) (by omega)).mono ?_
  rintro e w' ⟨v,rfl,ho,hb⟩
  exact⟨v,rfl,⟨h1,h2,h3,h4,ho⟩,own_val1 ho,hb⟩
theorem Ct.shape{w:World}{base:Nat}{cs:Bool}{cw:Int}{ch:Value}{o:Option (Nat × List Bool)}(hc:Ct w base cs cw ch o):∃A k c,ch=.slice A k c:=by
 cases o with
 |none=>exact⟨_,_,_,hc.2.2⟩
 |some x=>exact own_shape hc.2.2.2.2
theorem Ct.own{w:World}{base:Nat}{cs:Bool}{cw:Int}{ch:Value}{o:Option (Nat × List Bool)}(hc:Ct w base cs cw ch o){b:Nat}(hb:ch.ownBlock=some b):base≤b∧Kd w b 4:=by
 cases o with
 |none=>obtain⟨-, -, rfl⟩:=hc;cases hb
 |some x=>exact own_kd hc.2.2.2.2 hb
theorem Ct.rebase{w:World}{base b2:Nat}{cs:Bool}{cw:Int}{ch:Value}{o:Option (Nat × List Bool)}(hc:Ct w base cs cw ch o)(h:b2≤base):Ct w b2 cs cw ch o:=by
 cases o with
 |none=>exact hc
 |some x=>exact⟨hc.1,hc.2.1,hc.2.2.1,hc.2.2.2.1,own_mono hc.2.2.2.2 h⟩
def CopyQ(w:World)(cs:Bool)(cw:Int)(m:M)(e:Ending)(w':World):Prop:=∃c cb cH cch cp tl,e=.returned (.pointer (some ⟨c,0,none⟩))∧Dd w' w.heap.size c cb cH cs cw cch (m.re cp tl)∧Below w.heap.size w w'
set_option maxRecDepth 100000 in
set_option maxHeartbeats 8000000 in
theorem Copy_dd(D:Dd w base g gb H cs cw ch m)(h9:m.ss.length≤1500)(hk:m.hd.length≤100000):Calls Try.prog 23 #[.pointer (some ⟨g,0,none⟩)] w (CopyQ w cs cw m):=by
 have hn:0 < 64*m.ss.length:=by have:=D.n0;omega
 have C:=Lib.hid (none_any D.blk hn)
 have d0:=D.blk.c0
 have d1:=D.blk.c1
 have d2:=D.blk.c2
 have d3:=D.blk.c3
 have d4:=D.blk.c4
 have d5:=D.blk.c5
 have d6:=D.blk.c6
 obtain⟨hA,hn_,hc_,hH⟩:=own_shape D.own
 subst hH
 obtain⟨eA,en_,ec_,hE⟩:=D.cut.shape
 subst hE
 have HD:=Lib.hid D
 have hfl:=flat_len _ D.ok.row
 obtain⟨N,hN⟩:∃N,64*m.ss.length=N:=⟨_,rfl⟩
 obtain⟨X,hX⟩:∃X,m.ss.flatten=X:=⟨_,rfl⟩
 obtain⟨hdl,hdl'⟩:∃hdl,m.hd=hdl:=⟨_,rfl⟩
 have W1B0:Below w.heap.size w (w.alloc (.cells #[.slice (some ⟨gb,0,none⟩) N m.cp,.slice hA hn_ hc_,.bool m.up,.int .i64 (m.st:Int),.bool cs,.int .i64 cw,.slice eA en_ ec_] 60)):=(Below.refl _ _).alloc (Nat.le_refl _) _
 have W1C0:Bl (w.alloc (.cells #[.slice (some ⟨gb,0,none⟩) N m.cp,.slice hA hn_ hc_,.bool m.up,.int .i64 (m.st:Int),.bool cs,.int .i64 cw,.slice eA en_ ec_] 60)) w.heap.size 60 (dsk gb N m.cp (.slice hA hn_ hc_) m.up (m.st:Int) cs cw (.slice eA en_ ec_)):=Bl.new_ w 60 _
 have W1S0:(w.alloc (.cells #[.slice (some ⟨gb,0,none⟩) N m.cp,.slice hA hn_ hc_,.bool m.up,.int .i64 (m.st:Int),.bool cs,.int .i64 cw,.slice eA en_ ec_] 60)).heap.size=w.heap.size+1:=by simp
 obtain⟨W1,hW1⟩:∃W1,w.alloc (.cells #[.slice (some ⟨gb,0,none⟩) N m.cp,.slice hA hn_ hc_,.bool m.up,.int .i64 (m.st:Int),.bool cs,.int .i64 cw,.slice eA en_ ec_] 60)=W1:=⟨_,rfl⟩
 rw[hW1] at W1B0 W1C0 W1S0
 have W1B:=Lib.hid W1B0
 have W1C:=Lib.hid W1C0
 have W1S:=Lib.hid W1S0
 have x0:W1.cell? ⟨g,0,none⟩=some (.slice (some ⟨gb,0,none⟩) N m.cp):=by rw[←hN];exact(D.below W1B0).blk.c0
 clear W1B0 W1C0 W1S0
 have gN:g≠w.heap.size:=by have:=D.glt;omega
 have ND:=Lib.hid (And.intro hfl (And.intro hN (And.intro hX hdl')))
 have CLB:=Lib.hid (fun(u:World) (hu:Below w.heap.size w u)=>show Calls Try.prog 35 #[.slice (some ⟨gb,0,none⟩) N m.cp] u (CloneQ X u) from by
  have hs:Sl u (some ⟨gb,0,none⟩) N (bl X):=by
   have:=(D.byt.sl).below hu
   rw[hX] at this hfl
   rwa [hfl,hN] at this
  exact Clone_any (some ⟨gb,0,none⟩) N m.cp X u (by omega) (by omega) (by have:=D.ok.cpn;omega) hs)
 have CLW:=Lib.hid (fun(u:World) (hu:Below w.heap.size w u)=>show Calls Try.prog 39 #[.slice hA hn_ hc_] u (CloneWQ hdl u) from by
  rw[←hdl']
  exact cloneW (n:=0) ((D.below hu).own) hk)
 have CLC:=Lib.hid (fun(u:World) (hu:Below w.heap.size w u)=>D.cut.clone hu)
 have hXN:X.length=N:=by rw[←hX,hfl,hN]
 have HXN:=Lib.hid hXN
 rw[hN] at d0
 clear D hfl hN hX hdl' hn hXN
 go_enter Try.func23,Try.ntmps23
 go_upto_region 4 with(go_at_call 30;(with_reducible refine C.out.mono ?_);rintro e w1 ⟨rfl,rfl⟩)
 clear d0 d1 d2 d3 d4 d5 d6 hW1
 go_upto_region 5 with(go_at_call 35;(with_reducible refine(CLB.out _ W1B.out).mono ?_);intro e w2 hq;obtain⟨q2,cap2,cur2,rfl,j1,j2,j3,j4,j5,j6⟩:=hq;rw[HXN.out] at j2 j3 j4 ⊢;have J1:=Lib.hid j1;have J2:=Lib.hid j2;have J4:=Lib.hid j4;have J5:=Lib.hid j5;have J6:=Lib.hid j6;have K2:=Lib.hid (W1C.out.below' j6);have z0:w2.cell? ⟨w.heap.size,0,none⟩=some (.slice (some ⟨gb,0,none⟩) N m.cp):=K2.out.cell_ rfl;have zf:=K2.out.frozen 0;clear j1 j2 j3 j4 j5 j6)
 have nq2:w.heap.size≠q2:=by have:=J5.out;have:=W1S.out;omega
 have GU2:=Lib.hid (show Gx [w.heap.size] w2 (w2.setCell ⟨w.heap.size,0,none⟩ (.slice (some ⟨q2,0,none⟩) N cap2)) from(Gx.refl _ _).set (by simp) _)
 have B2:=Lib.hid (W1B.out.trans (J6.out.mono W1B.out.size))
 have BU2:=Lib.hid (B2.out.trans (GU2.out.below B2.out.size (fun k hk=>by rw[List.mem_singleton.1 hk];exact Nat.le_refl _)))
 have HU2:=Lib.hid (show Bl (w2.setCell ⟨w.heap.size,0,none⟩ (.slice (some ⟨q2,0,none⟩) N cap2)) w.heap.size 60 (dsk q2 N cap2 (.slice hA hn_ hc_) m.up (m.st:Int) cs cw (.slice eA en_ ec_)) from K2.out.set_ 0 _)
 have QU2:=Lib.hid (GU2.out.bl (by simpa using Ne.symm nq2) J1.out)
 obtain⟨u2,hu2⟩:∃u2,w2.setCell ⟨w.heap.size,0,none⟩ (.slice (some ⟨q2,0,none⟩) N cap2)=u2:=⟨_,rfl⟩
 rw[hu2] at GU2 BU2 HU2 QU2 ⊢
 have d1u:u2.cell? ⟨g,1,none⟩=some (.slice hA hn_ hc_):=(HD.out.below BU2.out).blk.c1
 clear z0 zf x0
 go_upto_region 6 with(go_at_call 39;(with_reducible refine(CLW.out _ BU2.out).mono ?_);rintro e w3 ⟨v3,rfl,j1,j2⟩;obtain⟨A3,n3,c3,rfl⟩:=own_shape j1;have O3:=Lib.hid j1;have J3:=Lib.hid j2;have K3:=Lib.hid (HU2.out.below' j2);have z1:w3.cell? ⟨w.heap.size,1,none⟩=some (.slice hA hn_ hc_):=K3.out.cell_ rfl;have zf:=K3.out.frozen 1;clear j1 j2)
 have GU3:=Lib.hid (show Gx [w.heap.size] w3 (w3.setCell ⟨w.heap.size,1,none⟩ (.slice A3 n3 c3)) from(Gx.refl _ _).set (by simp) _)
 have B3:=Lib.hid (BU2.out.trans (J3.out.mono BU2.out.size))
 have BU3:=Lib.hid (B3.out.trans (GU3.out.below B3.out.size (fun k hk=>by rw[List.mem_singleton.1 hk];exact Nat.le_refl _)))
 have HU3:=Lib.hid (show Bl (w3.setCell ⟨w.heap.size,1,none⟩ (.slice A3 n3 c3)) w.heap.size 60 (dsk q2 N cap2 (.slice A3 n3 c3) m.up (m.st:Int) cs cw (.slice eA en_ ec_)) from K3.out.set_ 1 _)
 have QU3:=Lib.hid (GU3.out.bl (by simpa using Ne.symm nq2) (QU2.out.below' J3.out))
 have KD3:∀b,(Value.slice A3 n3 c3).ownBlock=some b→u2.heap.size≤b∧Kd w3 b 67:=fun b hb=>own_kd O3.out hb
 have hcw:w.heap.size < u2.heap.size:=HU2.out.lt
 have OU3:=Lib.hid (own_gx GU3.out (fun b hb e=>by have:=(KD3 b hb).1;rw[List.mem_singleton.1 e] at this;omega) O3.out)
 have KE3:=Lib.hid (show ∀b,(Value.slice A3 n3 c3).ownBlock=some b→u2.heap.size≤b∧b < w3.heap.size from fun b hb=>⟨(KD3 b hb).1,(KD3 b hb).2.lt⟩)
 obtain⟨u3,hu3⟩:∃u3,w3.setCell ⟨w.heap.size,1,none⟩ (.slice A3 n3 c3)=u3:=⟨_,rfl⟩
 rw[hu3] at GU3 BU3 HU3 QU3 OU3 ⊢
 have d6u:u3.cell? ⟨g,6,none⟩=some (.slice eA en_ ec_):=(HD.out.below BU3.out).blk.c6
 clear z1 zf d1u KD3
 go_upto_region 7 with(go_at_call 40;(with_reducible refine(CLC.out _ BU3.out).mono ?_);rintro e w4 ⟨v4,rfl,j1,-, j2⟩;obtain⟨A4,n4,c4,rfl⟩:=j1.shape;have O4:=Lib.hid j1;have J4':=Lib.hid j2;have K4:=Lib.hid (HU3.out.below' j2);have z6:w4.cell? ⟨w.heap.size,6,none⟩=some (.slice eA en_ ec_):=K4.out.cell_ rfl;have zf:=K4.out.frozen 6;clear j1 j2)
 have GU4:=Lib.hid (show Gx [w.heap.size] w4 (w4.setCell ⟨w.heap.size,6,none⟩ (.slice A4 n4 c4)) from(Gx.refl _ _).set (by simp) _)
 have B4:=Lib.hid (BU3.out.trans (J4'.out.mono BU3.out.size))
 have BU4:=Lib.hid (B4.out.trans (GU4.out.below B4.out.size (fun k hk=>by rw[List.mem_singleton.1 hk];exact Nat.le_refl _)))
 have HU4:=Lib.hid (show Bl (w4.setCell ⟨w.heap.size,6,none⟩ (.slice A4 n4 c4)) w.heap.size 60 (dsk q2 N cap2 (.slice A3 n3 c3) m.up (m.st:Int) cs cw (.slice A4 n4 c4)) from K4.out.set_ 6 _)
 have QU4:=Lib.hid (GU4.out.bl (by simpa using Ne.symm nq2) (QU3.out.below' J4'.out))
 have hs3:u2.heap.size≤w3.heap.size:=J3.out.size
 have hs3':w3.heap.size≤u3.heap.size:=GU3.out.size
 have OU4:=Lib.hid (own_gx GU4.out (fun b hb e=>by have:=(KE3.out b hb).1;rw[List.mem_singleton.1 e] at this;omega) (own_gx (Gx.of_below (S:=[]) J4'.out) (fun b hb e=>by cases e) OU3.out))
 have KF4:=Lib.hid (show ∀b,(Value.slice A4 n4 c4).ownBlock=some b→u3.heap.size≤b from fun b hb=>(O4.out.own hb).1)
 have CU4:=Lib.hid (Ct.kept GU4.out (fun b hb e=>by have:=KF4.out b hb;rw[List.mem_singleton.1 e] at this;omega) O4.out)
 obtain⟨u4,hu4⟩:∃u4,w4.setCell ⟨w.heap.size,6,none⟩ (.slice A4 n4 c4)=u4:=⟨_,rfl⟩
 rw[hu4] at GU4 BU4 HU4 QU4 OU4 CU4 ⊢
 have hq2:q2 < w2.heap.size:=J1.out.lt
 have hq2':w2.heap.size≤u2.heap.size:=by rw[←hu2];simp
 clear z6 zf d6u
 go_wp2_with fail
 go_ret
 obtain⟨e1,e2,e3,e4⟩:=ND.out
 refine⟨w.heap.size,q2,.slice A3 n3 c3,.slice A4 n4 c4,cap2,cur2.toList.drop N,rfl,?_,BU4.out⟩
 have hq5:=J5.out
 have hq6:=W1S.out
 have hok:=HD.out.ok
 refine⟨?_,?_,?_,CU4.out.rebase (by omega),⟨hok.row,hok.at_,hok.long,?_⟩,HD.out.n0,HD.out.n9,Nat.le_refl _,by omega,nq2,?_,?_,?_,?_,?_⟩
 ·show Bl u4 w.heap.size 60 (dsk q2 (64*m.ss.length) cap2 _ m.up (m.st:Int) cs cw _)
  rw[e2];exact HU4.out
 ·show Bl u4 q2 5 (bl m.ss.flatten ++ cur2.toList.drop N).toArray
  have:(bl m.ss.flatten ++ cur2.toList.drop N).toArray=cur2:=by
   rw[e3,←J4.out,List.take_append_drop]
  rw[this];exact QU4.out
 ·show u4.ownsRow w.heap.size 67 65 _ m.hd.length (hrow m.hd)
  rw[e4];exact own_mono OU4.out (by omega)
 ·show 64*m.ss.length≤cap2
  rw[e2];exact J2.out
 ·intro e;have:=(KE3.out _ e).1;omega
 ·intro e;have:=(KE3.out _ e).1;omega
 ·intro e;have:=KF4.out _ e;omega
 ·intro e;have:=KF4.out _ e;omega
 ·intro b hb e
  have h1:=(KE3.out b hb).2
  have h2:=KF4.out b e
  omega
end
end Go.Proofs.Ytbgkdbjineennaa.Dk
