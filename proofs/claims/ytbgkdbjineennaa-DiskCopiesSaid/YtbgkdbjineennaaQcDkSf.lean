/- Joined texts. -/
import Derived.Test.YtbgkdbjineennaaQcDkSe
set_option linter.unusedVariables false
namespace Go.Proofs.Ytbgkdbjineennaa.Dk
open Go.IntWalk Go.RowKit Go.Proofs.Ytbgkdbjineennaa.Gn Go.Proofs.Ytbgkdbjineennaa.Fd Go.Deep
section
variable {w:World} {base g gb:Nat} {H:Value} {cs:Bool} {cw:Int} {ch:Value} {m:M}
set_option maxRecDepth 100000 in
set_option maxHeartbeats 4000000 in
theorem Lose_nil(D:Dd w base g gb H cs cw ch m)(hu:m.up=true)(hk:m.hd.length < 1000000):Calls Try.prog 14 #[.pointer (some ⟨g,0,none⟩),.slice none 0 0] w (LoseQ w base g gb H cs cw ch m []):=by
 have hmn:∀W,(Builtin.min_ #[3,3] 3 #[.int .i64 0,.int .i64 4096]).run Try.prog W=.ok (.int .i64 0) W:=fun W=>by kernel_rfl
 have b1:Below w.heap.size w (w.alloc (.cells #[.slice none 0 0] 24)):=(Below.refl _ _).alloc (Nat.le_refl _) _
 have U0:=up_any (D.below b1).blk (by have:=D.n0;omega)
 rw[hu] at U0
 have U0:=Lib.hid U0
 have D1:=D.below b1
 have hcell:(w.alloc (.cells #[.slice none 0 0] 24)).cell? ⟨w.heap.size,0,none⟩=some (.slice none 0 0):=(Bl.new_ w 24 #[.slice none 0 0]).cell_ (i:=0) rfl
 have hgw:gb < w.heap.size:=(Array.getElem?_eq_some_iff.1 D.byt).1
 have CC:∀i:Nat,i < m.hd.length→∀W,Gx [gb] (w.alloc (.cells #[.slice none 0 0] 24)) W→Calls Try.prog 36 #[.int .i64 (i:Int),.pointer (some ⟨w.heap.size,0,none⟩)] W fun e w'=>e=.returned (.bool (chosen [] i))∧W=w':=by
  intro i hi W hW
  refine chosen_any w.heap.size none 0 0 [] W ?_ ⟨rfl,fun j v hj=>by simp at hj⟩ i (by omega)
  refine(World.cell?_of_block ?_).trans hcell
  exact hW.block _ (by simp) (by simp;omega)
 have S0:=Lib.hid (settle_some_go D1 hk w.heap.size (chosen []) CC)
 have G:=Lib.hid (Gx.of_below (S:=Ts g gb H) b1)
 have e1:m.lose []={ (m.put (chosen [])) with up:=false }:=by unfold M.lose;rw[if_pos hu];rfl
 have E1:=Lib.hid e1
 clear hcell CC b1 D D1 e1
 go_enter Try.func14,Try.ntmps14
 go_wp2_with (first|(go_at_call 9;(with_reducible refine U0.out.mono ?_);rintro e w1 ⟨rfl,rfl⟩)|(go_at_call 33;(with_reducible refine S0.out.mono ?_);rintro e w3 ⟨⟨v,rfl⟩,H',k1,k2,k3⟩;have K1:=Lib.hid k1;have K2:=Lib.hid k2;have K3:=Lib.hid k3;have x2:=k1.blk.c2;have y2:=k1.blk.fz 2;clear k1 k2 k3))
 refine bodyPost_end (results_none rfl _ _ _) rfl ?_
 exact⟨⟨_,rfl⟩,H',by rw[E1.out];exact K1.out.set2 false,K2.out,(G.out.trans K3.out).set (by simp[Ts]) _⟩
theorem Dd.cell(D:Dd w base g gb H cs cw ch m)(k:Nat)(v:Value){cw':Int}{m':M}(h1:m'.ss=m.ss)(h2:m'.hd=m.hd)(h3:m'.cp=m.cp)(h4:m'.tl=m.tl)(hB:DB (w.setCell ⟨g,k,none⟩ v) g gb (64*m.ss.length) m.cp H m'.up (m'.st:Int) cs cw' ch)(hC:Ct w base cs cw ch m.cut→Ct w base cs cw' ch m'.cut):Dd (w.setCell ⟨g,k,none⟩ v) base g gb H cs cw' ch m':=by
 have hG:Gx [g] w (w.setCell ⟨g,k,none⟩ v):=(Gx.refl _ _).set (by simp) _
 refine⟨by rw[h1,h3];exact hB,by rw[h1,h4];exact hG.bl (by simpa using Ne.symm D.g1) D.byt,by rw[h2];exact own_gx hG (fun b hb e=>D.h1 (by rw[List.mem_singleton.1 e] at hb;exact hb)) D.own,Ct.kept hG (fun b hb e=>D.c1 (by rw[List.mem_singleton.1 e] at hb;exact hb)) (hC D.cut),⟨by rw[h1];exact D.ok.row,by rw[h1,h2];exact D.ok.at_,by rw[h2];exact D.ok.long,by rw[h1,h3];exact D.ok.cpn⟩,by rw[h1];exact D.n0,by rw[h1];exact D.n9,D.b1,D.b2,D.g1,D.h1,D.h2,D.c1,D.c2,D.hc⟩
theorem Dd.tick(D:Dd w base g gb H cs cw ch m):Dd (w.setCell ⟨g,3,none⟩ (.int .i64 ((m.st:Int)+1))) base g gb H cs cw ch m.tick :=
 D.cell 3 _ rfl rfl rfl rfl (by have:=D.blk.set3 ((m.st:Int)+1);exact this) id
def StrQ(w:World)(base g gb:Nat)(H:Value)(cs:Bool)(ch:Value)(r:Nat × M)(e:Ending)(w':World):Prop:=e=.returned (.int .i64 (r.1:Int))∧∃H' cw',Dd w' base g gb H' cs cw' ch r.2∧H'.ownBlock=H.ownBlock∧Gx (Ts g gb H) w w'
set_option maxRecDepth 100000 in
set_option maxHeartbeats 4000000 in
theorem stroke_none_go(D:Dd w base g gb H cs cw ch m)(hc:m.cut=none)(hst:m.st < 1000000000):Calls Try.prog 32 #[.pointer (some ⟨g,0,none⟩)] w (StrQ w base g gb H cs ch m.stroke):=by
 have hr:m.stroke=(0,m.tick):=M.stroke_none hc
 have hct:=D.cut
 rw[hc] at hct
 obtain⟨rfl,rfl,rfl⟩:=hct
 have DT:=Lib.hid D.tick
 have c3:=D.blk.c3
 have f3:=D.blk.fz 3
 have c4:=DT.out.blk.c4
 have G:=Lib.hid (show Gx (Ts g gb H) w (w.setCell ⟨g,3,none⟩ (.int .i64 ((m.st:Int)+1))) from(Gx.refl _ _).set (by simp[Ts]) _)
 have e1:IntKind.i64.wrap ((m.st:Int)+1)=(m.st:Int)+1:=i64_in _ (by omega)
 obtain⟨w2,hw2⟩:∃w2,w.setCell ⟨g,3,none⟩ (.int .i64 ((m.st:Int)+1))=w2:=⟨_,rfl⟩
 rw[hw2] at c4 DT G
 have HR:=Lib.hid hr
 clear D hr
 go_enter Try.func32,Try.ntmps32
 go_wp2_with fail
 go_ret
 exact⟨by rw[HR.out];rfl,H,0,by rw[HR.out];exact DT.out,rfl,G.out⟩
set_option maxRecDepth 100000 in
set_option maxHeartbeats 4000000 in
theorem stroke_wait_go(D:Dd w base g gb H cs cw ch m)(k:Nat)(c:List Bool)(hc:m.cut=some (k+1,c))(hst:m.st < 1000000000):Calls Try.prog 32 #[.pointer (some ⟨g,0,none⟩)] w (StrQ w base g gb H cs ch m.stroke):=by
 have hr:m.stroke=(0,{ m.tick with cut:=some (k,c) }):=by unfold M.stroke;rw[hc]
 have hct:=D.cut
 rw[hc] at hct
 obtain⟨rfl,rfl,hk,hl,ho⟩:=hct
 have DT:=D.tick
 have DW:Dd ((w.setCell ⟨g,3,none⟩ (.int .i64 ((m.st:Int)+1))).setCell ⟨g,5,none⟩ (.int .i64 (k:Int))) base g gb H true (k:Int) ch { m.tick with cut:=some (k,c) }:=by
  refine DT.cell 5 _ rfl rfl rfl rfl (Bl.set_ DT.blk 5 _) fun hx=>?_
  have hx:Ct _ base true (((k+1:Nat):Int)) ch m.cut:=hx
  rw[hc] at hx
  exact⟨rfl,rfl,by omega,hl,hx.2.2.2.2⟩
 have c3:=D.blk.c3
 have f3:=D.blk.fz 3
 have c4:=DT.blk.c4
 have c5:=DT.blk.c5
 have f5:=DT.blk.fz 5
 have G:=Lib.hid (show Gx (Ts g gb H) w ((w.setCell ⟨g,3,none⟩ (.int .i64 ((m.st:Int)+1))).setCell ⟨g,5,none⟩ (.int .i64 (k:Int))) from((Gx.refl _ _).set (by simp[Ts]) _).set (by simp[Ts]) _)
 have e1:IntKind.i64.wrap ((m.st:Int)+1)=(m.st:Int)+1:=i64_in _ (by omega)
 have e2:((k+1:Nat):Int) - 1=(k:Int):=by omega
 have e3:(0:Int) < ((k+1:Nat):Int):=by omega
 have e4:IntKind.i64.wrap (k:Int)=(k:Int):=i64_in _ (by omega)
 obtain⟨w2,hw2⟩:∃w2,w.setCell ⟨g,3,none⟩ (.int .i64 ((m.st:Int)+1))=w2:=⟨_,rfl⟩
 rw[hw2] at c4 c5 f5 DW G
 obtain⟨K,hK⟩:∃K:Int,((k+1:Nat):Int)=K:=⟨_,rfl⟩
 rw[hK] at c5 e2 e3
 have DW:=Lib.hid DW
 have HR:=Lib.hid hr
 clear D hr DT ho hK
 go_enter Try.func32,Try.ntmps32
 go_wp2_with fail
 go_ret
 exact⟨by rw[HR.out];rfl,H,(k:Int),by rw[HR.out];exact DW.out,rfl,G.out⟩
theorem own_sl{w:World}{base:Nat}{t:TypeId}{q n cap:Nat}{xs:List Value}(h:w.ownsRow base t 1 (.slice (some ⟨q,0,none⟩) n cap) n xs):Sl w (some ⟨q,0,none⟩) n xs:=by
 obtain⟨hl,⟨e,-⟩|⟨g,cap',cur,e,hb,hh,h1,h2,h3,h4⟩⟩:=h
 ·cases e
 ·cases e
  rw[Nat.mul_one] at h4 hl
  refine Sl.of_bl hh 0 _ _ hl fun k v hk=>?_
  have hkn:k < n:=by have:=(List.getElem?_eq_some_iff.1 hk).1;omega
  rw[Nat.zero_add]
  rw[←h4,List.getElem?_take,if_pos hkn,Array.getElem?_toList] at hk
  exact hk
theorem lose_ch(D:Dd w base g gb H cs cw ch m)(hu:m.up=true)(hk:m.hd.length < 1000000)(c:List Bool)(V:Value)(hV:V.ownBlock≠some gb)(ho:w.ownsRow base 4 1 V c.length (c.map Value.bool)):Calls Try.prog 14 #[.pointer (some ⟨g,0,none⟩),V] w (LoseQ w base g gb H cs cw ch m c):=by
 have ho2:=ho
 obtain⟨hl,⟨rfl,h0⟩|⟨q,cap,cur,rfl,hb,hh,h1,h2,h3,h4⟩⟩:=ho
 ·obtain rfl:=List.length_eq_zero_iff.1 h0
  exact Lose_nil D hu hk
 ·exact Lose_up D hu hk ⟨q,0,none⟩ c.length cap c (own_sl ho2) h1 h2 (fun _ e=>hV (by rw[←e];rfl))
set_option maxRecDepth 100000 in
set_option maxHeartbeats 4000000 in
theorem stroke_cut_go(D:Dd w base g gb H cs cw ch m)(c:List Bool)(hc:m.cut=some (0,c))(hu:m.up=true)(hk:m.hd.length < 1000000)(hst:m.st < 1000000000):Calls Try.prog 32 #[.pointer (some ⟨g,0,none⟩)] w (StrQ w base g gb H cs ch m.stroke):=by
 have hr:m.stroke=(60,m.tick.lose c):=by unfold M.stroke;rw[hc]
 have hct:=D.cut
 rw[hc] at hct
 obtain⟨rfl,rfl,hk0,hl,ho⟩:=hct
 have DT:=D.tick
 have hct:=DT.cut
 have hc2:m.tick.cut=some (0,c):=hc
 rw[hc2] at hct
 have LC:=Lib.hid (lose_ch DT hu hk c ch D.c2 hct.2.2.2.2)
 have c3:=D.blk.c3
 have f3:=D.blk.fz 3
 have c4:=DT.blk.c4
 have c5:=DT.blk.c5
 have c6:=DT.blk.c6
 have G:=Lib.hid (show Gx (Ts g gb H) w (w.setCell ⟨g,3,none⟩ (.int .i64 ((m.st:Int)+1))) from(Gx.refl _ _).set (by simp[Ts]) _)
 have e1:IntKind.i64.wrap ((m.st:Int)+1)=(m.st:Int)+1:=i64_in _ (by omega)
 obtain⟨w2,hw2⟩:∃w2,w.setCell ⟨g,3,none⟩ (.int .i64 ((m.st:Int)+1))=w2:=⟨_,rfl⟩
 rw[hw2] at c4 c5 c6 LC G
 have HR:=Lib.hid hr
 clear D hr DT ho hct hc hc2 hu
 go_enter Try.func32,Try.ntmps32
 go_wp2_with (go_at_call 14;(with_reducible refine LC.out.mono ?_);rintro e w3 ⟨⟨v,rfl⟩,H',k1,k2,k3⟩;have K1:=Lib.hid k1;have K2:=Lib.hid k2;have K3:=Lib.hid k3;clear k1 k2 k3)
 go_ret
 exact⟨by rw[HR.out];rfl,H',((0:Nat):Int),by rw[HR.out];exact K1.out,K2.out,G.out.trans K3.out⟩
theorem stroke_go(D:Dd w base g gb H cs cw ch m)(hu:m.up=true)(hk:m.hd.length < 1000000)(hst:m.st < 1000000000):Calls Try.prog 32 #[.pointer (some ⟨g,0,none⟩)] w (StrQ w base g gb H cs ch m.stroke):=by
 cases hc:m.cut with
 |none=>exact stroke_none_go D hc hst
 |some kc =>
  obtain⟨k,c⟩:=kc
  cases k with
  |zero=>exact stroke_cut_go D c hc hu hk hst
  |succ k=>exact stroke_wait_go D k c hc hst
end
end Go.Proofs.Ytbgkdbjineennaa.Dk
