/- Joined texts. -/
import Derived.Test.YtbgkdbjineennaaQcDkSd
set_option linter.unusedVariables false
namespace Go.Proofs.Ytbgkdbjineennaa.Dk
open Go.IntWalk Go.RowKit Go.Proofs.Ytbgkdbjineennaa.Gn Go.Proofs.Ytbgkdbjineennaa.Fd Go.Deep
section
set_option maxRecDepth 100000 in
theorem chosen_any(B:Nat)(A:Option Addr)(n cap:Nat)(c:List Bool)(W:World)(hB:W.cell? ⟨B,0,none⟩=some (.slice A n cap))(hs:Sl W A n (c.map Value.bool))(i:Nat)(hi:i < 1000000):Calls Try.prog 36 #[.int .i64 (i:Int),.pointer (some ⟨B,0,none⟩)] W fun e w'=>e=.returned (.bool (c.getD i false))∧W=w':=by
 have hl:c.length=n:=by have:=hs.1;rwa [List.length_map] at this
 by_cases h:i < n
 ·obtain⟨b,hb⟩:∃b,c[i]?=some b:=⟨_,List.getElem?_eq_getElem (by omega)⟩
  obtain⟨ad,rfl,hc⟩:=hs.2 i (.bool b) (by rw[List.getElem?_map,hb];rfl)
  have hg:c.getD i false=b:=by rw[List.getD,hb];rfl
  have q1:(i:Int) < (n:Int):=by omega
  have q0:(0:Int)≤(i:Int):=by omega
  rw[hg]
  clear hs hl hb hg
  go_enter Try.func36,Try.ntmps36
  go_wp2_with fail
  go_ret
  exact⟨rfl,rfl⟩
 ·have hg:c.getD i false=false:=by rw[List.getD,List.getElem?_eq_none (by omega)];rfl
  have q1:¬(i:Int) < (n:Int):=by omega
  rw[hg]
  clear hs hl hg
  go_enter Try.func36,Try.ntmps36
  go_wp2_with fail
  go_ret
  exact⟨rfl,rfl⟩
variable {w:World} {base g gb:Nat} {H:Value} {cs:Bool} {cw:Int} {ch:Value} {m:M}
def LoseQ(w:World)(base g gb:Nat)(H:Value)(cs:Bool)(cw:Int)(ch:Value)(m:M)(c:List Bool)(e:Ending)(w':World):Prop:=(∃v,e=.returned v)∧∃H',Dd w' base g gb H' cs cw ch (m.lose c)∧H'.ownBlock=H.ownBlock∧Gx (Ts g gb H) w w'
theorem sl_gx{w w':World}{S:List Nat}(h:Gx S w w'){A:Option Addr}{n:Nat}{xs:List Value}(hA:∀ad,A=some ad→ad.block∉S)(hs:Sl w A n xs):Sl w' A n xs:=by
 refine⟨hs.1,fun j v hj=>?_⟩
 obtain⟨ad,rfl,hc⟩:=hs.2 j v hj
 refine⟨ad,rfl,?_⟩
 have hb:(ad.add j).block=ad.block:=add_block ad j
 refine(World.cell?_of_block (w:=w) ?_).trans hc
 refine h.block _ ?_ (by rw[hb];exact hA ad rfl)
 exact cell_lt hc
theorem sl_gx0{w w':World}{S:List Nat}(h:Gx S w w'){A:Option Addr}{n:Nat}{xs:List Value}(hA:∀ad,A=some ad→0 < n→ad.block∉S)(hs:Sl w A n xs):Sl w' A n xs:=by
 rcases Nat.eq_zero_or_pos n with rfl|hn
 ·exact⟨hs.1,fun k v hk=>by rw[List.length_eq_zero_iff.1 hs.1] at hk;simp at hk⟩
 ·exact sl_gx h (fun ad e=>hA ad e hn) hs
theorem Dd.set2(D:Dd w base g gb H cs cw ch m)(v:Bool):Dd (w.setCell ⟨g,2,none⟩ (.bool v)) base g gb H cs cw ch { m with up:=v }:=by
 have hG:Gx [g] w (w.setCell ⟨g,2,none⟩ (.bool v)):=(Gx.refl _ _).set (by simp) _
 exact⟨D.blk.set2 v,hG.bl (by simpa using Ne.symm D.g1) D.byt,own_gx hG (fun b hb e=>D.h1 (by rw[List.mem_singleton.1 e] at hb;exact hb)) D.own,Ct.kept hG (fun b hb e=>D.c1 (by rw[List.mem_singleton.1 e] at hb;exact hb)) D.cut,⟨D.ok.row,D.ok.at_,D.ok.long,D.ok.cpn⟩,D.n0,D.n9,D.b1,D.b2,D.g1,D.h1,D.h2,D.c1,D.c2,D.hc⟩
set_option maxRecDepth 100000 in
theorem Lose_down(D:Dd w base g gb H cs cw ch m)(hu:m.up=false)(A:Option Addr)(n cap:Nat)(c:List Bool):Calls Try.prog 14 #[.pointer (some ⟨g,0,none⟩),.slice A n cap] w (LoseQ w base g gb H cs cw ch m c):=by
 have b0:Below w.heap.size w (w.alloc (.cells #[.slice A n cap] 24)):=(Below.refl _ _).alloc (Nat.le_refl _) _
 have D1:=Lib.hid (D.below b0)
 have U0:=up_any D1.out.blk (by have:=D.n0;omega)
 rw[hu] at U0
 have U0:=Lib.hid U0
 have G:=Lib.hid (Gx.of_below (S:=Ts g gb H) b0)
 have e1:m.lose c=m:=by unfold M.lose;rw[if_neg (by rw[hu];decide)]
 have E1:=Lib.hid e1
 clear b0 D e1 hu
 go_enter Try.func14,Try.ntmps14
 go_wp2_with (go_at_call 9;(with_reducible refine U0.out.mono ?_);rintro e w1 ⟨rfl,rfl⟩)
 refine bodyPost_end (results_none rfl _ _ _) rfl ?_
 exact⟨⟨_,rfl⟩,H,by rw[E1.out];exact D1.out,rfl,G.out⟩
set_option maxRecDepth 100000 in
set_option maxHeartbeats 4000000 in
theorem Lose_up(D:Dd w base g gb H cs cw ch m)(hu:m.up=true)(hk:m.hd.length < 1000000)(ad:Addr)(n cap:Nat)(c:List Bool)(hs:Sl w (some ad) n (c.map Value.bool))(hcap:n≤cap)(hn9:cap≤maxLen)(hab:0 < n→ad.block≠gb):Calls Try.prog 14 #[.pointer (some ⟨g,0,none⟩),.slice (some ad) n cap] w (LoseQ w base g gb H cs cw ch m c):=by
 obtain⟨k,hk4⟩:∃k,k=Nat.min n 4096:=⟨_,rfl⟩
 have hkn:k≤n:=by rw[hk4];exact Nat.min_le_left _ _
 have hmn:∀W,(Builtin.min_ #[3,3] 3 #[.int .i64 (n:Int),.int .i64 4096]).run Try.prog W=.ok (.int .i64 (k:Int)) W:=by
  intro W
  simp only[Builtin.min_,List.foldlM_cons,List.foldlM_nil,Builtin.min2,bind_pure]
  show Result.ok (Value.int .i64 (if(4096:Int) < (n:Int) then 4096 else(n:Int))) W=_
  congr 2
  rw[hk4]
  by_cases h:n≤4096
  ·rw[if_neg (by omega),show Nat.min n 4096=n from Nat.min_eq_left h]
  ·rw[if_pos (by omega),show Nat.min n 4096=4096 from Nat.min_eq_right (by omega)];rfl
 have b0:Below w.heap.size w (w.alloc (.cells #[.slice (some ad) n cap] 24)):=(Below.refl _ _).alloc (Nat.le_refl _) _
 have b1:Below w.heap.size w (w.alloc (.cells #[.slice (some ad) k cap] 24)):=(Below.refl _ _).alloc (Nat.le_refl _) _
 have U0:=up_any (D.below b0).blk (by have:=D.n0;omega)
 rw[hu] at U0
 have U0:=Lib.hid U0
 have D1:=D.below b1
 have hcell:(w.alloc (.cells #[.slice (some ad) k cap] 24)).cell? ⟨w.heap.size,0,none⟩=some (.slice (some ad) k cap):=(Bl.new_ w 24 #[.slice (some ad) k cap]).cell_ (i:=0) rfl
 have hs1:Sl (w.alloc (.cells #[.slice (some ad) k cap] 24)) (some ad) k ((c.take 4096).map Value.bool):=by
  have h1:=hs.below b1
  have hl:c.length=n:=by have:=hs.1;rwa [List.length_map] at this
  refine⟨by rw[List.length_map,List.length_take,hl,hk4];exact Nat.min_comm _ _,fun j v hj=>?_⟩
  refine h1.2 j v ?_
  rw[List.getElem?_map] at hj ⊢
  rw[List.getElem?_take] at hj
  split at hj
  ·exact hj
  ·simp at hj
 have hgw:gb < w.heap.size:=(Array.getElem?_eq_some_iff.1 D.byt).1
 have CC:∀i:Nat,i < m.hd.length→∀W,Gx [gb] (w.alloc (.cells #[.slice (some ad) k cap] 24)) W→Calls Try.prog 36 #[.int .i64 (i:Int),.pointer (some ⟨w.heap.size,0,none⟩)] W fun e w'=>e=.returned (.bool (chosen c i))∧W=w':=by
  intro i hi W hW
  refine chosen_any w.heap.size (some ad) k cap (c.take 4096) W ?_ (sl_gx0 hW (fun a e h0=>by cases e;simpa using hab (by omega)) hs1) i (by omega)
  refine(World.cell?_of_block ?_).trans hcell
  exact hW.block _ (by simp) (by simp;omega)
 have S0:=Lib.hid (settle_some_go D1 hk w.heap.size (chosen c) CC)
 have G:=Lib.hid (Gx.of_below (S:=Ts g gb H) b1)
 have e1:m.lose c={ (m.put (chosen c)) with up:=false }:=by unfold M.lose;rw[if_pos hu];rfl
 have E1:=Lib.hid e1
 have hko:k≤4096:=by rw[hk4];exact Nat.min_le_right _ _
 have q1:(k:Int)≤(cap:Int):=by omega
 have q0:(0:Int)≤(k:Int):=by omega
 clear hs hs1 hcell CC b0 b1 D D1 e1 hk4
 go_enter Try.func14,Try.ntmps14
 go_wp2_with (first|(go_at_call 9;(with_reducible refine U0.out.mono ?_);rintro e w1 ⟨rfl,rfl⟩)|(go_at_call 33;(with_reducible refine S0.out.mono ?_);rintro e w3 ⟨⟨v,rfl⟩,H',k1,k2,k3⟩;have K1:=Lib.hid k1;have K2:=Lib.hid k2;have K3:=Lib.hid k3;have x2:=k1.blk.c2;have y2:=k1.blk.fz 2;clear k1 k2 k3))
 refine bodyPost_end (results_none rfl _ _ _) rfl ?_
 exact⟨⟨_,rfl⟩,H',by rw[E1.out];exact K1.out.set2 false,K2.out,(G.out.trans K3.out).set (by simp[Ts]) _⟩
end
end Go.Proofs.Ytbgkdbjineennaa.Dk
