/- Joined texts. -/
import Derived.Test.YtbgkdbjineennaaQcDkSi
set_option linter.unusedVariables false
namespace Go.Proofs.Ytbgkdbjineennaa.Dk
open Go.IntWalk Go.RowKit Go.Proofs.Ytbgkdbjineennaa.Gn Go.Proofs.Ytbgkdbjineennaa.Fd Go.Deep
def CloneBQ(c:List Bool)(w:World)(e:Ending)(w':World):Prop:=∃v,e=.returned v∧w'.ownsRow w.heap.size 4 1 v c.length (c.map Value.bool)∧Below w.heap.size w w'
theorem own_shape{w:World}{base size n:Nat}{e:TypeId}{v:Value}{xs:List Value}(ho:w.ownsRow base e size v n xs):∃A k c,v=.slice A k c:=by
 obtain⟨-, ⟨rfl,-⟩|⟨g,cap,cur,rfl,-⟩⟩:=ho
 ·exact⟨_,_,_,rfl⟩
 ·exact⟨_,_,_,rfl⟩
theorem own_ge{w:World}{base size n:Nat}{e:TypeId}{v:Value}{xs:List Value}(ho:w.ownsRow base e size v n xs){q:Nat}(hq:v.ownBlock=some q):base≤q:=by
 obtain⟨-, ⟨rfl,-⟩|⟨g,cap,cur,rfl,hb,-⟩⟩:=ho
 ·cases hq
 ·cases hq;exact hb
theorem own_mono{w:World}{base b2 size n:Nat}{e:TypeId}{v:Value}{xs:List Value}(ho:w.ownsRow base e size v n xs)(h:b2≤base):w.ownsRow b2 e size v n xs:=by
 obtain⟨hl,⟨rfl,h0⟩|⟨g,cap,cur,rfl,hb,hr⟩⟩:=ho
 ·exact⟨hl,.inl ⟨rfl,h0⟩⟩
 ·exact⟨hl,.inr ⟨g,cap,cur,rfl,Nat.le_trans h hb,hr⟩⟩
theorem bools_one(c:List Bool):∀v∈c.map Value.bool,v.oneCell'=true:=by
 intro v hv
 obtain⟨b,-, rfl⟩:=List.mem_map.1 hv
 rfl
set_option maxRecDepth 100000 in
theorem cloneB_nil(w:World):Calls Try.prog 40 #[.slice none 0 0] w (CloneBQ [] w):=by
 go_enter Try.func40,Try.ntmps40
 have hne:∀w,Sem.run Try.prog (binOp .eql 24 (.slice none 0 0) (.slice none 0 0)) w=.ok (.bool true) w:=fun w=>by kernel_rfl
 go_wp2_with fail
 go_ret
 exact⟨_,rfl,⟨rfl,.inl ⟨rfl,rfl⟩⟩,Below.refl _ _⟩
set_option maxRecDepth 100000 in
set_option maxHeartbeats 4000000 in
theorem cloneB_some(ad:Addr)(n cap:Nat)(c:List Bool)(w:World)(hs:Sl w (some ad) n (c.map Value.bool))(hn9:n≤100000) :
  Calls Try.prog 40 #[.slice (some ad) n cap] w (CloneBQ c w):=by
 have hl:c.length=n:=by have:=hs.1;rwa [List.length_map] at this
 obtain⟨i0,hi,hz0,hz1,hz2⟩:=info_parts (show(Try.prog.info? 4).map (fun i=>(i.zero,i.size,i.bytes))=some (some (.bool false),1,1) by kernel_rfl)
 go_enter Try.func40,Try.ntmps40
 have hne:∀w,Sem.run Try.prog (binOp .eql 24 (.slice (some ad) n cap) (.slice none 0 0)) w=.ok (.bool false) w:=fun w=>by kernel_rfl
 go_upto_region 3 with(fail)
 refine wp_region_lit ?_
 refine sq_new (w.alloc (.cells #[] 4)) (.slice (some ⟨w.heap.size,0,none⟩) 0 0) rfl (by kernel_rfl) ?_
 refine sq_run (.slice (some ad) n cap) rfl (by kernel_rfl) ?_
 refine wpList_append_sl rfl (.tmp 5) (.tmp 6) 24 rfl w.heap.size 4 i0 _ 1 Try.underlying24 hi hz0 hz1 hz2 rfl (.slice (some ⟨w.heap.size,0,none⟩) 0 0) 0 [] rfl (own_new w 4 [] (by decide)) (some ad) n cap (c.map Value.bool) rfl (by simp) (hs.below ((Below.refl _ _).alloc (Nat.le_refl _) _)) (bools_one c) (by unfold maxLen;omega) (by omega) (by simp) ?_
 intro v' w1 hown hgrow
 rw[Nat.zero_add,List.nil_append] at hown
 have hB:Below w.heap.size w w1:=((Below.refl w.heap.size w).alloc (Nat.le_refl _) (.cells #[] 4)).grown hgrow (by simp) (by intro k e;simp[Value.ownBlock] at e;omega)
 have HO:=Lib.hid hown
 have HB:=Lib.hid hB
 clear hB hgrow
 obtain⟨-, ⟨rfl,h0⟩|⟨g,cp,cur,rfl,-⟩⟩:=hown
 ·refine sq_run (.slice none 0 0) rfl (by kernel_rfl) ?_
  refine sq_done ?_
  simp only[Act.put,List.setIfInBounds_toArray,List.set_cons_zero,List.set_cons_succ]
  go_wp2_with fail
  go_ret
  exact⟨_,rfl,by rw[hl];exact HO.out,HB.out⟩
 ·refine sq_run (.slice (some ⟨g,0,none⟩) n cp) rfl (by kernel_rfl) ?_
  refine sq_done ?_
  simp only[Act.put,List.setIfInBounds_toArray,List.set_cons_zero,List.set_cons_succ]
  go_wp2_with fail
  go_ret
  exact⟨_,rfl,by rw[hl];exact HO.out,HB.out⟩
theorem cloneB(A:Option Addr)(n cap:Nat)(c:List Bool)(w:World)(hs:Sl w A n (c.map Value.bool))(hA:A=none→n=0∧cap=0)(hn9:n≤100000):Calls Try.prog 40 #[.slice A n cap] w (CloneBQ c w):=by
 cases A with
 |none =>
  obtain⟨rfl,rfl⟩:=hA rfl
  obtain rfl:c=[]:=by have:=hs.1;rw[List.length_map] at this;exact List.length_eq_zero_iff.1 this
  exact cloneB_nil w
 |some ad=>exact cloneB_some ad n cap c w hs hn9
section
variable {w:World} {base g gb:Nat} {H:Value} {cs:Bool} {cw:Int} {ch:Value} {m:M}
def SetQ(w:World)(base g gb:Nat)(H:Value)(ch:Value)(r:Nat × M)(e:Ending)(w':World):Prop:=e=.returned (.int .i64 (r.1:Int))∧∃cs' cw' ch',Dd w' base g gb H cs' cw' ch' r.2∧(ch'=ch∨∀q,ch'.ownBlock=some q→w.heap.size≤q)∧Gx [g] w w'
set_option maxRecDepth 100000 in
set_option maxHeartbeats 4000000 in
theorem Set_dd(D:Dd w base g gb H cs cw ch m)(a:Int)(ha:a < 9223372036854775808)(A:Option Addr)(n cap:Nat)(c:List Bool)(hs:Sl w A n (c.map Value.bool))(hA:A=none→n=0∧cap=0):Calls Try.prog 28 #[.pointer (some ⟨g,0,none⟩),.int .i64 a,.slice A n cap] w (SetQ w base g gb H ch (m.set a c)):=by
 have hl:c.length=n:=by have:=hs.1;rwa [List.length_map] at this
 have C:=Lib.hid (none_any D.blk (by have:=D.n0;omega))
 have DD:=Lib.hid D
 unfold M.set
 by_cases h0:a < 0
 ·rw[if_pos h0]
  clear D hs hA
  go_enter Try.func28,Try.ntmps28
  go_wp2_with (go_at_call 30;(with_reducible refine C.out.mono ?_);rintro e w1 ⟨rfl,rfl⟩)
  go_ret
  exact⟨rfl,cs,cw,ch,DD.out,.inl rfl,Gx.refl _ _⟩
 ·rw[if_neg h0]
  by_cases h1:4096 < n
  ·rw[if_pos (by omega)]
   have q1:(4096:Int) < (n:Int):=by omega
   clear D hs hA
   go_enter Try.func28,Try.ntmps28
   go_wp2_with (go_at_call 30;(with_reducible refine C.out.mono ?_);rintro e w1 ⟨rfl,rfl⟩)
   go_ret
   exact⟨rfl,cs,cw,ch,DD.out,.inl rfl,Gx.refl _ _⟩
  ·rw[if_neg (by omega)]
   have q1:¬(4096:Int) < (n:Int):=by omega
   have CB:=Lib.hid (cloneB A n cap c w hs hA (by omega))
   have hgb:=Lib.hid (show gb < w.heap.size from(Array.getElem?_eq_some_iff.1 D.byt).1)
   have hg:=Lib.hid (show g < w.heap.size from(Array.getElem?_eq_some_iff.1 D.blk).1)
   have HL:=Lib.hid (show c.length≤4096 by omega)
   clear D hs hA hl h1
   go_enter Try.func28,Try.ntmps28
   go_wp2_with (first|(go_at_call 30;(with_reducible refine C.out.mono ?_);rintro e w1 ⟨rfl,rfl⟩)|(go_at_call 40;(with_reducible refine CB.out.mono ?_);rintro e w2 ⟨v,rfl,k1,k2⟩;obtain⟨vA,vn,vc,rfl⟩:=own_shape k1;have K1:=Lib.hid k1;have K2:=Lib.hid k2;have D2:=DD.out.below k2;have c4:=D2.blk.c4;have c5:=D2.blk.c5;have c6:=D2.blk.c6;have f4:=D2.blk.fz 4;have f5:=D2.blk.fz 5;have f6:=D2.blk.fz 6;clear D2 k1 k2))
   go_ret
   have D2:=DD.out.below K2.out
   have hG:Gx [g] w (((w2.setCell ⟨g,4,none⟩ (.bool true)).setCell ⟨g,5,none⟩ (.int .i64 a)).setCell ⟨g,6,none⟩ (.slice vA vn vc)):=(((Gx.of_below K2.out).set (by simp) _).set (by simp) _).set (by simp) _
   have hG2:Gx [g] w2 (((w2.setCell ⟨g,4,none⟩ (.bool true)).setCell ⟨g,5,none⟩ (.int .i64 a)).setCell ⟨g,6,none⟩ (.slice vA vn vc)):=(((Gx.refl _ _).set (by simp) _).set (by simp) _).set (by simp) _
   have hnew:∀q,(Value.slice vA vn vc).ownBlock=some q→w.heap.size≤q:=fun q hq=>own_ge K1.out hq
   refine⟨rfl,true,a,.slice vA vn vc,D2.turn rfl rfl rfl rfl hG2 (Bl.set_ (Bl.set_ (Bl.set_ D2.blk 4 _) 5 _) 6 _) ⟨rfl,by omega,by omega,HL.out,?_⟩ ?_ ?_ ?_,.inr hnew,hG⟩
   ·refine own_mono (own_gx hG2 (fun b hb e=>?_) K1.out) (by have:=DD.out.b1;have:=hg.out;omega)
    have:=hnew b hb
    have:=hg.out
    rw[List.mem_singleton.1 e] at *
    omega
   ·intro e;have:=hnew g e;have:=hg.out;omega
   ·intro e;have:=hnew gb e;have:=hgb.out;omega
   ·intro b hb e
    have:=hnew b e
    have:=own_lt DD.out.own hb
    omega
end
end Go.Proofs.Ytbgkdbjineennaa.Dk
