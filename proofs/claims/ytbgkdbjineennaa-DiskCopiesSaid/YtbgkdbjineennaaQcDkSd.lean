/- Joined texts. -/
import Derived.Test.YtbgkdbjineennaaQcDkSt
import Derived.Test.YtbgkdbjineennaaQcDkI
set_option linter.unusedVariables false
namespace Go.Proofs.Ytbgkdbjineennaa.Dk
open Go.IntWalk Go.RowKit Go.Proofs.Ytbgkdbjineennaa.Gn Go.Proofs.Ytbgkdbjineennaa.Fd Go.Deep
def Ct(w:World)(base:Nat)(cs:Bool)(cw:Int)(ch:Value):Option (Nat × List Bool)→Prop
 |none=>cs=false∧cw=0∧ch=.slice none 0 0
 |some (k,c)=>cs=true∧cw=(k:Int)∧k < 9223372036854775808∧c.length≤4096∧w.ownsRow base 4 1 ch c.length (c.map Value.bool)
structure Dd (w:World) (base g gb:Nat) (H:Value) (cs:Bool) (cw:Int) (ch:Value) (m:M):Prop where
 blk:DB w g gb (64*m.ss.length) m.cp H m.up (m.st:Int) cs cw ch
 byt:RT w gb m.ss.flatten m.tl
 own:w.ownsRow base 67 65 H m.hd.length (hrow m.hd)
 cut:Ct w base cs cw ch m.cut
 ok:m.Ok
 n0:0 < m.ss.length
 n9:m.ss.length≤100000
 b1:base≤g
 b2:base≤gb
 g1:g≠gb
 h1:H.ownBlock≠some g
 h2:H.ownBlock≠some gb
 c1:ch.ownBlock≠some g
 c2:ch.ownBlock≠some gb
 hc:∀b,H.ownBlock=some b→ch.ownBlock≠some b
def Ts(g gb:Nat)(H:Value):List Nat:=g :: gb :: H.ownBlock.toList
theorem own_gx{w w':World}{S:List Nat}(h:Gx S w w'){base size n:Nat}{e:TypeId}{v:Value}{xs:List Value}(hv:∀b,v.ownBlock=some b→b∉S)(ho:w.ownsRow base e size v n xs):w'.ownsRow base e size v n xs:=by
 obtain⟨hl,⟨rfl,h0⟩|⟨g,cap,cur,rfl,hb,hh,h1,h2,h3,h4⟩⟩:=ho
 ·exact⟨hl,.inl ⟨rfl,h0⟩⟩
 ·refine⟨hl,.inr ⟨g,cap,cur,rfl,hb,?_,h1,h2,h3,h4⟩⟩
  have hg:g∉S:=hv g rfl
  exact(h.block g (Array.getElem?_eq_some_iff.1 hh).1 hg).trans hh
theorem Ct.kept{w w':World}{S:List Nat}(h:Gx S w w'){base:Nat}{cs:Bool}{cw:Int}{ch:Value}{o:Option (Nat × List Bool)}(hv:∀b,ch.ownBlock=some b→b∉S)(hc:Ct w base cs cw ch o):Ct w' base cs cw ch o:=by
 cases o with
 |none=>exact hc
 |some k=>exact⟨hc.1,hc.2.1,hc.2.2.1,hc.2.2.2.1,own_gx h hv hc.2.2.2.2⟩
section
variable {w:World} {base g gb:Nat} {H:Value} {cs:Bool} {cw:Int} {ch:Value} {m:M}
theorem Dd.ts(D:Dd w base g gb H cs cw ch m):∀b,ch.ownBlock=some b→b∉Ts g gb H:=by
 intro b hb hm
 simp only[Ts,List.mem_cons,Option.mem_toList] at hm
 rcases hm with rfl|rfl|hm
 ·exact D.c1 hb
 ·exact D.c2 hb
 ·exact D.hc b hm hb
theorem Dd.kept(D:Dd w base g gb H cs cw ch m){S:List Nat}{w':World}(h:Gx S w w')(hS:∀b∈S,b≠g∧b≠gb∧H.ownBlock≠some b∧ch.ownBlock≠some b):Dd w' base g gb H cs cw ch m :=
 ⟨D.blk.kept h (fun e=>(hS g e).1 rfl),h.bl (fun e=>(hS gb e).2.1 rfl) D.byt,own_gx h (fun b hb e=>(hS b e).2.2.1 hb) D.own,Ct.kept h (fun b hb e=>(hS b e).2.2.2 hb) D.cut,D.ok,D.n0,D.n9,D.b1,D.b2,D.g1,D.h1,D.h2,D.c1,D.c2,D.hc⟩
theorem Dd.below(D:Dd w base g gb H cs cw ch m){w':World}(h:Below w.heap.size w w'):Dd w' base g gb H cs cw ch m:=D.kept (Gx.of_below (S:=[]) h) (fun b hb=>by cases hb)
def M.put(m:M)(f:Nat→Bool):M:={ m with ss:=sett f 0 m.hd m.ss,hd:=[] }
theorem Dd.put(D:Dd w base g gb H cs cw ch m)(f:Nat→Bool){w':World}{H':Value}(hG:Gx (Ts g gb H) w w')(hB:DB w' g gb (64*m.ss.length) m.cp H' m.up (m.st:Int) cs cw ch)(hR:RT w' gb (sett f 0 m.hd m.ss).flatten m.tl)(hO:w'.ownsRow base 67 65 H' 0 [])(hH:H'.ownBlock=H.ownBlock):Dd w' base g gb H' cs cw ch (m.put f):=by
 have hl:(sett f 0 m.hd m.ss).length=m.ss.length:=sett_length _ _ _ _
 refine⟨?_,hR,hO,Ct.kept hG D.ts D.cut,⟨sett_row _ _ _ _ D.ok.row D.ok.long,(fun _ e=>by cases e),(fun _ e=>by cases e),by show 64*(sett f 0 m.hd m.ss).length≤m.cp;rw[sett_length];exact D.ok.cpn⟩,?_,?_,D.b1,D.b2,D.g1,by rw[hH];exact D.h1,by rw[hH];exact D.h2,D.c1,D.c2,by rw[hH];exact D.hc⟩
 ·show DB w' g gb (64*(sett f 0 m.hd m.ss).length) m.cp H' m.up (m.st:Int) cs cw ch
  rw[hl];exact hB
 ·show 0 < (sett f 0 m.hd m.ss).length
  rw[hl];exact D.n0
 ·show(sett f 0 m.hd m.ss).length≤_
  rw[hl];exact D.n9
set_option maxRecDepth 100000 in
theorem settle_all_nil{n cp:Nat}{up:Bool}{st:Int}(h:DB w g gb n cp (.slice none 0 0) up st cs cw ch):Calls Try.prog 33 #[.pointer (some ⟨g,0,none⟩),.func (.func 34) #[] #[]] w fun e w'=>(∃v,e=.returned v)∧w'=w.setCell ⟨g,1,none⟩ (.slice none 0 0):=by
 have c1:=h.c1
 have f1:=h.fz 1
 have hcl:(Builtin.clear_ #[56] 0 #[.slice none 0 0]).run Try.prog w=.ok (.tuple #[]) w:=by simp[Builtin.clear_,run_underlying Try.underlying56]
 clear h
 go_enter Try.func33,Try.ntmps33
 go_wp2_with fail
 go_loopw [11] (fun s wr=>s=.int .i64 0∧w=wr) (fun _ _=>0)
 case atStart=>exact⟨rfl,rfl⟩
 case round =>
  obtain⟨rfl,rfl⟩:=hrel
  go_wp2_with fail
  refine bodyPost_end (results_none rfl _ _ _) rfl ?_
  exact⟨⟨_,rfl⟩,rfl⟩
set_option maxRecDepth 100000 in
theorem settle_some_nil{n cp:Nat}{up:Bool}{st:Int}(B:Nat)(h:DB w g gb n cp (.slice none 0 0) up st cs cw ch):Calls Try.prog 33 #[.pointer (some ⟨g,0,none⟩),.func (.func 36) #[] #[.pointer (some ⟨B,0,none⟩)]] w fun e w'=>(∃v,e=.returned v)∧w'=w.setCell ⟨g,1,none⟩ (.slice none 0 0):=by
 have c1:=h.c1
 have f1:=h.fz 1
 have hcl:(Builtin.clear_ #[56] 0 #[.slice none 0 0]).run Try.prog w=.ok (.tuple #[]) w:=by simp[Builtin.clear_,run_underlying Try.underlying56]
 clear h
 go_enter Try.func33,Try.ntmps33
 go_wp2_with fail
 go_loopw [11] (fun s wr=>s=.int .i64 0∧w=wr) (fun _ _=>0)
 case atStart=>exact⟨rfl,rfl⟩
 case round =>
  obtain⟨rfl,rfl⟩:=hrel
  go_wp2_with fail
  refine bodyPost_end (results_none rfl _ _ _) rfl ?_
  exact⟨⟨_,rfl⟩,rfl⟩
theorem settle_all_go(D:Dd w base g gb H cs cw ch m)(hk:m.hd.length < 1000000):Calls Try.prog 33 #[.pointer (some ⟨g,0,none⟩),.func (.func 34) #[] #[]] w fun e w'=>(∃v,e=.returned v)∧∃H',Dd w' base g gb H' cs cw ch (m.put fun _=>true)∧H'.ownBlock=H.ownBlock∧Gx (Ts g gb H) w w':=by
 obtain⟨hl,⟨rfl,h0⟩|⟨gh,cap,cur,rfl,hb,hh,h1,h2,h3,h4⟩⟩:=D.own
 ·refine(settle_all_nil D.blk).mono ?_
  rintro e w' ⟨hv,rfl⟩
  have hd0:m.hd=[]:=List.length_eq_zero_iff.1 h0
  have hG:Gx (Ts g gb (.slice none 0 0)) w (w.setCell ⟨g,1,none⟩ (.slice none 0 0)):=(Gx.refl _ _).set (by simp[Ts]) _
  refine⟨hv,.slice none 0 0,D.put _ hG (D.blk.set1 _) ?_ ⟨rfl,.inl ⟨rfl,rfl⟩⟩ rfl,rfl,hG⟩
  rw[hd0]
  exact Bl.other D.byt (by simpa using Ne.symm D.g1) _
 ·have e1:g≠gh:=fun e=>D.h1 (by rw[e];rfl)
  have e2:gb≠gh:=fun e=>D.h2 (by rw[e];rfl)
  refine(settle_all gh cap _ m.ss.length rfl D.n0 D.n9 D.ok.cpn m.hd _ rfl m.ss cur D.blk D.byt D.ok.row rfl D.ok.at_ D.ok.long hh h1 hk h3 h4 D.g1 e1 e2 (fun _=>true) (fun i hi W hW=>all_true _ W)).mono ?_
  rintro e w' ⟨hv,cur',k1,k2,k3,k4,k5⟩
  have hG:Gx (Ts g gb (.slice (some ⟨gh,0,none⟩) m.hd.length cap)) w w':=k5.mono (by simp[Ts,Value.ownBlock])
  exact⟨hv,.slice (some ⟨gh,0,none⟩) 0 cap,D.put _ hG k1 k2 (own_empty hb k3 h2 k4) rfl,rfl,hG⟩
theorem settle_some_go(D:Dd w base g gb H cs cw ch m)(hk:m.hd.length < 1000000)(B:Nat)(f:Nat→Bool)(C:∀i:Nat,i < m.hd.length→∀W,Gx [gb] w W→Calls Try.prog 36 #[.int .i64 (i:Int),.pointer (some ⟨B,0,none⟩)] W fun e w'=>e=.returned (.bool (f i))∧W=w'):Calls Try.prog 33 #[.pointer (some ⟨g,0,none⟩),.func (.func 36) #[] #[.pointer (some ⟨B,0,none⟩)]] w fun e w'=>(∃v,e=.returned v)∧∃H',Dd w' base g gb H' cs cw ch (m.put f)∧H'.ownBlock=H.ownBlock∧Gx (Ts g gb H) w w':=by
 obtain⟨hl,⟨rfl,h0⟩|⟨gh,cap,cur,rfl,hb,hh,h1,h2,h3,h4⟩⟩:=D.own
 ·refine(settle_some_nil B D.blk).mono ?_
  rintro e w' ⟨hv,rfl⟩
  have hd0:m.hd=[]:=List.length_eq_zero_iff.1 h0
  have hG:Gx (Ts g gb (.slice none 0 0)) w (w.setCell ⟨g,1,none⟩ (.slice none 0 0)):=(Gx.refl _ _).set (by simp[Ts]) _
  refine⟨hv,.slice none 0 0,D.put _ hG (D.blk.set1 _) ?_ ⟨rfl,.inl ⟨rfl,rfl⟩⟩ rfl,rfl,hG⟩
  rw[hd0]
  exact Bl.other D.byt (by simpa using Ne.symm D.g1) _
 ·have e1:g≠gh:=fun e=>D.h1 (by rw[e];rfl)
  have e2:gb≠gh:=fun e=>D.h2 (by rw[e];rfl)
  refine(settle_some gh cap _ m.ss.length rfl D.n0 D.n9 D.ok.cpn m.hd _ rfl m.ss cur D.blk D.byt D.ok.row rfl D.ok.at_ D.ok.long hh h1 hk h3 h4 D.g1 e1 e2 f B C).mono ?_
  rintro e w' ⟨hv,cur',k1,k2,k3,k4,k5⟩
  have hG:Gx (Ts g gb (.slice (some ⟨gh,0,none⟩) m.hd.length cap)) w w':=k5.mono (by simp[Ts,Value.ownBlock])
  exact⟨hv,.slice (some ⟨gh,0,none⟩) 0 cap,D.put _ hG k1 k2 (own_empty hb k3 h2 k4) rfl,rfl,hG⟩
end
end Go.Proofs.Ytbgkdbjineennaa.Dk
