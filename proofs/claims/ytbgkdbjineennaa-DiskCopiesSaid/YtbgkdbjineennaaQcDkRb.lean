/- Joined texts. -/
import Derived.Test.YtbgkdbjineennaaQcDkRa
set_option linter.unusedVariables false
namespace Go.Proofs.Ytbgkdbjineennaa.Dk
open Go.IntWalk Go.RowKit Go.Proofs.Ytbgkdbjineennaa.Gn Go.Proofs.Ytbgkdbjineennaa.Fd Go.Deep
def lenOf:Value→Int
 |.slice _ n _=>n
 |_=>0
def FullQ(w:World)(e:Ending)(w':World):Prop:=∃V,e=.returned V∧Sec w' w.heap.size V∧Below w.heap.size w w'
theorem own_pos{w:World}{base:Nat}{e:TypeId}{v:Value}{n:Nat}{xs:List Value}(h:w.ownsRow base e 1 v n xs)(hn:0 < n):∃q cap,v=.slice (some ⟨q,0,none⟩) n cap∧n≤cap∧base≤q∧Kd w q e∧Sl w (some ⟨q,0,none⟩) n xs∧cap≤maxLen:=by
 have h':=h
 obtain⟨hl,⟨rfl,h0⟩|⟨g,cap,cur,rfl,hb',hh,h1,h2,h3,h4⟩⟩:=h
 ·omega
 ·exact⟨g,cap,rfl,h1,hb',⟨cur,hh⟩,own_sl h',h2⟩
set_option maxRecDepth 100000 in
set_option maxHeartbeats 4000000 in
theorem full_any(A:Option Addr)(n cap:Nat)(l:List Nat)(w:World)(hs:Sl w A n (bl l))(hA:A=none→cap=0)(hn:n≤64):Calls Try.prog 42 #[.slice A n cap] w (FullQ w):=by
 have hl:l.length=n:=by have:=hs.1;rwa [bl_length] at this
 obtain⟨i0,hi,hz0,hz1,hz2⟩:=info_parts infob
 have HS:=Lib.hid hs
 have HA:=Lib.hid hA
 clear hs hA
 go_enter Try.func42,Try.ntmps42
 go_wp2_with (at_builtin;refine wpList_append_sl rfl (.tmp 4) (.tmp 5) 22 rfl w.heap.size 5 i0 _ (8 / 8) Try.underlying22 hi hz0 hz1 hz2 rfl (.slice none 0 0) 0 [] rfl (own_nil _ _ _) A n cap (bl l) rfl HA.out HS.out (bl_one l) (by unfold maxLen;omega) (by omega) (Nat.le_refl _) ?_;intro v1 w1 hown1 hgrow1;have HO1:=Lib.hid hown1;have HG1:=Lib.hid hgrow1;clear hown1 hgrow1)
 have HB1:=Lib.hid (show Below w.heap.size w w1 from(Below.refl _ _).grown HG1.out (Nat.le_refl _) (fun k e=>by cases e))
 go_loopw [3] (fun v wr=>∃(j:Nat) (k:List Nat),j≤64∧wr.ownsRow w.heap.size 5 1 v j (bl k)∧Below w.heap.size w wr) (fun v _=>64 - (lenOf v).toNat)
 case atStart=>exact⟨0+n,l,by omega,by simpa using HO1.out,HB1.out⟩
 case round =>
  obtain⟨j,k,hj,ho,hb⟩:=hrel
  obtain⟨vA,vc,rfl⟩:=own_len ho
  have HO:=Lib.hid ho
  have HB:=Lib.hid hb
  clear ho hb
  by_cases hlt:j < 64
  ·have q1:(j:Int) < 64:=by omega
   have hz:=Bl.new_ wr 5 #[.int .u8 0]
   have HZ:=Lib.hid (show Sl (wr.alloc (.cells #[.int .u8 0] 5)) (some ⟨wr.heap.size,0,none⟩) 1 (bl [0]) from Sl.of_bl hz 0 _ _ rfl fun k v hk=>by rw[Nat.zero_add];simpa[bl] using hk)
   have HOZ:=Lib.hid (own_below HO.out ((Below.refl _ wr).alloc (Nat.le_refl _) (.cells #[.int .u8 0] 5)))
   have BZ:=Lib.hid (HB.out.alloc HB.out.size (.cells #[.int .u8 0] 5))
   have VB:=Lib.hid (fun b (e:(Value.slice vA j vc).ownBlock=some b)=>own_ge HO.out e)
   clear hz
   go_wp2_with (at_builtin;refine wpList_append_sl rfl (.tmp 10) (.tmp 11) 22 rfl w.heap.size 5 i0 _ (8 / 8) Try.underlying22 hi hz0 hz1 hz2 rfl (.slice vA j vc) j _ rfl HOZ.out (some ⟨wr.heap.size,0,none⟩) 1 1 (bl [0]) rfl (fun e=>by cases e) HZ.out (bl_one _) (by unfold maxLen;omega) (by omega) (by have:=HB.out.size;simp;omega) ?_;intro v3 w3 hown3 hgrow3;have HO3:=Lib.hid hown3;have HG3:=Lib.hid hgrow3;clear hown3 hgrow3)
   refine⟨⟨j+1,k ++ [0],by omega,by rw[bl_append];exact HO3.out,BZ.out.grown HG3.out BZ.out.size (fun b e=>VB.out b e)⟩,?_⟩
   obtain⟨A3,c3,rfl⟩:=own_len HO3.out
   simp[lenOf];omega
  ·obtain rfl:j=64:=by omega
   have q1:¬((64:Nat):Int) < 64:=by omega
   obtain⟨q,cap9,e9,k1,k2,k3,k4,k5⟩:=own_pos HO.out (by decide)
   cases e9
   have K:=Lib.hid (And.intro k2 (And.intro k3 k4))
   clear k2 k3 k4
   have k6:(64:Int)≤(vc:Int):=by omega
   go_wp2_with fail
   go_ret
   exact⟨_,rfl,⟨q,vc,k,rfl,k1,K.out.1,K.out.2.1,K.out.2.2⟩,HB.out⟩
end Go.Proofs.Ytbgkdbjineennaa.Dk
