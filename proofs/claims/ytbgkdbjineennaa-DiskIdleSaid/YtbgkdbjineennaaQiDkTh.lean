/- Joined texts. -/
import Derived.Test.YtbgkdbjineennaaQiDkTg
set_option linter.unusedVariables false
namespace Go.Proofs.Ytbgkdbjineennaa.Dk
open Go.IntWalk Go.RowKit Go.Proofs.Ytbgkdbjineennaa.Gn Go.Proofs.Ytbgkdbjineennaa.Fd Go.Deep
section
variable {w:World} {base g gb:Nat} {H:Value} {cs:Bool} {cw:Int} {ch:Value} {m:M}
def BytQ(w:World)(l:List Nat)(e:Ending)(w':World):Prop:=∃q cap,e=.returned (.slice (some ⟨q,0,none⟩) l.length cap)∧Sl w' (some ⟨q,0,none⟩) l.length (bl l)∧w.heap.size≤q∧l.length≤cap∧Below w.heap.size w w'
set_option maxRecDepth 100000 in
theorem bytes_new(D:Dd w base g gb H cs cw ch m)(h9:m.ss.length≤1500):Calls Try.prog 13 #[.pointer (some ⟨g,0,none⟩)] w (BytQ w m.ss.flatten):=by
 have hl:=flat_len _ D.ok.row
 have hn:0 < 64*m.ss.length:=by have:=D.n0;omega
 have C:=Lib.hid (none_any D.blk hn)
 have c0:=D.blk.c0
 have C2:=Clone_any (some ⟨gb,0,none⟩) (64*m.ss.length) m.cp m.ss.flatten w hn (by omega) D.ok.cpn (by rw[←hl];exact D.byt.sl)
 have C2:=Lib.hid C2
 obtain⟨l,hll⟩:∃l,m.ss.flatten=l:=⟨_,rfl⟩
 rw[hll] at C2 hl ⊢
 have HL:=Lib.hid hl
 clear D hll
 rw[←hl] at c0 C2
 clear hl
 go_enter Try.func13,Try.ntmps13
 go_wp2_with (first|(go_at_call 30;(with_reducible refine C.out.mono ?_);rintro e w1 ⟨rfl,rfl⟩)|(go_at_call 35;(with_reducible refine C2.out.mono ?_);intro e w2 hq;obtain⟨q,cap,rfl,k1,k2,k3,k4⟩:=hq.sl;have K1:=Lib.hid k1;have K2:=Lib.hid k2;have K3:=Lib.hid k3;have K4:=Lib.hid k4;clear hq k1 k2 k3 k4))
 go_ret
 exact⟨q,cap,rfl,K1.out,K2.out,K4.out,K3.out⟩
theorem ts_below(D:Dd w base g gb H cs cw ch m){w':World}(hG:Gx (Ts g gb H) w w'):Below base w w':=hG.below (Nat.le_of_lt (Nat.lt_of_le_of_lt D.b1 D.glt)) (ts_base D)
end
end Go.Proofs.Ytbgkdbjineennaa.Dk
namespace Go.Proofs.Ytbgkdbjineennaa.Dk
def M.re(m:M)(c:Nat)(t:List Value):M:={ m with cp:=c,tl:=t }
section
variable (m:M) (c:Nat) (t:List Value)
theorem lose_re(x:List Bool):(m.re c t).lose x=(m.lose x).re c t:=by
 unfold M.lose
 by_cases h:m.up=true
 ·rw[if_pos h,if_pos (show(m.re c t).up=true from h)];rfl
 ·rw[if_neg h,if_neg (show ¬(m.re c t).up=true from h)]
end
end Go.Proofs.Ytbgkdbjineennaa.Dk
