/- Joined texts. -/
import Derived.Test.YtbgkdbjineennaaQkDkTg
set_option linter.unusedVariables false
namespace Go.Proofs.Ytbgkdbjineennaa.Dk
open Go.IntWalk Go.RowKit Go.Proofs.Ytbgkdbjineennaa.Gn Go.Proofs.Ytbgkdbjineennaa.Fd Go.Deep
section
variable {w:World} {base g gb:Nat} {H:Value} {cs:Bool} {cw:Int} {ch:Value} {m:M}
def BytQ(w:World)(l:List Nat)(e:Ending)(w':World):Prop:=∃q cap,e=.returned (.slice (some ⟨q,0,none⟩) l.length cap)∧Sl w' (some ⟨q,0,none⟩) l.length (bl l)∧w.heap.size≤q∧l.length≤cap∧Below w.heap.size w w'
set_option maxRecDepth 100000 in
theorem bytes_new(D:Dd w base g gb H cs cw ch m)(h9:m.ss.length≤1500):Calls Try.prog 13 #[.pointer (some ⟨g,0,none⟩)] w (BytQ w m.ss.flatten):=by
 have hl:=flat_len _ D.ok.row
 have hn:0 < 64*m.ss.length:=by have:=D.n0;omega
 have C:=Lib.hid (none_any D.blk hn)
 have c0:=D.blk.c0
 have C2:=Clone_any (some ⟨gb,0,none⟩) (64*m.ss.length) (64*m.ss.length) m.ss.flatten w hn (by omega) (Nat.le_refl _) (by rw[←hl];exact D.byt.sl)
 have C2:=Lib.hid C2
 obtain⟨l,hll⟩:∃l,m.ss.flatten=l:=⟨_,rfl⟩
 rw[hll] at C2 hl ⊢
 have HL:=Lib.hid hl
 clear D hll
 rw[←hl] at c0 C2
 clear hl
 go_enter Try.func13,Try.ntmps13
 go_wp2_with (first|(go_at_call 30;(with_reducible refine C.out.mono ?_);rintro e w1 ⟨rfl,rfl⟩)|(go_at_call 35;(with_reducible refine C2.out.mono ?_);intro e w2 hq;obtain⟨q,cap,rfl,k1,k2,k3,k4⟩:=hq.sl;have K1:=Lib.hid k1;have K2:=Lib.hid k2;have K3:=Lib.hid k3;have K4:=Lib.hid k4;clear hq k1 k2 k3 k4))
 go_ret
 exact⟨q,cap,rfl,K1.out,K2.out,K4.out,K3.out⟩
theorem Dd.fresh(D:Dd w base g gb H cs cw ch m){q:Nat}(hq:w.heap.size≤q):q∉Ts g gb H:=by
 intro hm
 simp only[Ts,List.mem_cons,Option.mem_toList] at hm
 have h1:=D.glt
 have h2:=Bl.lt D.byt
 rcases hm with hm|hm|hm
 ·omega
 ·omega
 ·have:=own_lt D.own hm;omega
def FluQ(w:World)(base g gb:Nat)(H:Value)(m:M)(e:Ending)(w':World):Prop:=e=.returned (.int .i64 0)∧∃H' cw',Dd w' base g gb H' false cw' (.slice none 0 0) m.start.flush.2∧(H'.ownBlock=H.ownBlock∨∃q,H'.ownBlock=some q∧w.heap.size≤q)∧Gx (Ts g gb H) w w'
theorem flush_started{cw0:Int}(D:Dd w base g gb H false cw0 (.slice none 0 0) m.start)(hk:m.hd.length < 1000000)(hst:m.st < 1000000000):Calls Try.prog 12 #[.pointer (some ⟨g,0,none⟩)] w (FluQ w base g gb H m):=by
 refine(Flush_dd D hk hst).mono ?_
 rintro e w' ⟨h1,h2⟩
 refine⟨?_,h2⟩
 rw[h1,keep_flush];rfl
theorem ts_below(D:Dd w base g gb H cs cw ch m){w':World}(hG:Gx (Ts g gb H) w w'):Below base w w':=hG.below (Nat.le_of_lt (Nat.lt_of_le_of_lt D.b1 D.glt)) (ts_base D)
theorem g_below(D:Dd w base g gb H cs cw ch m){w':World}(hG:Gx [g] w w'):Below base w w':=hG.below (Nat.le_of_lt (Nat.lt_of_le_of_lt D.b1 D.glt)) (fun k hk=>by rw[List.mem_singleton.1 hk];exact D.b1)
end
end Go.Proofs.Ytbgkdbjineennaa.Dk
