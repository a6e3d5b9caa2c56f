/- Joined texts. -/
import Derived.Test.YtbgkdbjineennaaQcDkTg
set_option linter.unusedVariables false
namespace Go.Proofs.Ytbgkdbjineennaa.Dk
open Go.IntWalk Go.RowKit Go.Proofs.Ytbgkdbjineennaa.Gn Go.Proofs.Ytbgkdbjineennaa.Fd Go.Deep
section
variable {w:World} {base g gb:Nat} {H:Value} {cs:Bool} {cw:Int} {ch:Value} {m:M}
def BytQ(w:World)(l:List Nat)(e:Ending)(w':World):Prop:=∃q cap,e=.returned (.slice (some ⟨q,0,none⟩) l.length cap)∧Sl w' (some ⟨q,0,none⟩) l.length (bl l)∧w.heap.size≤q∧l.length≤cap∧Below w.heap.size w w'
set_option maxRecDepth 100000 in
theorem bytes_new(D:Dd w base g gb H cs cw ch m)(h9:m.ss.length≤1500):Calls Try.prog 13 #[.pointer (some ⟨g,0,none⟩)] w (BytQ w m.ss.flatten):=by
 have hl:=flat_len _ D.ok.row
 have hn:0 < 64*m.ss.length:=by have:=D.n0;omega
 have C:=Lib.hid (none_any D.blk hn)
 have c0:=D.blk.c0
 have C2:=Clone_any (some ⟨gb,0,none⟩) (64*m.ss.length) m.cp m.ss.flatten w hn (by omega) D.ok.cpn (by rw[←hl];exact D.byt.sl)
 have C2:=Lib.hid C2
 obtain⟨l,hll⟩:∃l,m.ss.flatten=l:=⟨_,rfl⟩
 rw[hll] at C2 hl ⊢
 have HL:=Lib.hid hl
 clear D hll
 rw[←hl] at c0 C2
 clear hl
 go_enter Try.func13,Try.ntmps13
 go_wp2_with (first|(go_at_call 30;(with_reducible refine C.out.mono ?_);rintro e w1 ⟨rfl,rfl⟩)|(go_at_call 35;(with_reducible refine C2.out.mono ?_);intro e w2 hq;obtain⟨q,cap,rfl,k1,k2,k3,k4⟩:=hq.sl;have K1:=Lib.hid k1;have K2:=Lib.hid k2;have K3:=Lib.hid k3;have K4:=Lib.hid k4;clear hq k1 k2 k3 k4))
 go_ret
 exact⟨q,cap,rfl,K1.out,K2.out,K4.out,K3.out⟩
end
end Go.Proofs.Ytbgkdbjineennaa.Dk
namespace Go.Proofs.Ytbgkdbjineennaa.Dk
open Go.IntWalk Go.RowKit Go.Proofs.Ytbgkdbjineennaa.Gn Go.Proofs.Ytbgkdbjineennaa.Fd Go.Deep
theorem CloneQ.kd{l:List Nat}{w w':World}{e:Ending}(h:CloneQ l w e w'):∃q cap,e=.returned (.slice (some ⟨q,0,none⟩) l.length cap)∧Sl w' (some ⟨q,0,none⟩) l.length (bl l)∧w.heap.size≤q∧Below w.heap.size w w'∧l.length≤cap∧Kd w' q 5:=by
 obtain⟨q,cap,cur,rfl,k1,k2,k3,k4,k5,k6⟩:=h
 refine⟨q,cap,rfl,Sl.of_bl k1 0 _ _ (by rw[bl_length]) fun k v hk=>?_,k5,k6,k2,⟨_,k1⟩⟩
 rw[Nat.zero_add]
 have hkl:k < l.length:=by have:=(List.getElem?_eq_some_iff.1 hk).1;rwa [bl_length] at this
 rw[←k4,List.getElem?_take,if_pos hkl] at hk
 rwa [Array.getElem?_toList] at hk
def BytK(w:World)(l:List Nat)(e:Ending)(w':World):Prop:=∃q cap,e=.returned (.slice (some ⟨q,0,none⟩) l.length cap)∧Sl w' (some ⟨q,0,none⟩) l.length (bl l)∧w.heap.size≤q∧l.length≤cap∧Kd w' q 5∧Below w.heap.size w w'
section
variable {w:World} {base g gb:Nat} {H:Value} {cs:Bool} {cw:Int} {ch:Value} {m:M}
set_option maxRecDepth 100000 in
theorem bytes_kd(D:Dd w base g gb H cs cw ch m)(h9:m.ss.length≤1500):Calls Try.prog 13 #[.pointer (some ⟨g,0,none⟩)] w (BytK w m.ss.flatten):=by
 have hl:=flat_len _ D.ok.row
 have hn:0 < 64*m.ss.length:=by have:=D.n0;omega
 have C:=Lib.hid (none_any D.blk hn)
 have c0:=D.blk.c0
 have C2:=Clone_any (some ⟨gb,0,none⟩) (64*m.ss.length) m.cp m.ss.flatten w hn (by omega) D.ok.cpn (by rw[←hl];exact D.byt.sl)
 have C2:=Lib.hid C2
 obtain⟨l,hll⟩:∃l,m.ss.flatten=l:=⟨_,rfl⟩
 rw[hll] at C2 hl ⊢
 clear D hll
 rw[←hl] at c0 C2
 clear hl
 go_enter Try.func13,Try.ntmps13
 go_wp2_with (first|(go_at_call 30;(with_reducible refine C.out.mono ?_);rintro e w1 ⟨rfl,rfl⟩)|(go_at_call 35;(with_reducible refine C2.out.mono ?_);intro e w2 hq;obtain⟨q,cap,rfl,k1,k2,k3,k4,k5⟩:=hq.kd;have K1:=Lib.hid k1;have K2:=Lib.hid k2;have K3:=Lib.hid k3;have K4:=Lib.hid k4;have K5:=Lib.hid k5;clear hq k1 k2 k3 k4 k5))
 go_ret
 exact⟨q,cap,rfl,K1.out,K2.out,K4.out,K5.out,K3.out⟩
end
theorem len_tot:∀l:List Od,l.length≤tot l
 | []=>Nat.le_refl _
 |o :: t=>by have:=len_tot t;rw[tot,List.length_cons];omega
theorem Ol.up{w:World}{a0 a1:Nat}{L:Option Addr}{l:List Od}(h:Ol w a0 L l)(ha:a0≤a1):Ol w a1 L l :=
 ⟨h.s,fun o ho=>⟨(h.ok o ho).b,(h.ok o ho).b0,(h.ok o ho).b1,fun ad e hn=>Nat.lt_of_lt_of_le ((h.ok o ho).b2 ad e hn) ha,(h.ok o ho).b9,(h.ok o ho).c,(h.ok o ho).c0,(h.ok o ho).c1,fun ad e hn=>Nat.lt_of_lt_of_le ((h.ok o ho).c2 ad e hn) ha,(h.ok o ho).c9,(h.ok o ho).cb,(h.ok o ho).n9⟩,fun ad e=>Nat.lt_of_lt_of_le (h.la ad e) ha,h.n9⟩
end Go.Proofs.Ytbgkdbjineennaa.Dk
