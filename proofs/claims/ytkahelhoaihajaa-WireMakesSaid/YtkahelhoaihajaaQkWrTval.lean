/- Joined texts. -/
import Derived.Test.YtkahelhoaihajaaQkWrRv
set_option linter.unusedVariables false
namespace Go.Proofs.Ytkahelhoaihajaa.Wr
open Go.RowKit Go.Proofs.Ytkahelhoaihajaa.Gn Go.Proofs.Ytkahelhoaihajaa.Fd Go.Deep
abbrev nod0:Obj:=.cells #[.int .i64 0,.int .u64 0,.slice none 0 0,.slice none 0 0] 26
set_option maxHeartbeats 4000000 in
set_option maxRecDepth 100000 in
theorem tval_short{w:World}{g:Nat}{a b c d k:Int}{r:Rw}{p:Nat}(h:Rt w g a b c d k r p)(deep:Int)(hp:p=r.2.2.2.length) :
  Calls Try.prog 86 #[.pointer (some ⟨g,0,none⟩),.int .i64 deep] w fun e w'=>e=pan (p:Int) 20∧w.grownBy w' (some g):=by
 obtain⟨A,L,cp,l⟩:=r
 have hL:L=l.length:=h.pc.len
 obtain rfl:L=p:=hL.trans hp.symm
 have A0:=Lib.hid (below_one w nod0)
 have H0:=Lib.hid (h.below A0.out)
 have c5:(w.alloc nod0).cell? ⟨g,5,none⟩=some (.slice A L cp):=H0.out.row.cell_ rfl
 have c6:(w.alloc nod0).cell? ⟨g,6,none⟩=some (.int .i64 (L:Int)):=H0.out.row.cell_ rfl
 clear h hp hL
 go_enter Try.func86,Try.ntmps86
 go_wp2_with fail
 exact⟨rfl,rfl,only_below A0.out _⟩
set_option maxHeartbeats 4000000 in
set_option maxRecDepth 100000 in
theorem tval_deep{w:World}{g:Nat}{a b c d k:Int}{r:Rw}{p:Nat}(h:Rt w g a b c d k r p)(deep:Int)(hp:¬p=r.2.2.2.length)(hd:b < deep) :
  Calls Try.prog 86 #[.pointer (some ⟨g,0,none⟩),.int .i64 deep] w fun e w'=>e=pan (p:Int) 23∧w.grownBy w' (some g):=by
 obtain⟨A,L,cp,l⟩:=r
 have hL:L=l.length:=h.pc.len
 have q0:¬(p:Int)=(L:Int):=fun e=>hp (by show p=l.length;omega)
 have A0:=Lib.hid (below_one w nod0)
 have H0:=Lib.hid (h.below A0.out)
 have c5:(w.alloc nod0).cell? ⟨g,5,none⟩=some (.slice A L cp):=H0.out.row.cell_ rfl
 have c6:(w.alloc nod0).cell? ⟨g,6,none⟩=some (.int .i64 (p:Int)):=H0.out.row.cell_ rfl
 have CB:=Lib.hid (fun x=>tbegin_deep H0.out x deep hd)
 clear h hp hL hd
 go_enter Try.func86,Try.ntmps86
 go_wp2_with (go_at_call 87;(refine(CB.out _).mono ?_);rintro e w1 ⟨rfl,rfl⟩)
 exact⟨rfl,rfl,only_below A0.out _⟩
set_option maxHeartbeats 4000000 in
set_option maxRecDepth 100000 in
theorem tval_many{w:World}{g:Nat}{a b c d:Int}{r:Rw}{p:Nat}(h:Rt w g a b c d c r p)(deep:Int)(hp:¬p=r.2.2.2.length)(hd:¬b < deep) :
  Calls Try.prog 86 #[.pointer (some ⟨g,0,none⟩),.int .i64 deep] w fun e w'=>e=pan (p:Int) 24∧w.grownBy w' (some g):=by
 obtain⟨A,L,cp,l⟩:=r
 have hL:L=l.length:=h.pc.len
 have q0:¬(p:Int)=(L:Int):=fun e=>hp (by show p=l.length;omega)
 have A0:=Lib.hid (below_one w nod0)
 have H0:=Lib.hid (h.below A0.out)
 have c5:(w.alloc nod0).cell? ⟨g,5,none⟩=some (.slice A L cp):=H0.out.row.cell_ rfl
 have c6:(w.alloc nod0).cell? ⟨g,6,none⟩=some (.int .i64 (p:Int)):=H0.out.row.cell_ rfl
 have CB:=Lib.hid (fun x=>tbegin_many H0.out x deep hd)
 clear h hp hL hd
 go_enter Try.func86,Try.ntmps86
 go_wp2_with (go_at_call 87;(refine(CB.out _).mono ?_);rintro e w1 ⟨rfl,q,rfl⟩)
 exact⟨rfl,rfl,only_drewN (only_below A0.out _) q⟩
end Go.Proofs.Ytkahelhoaihajaa.Wr
