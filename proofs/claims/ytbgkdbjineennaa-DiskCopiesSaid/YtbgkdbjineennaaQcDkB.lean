/- Joined texts. -/
import Derived.Deep.Cut
import Derived.IntWalk
import Derived.Test.YtbgkdbjineennaaQcGnStep
set_option linter.unusedVariables false
namespace Go.Proofs.Ytbgkdbjineennaa.Dk
open Go.RowKit Go.Proofs.Ytbgkdbjineennaa.Gn Go.Proofs.Ytbgkdbjineennaa.Fd Go.Deep
def dsk(gb n cp:Nat)(H:Value)(up:Bool)(st:Int)(cs:Bool)(cw:Int)(ch:Value):Array Value:=#[.slice (some ⟨gb,0,none⟩) n cp,H,.bool up,.int .i64 st,.bool cs,.int .i64 cw,ch]
def DB(w:World)(g gb n cp:Nat)(H:Value)(up:Bool)(st:Int)(cs:Bool)(cw:Int)(ch:Value):Prop:=Bl w g 60 (dsk gb n cp H up st cs cw ch)
section
variable {w:World} {g gb n cp:Nat} {H:Value} {up:Bool} {st:Int} {cs:Bool} {cw:Int} {ch:Value}
theorem DB.c0(h:DB w g gb n cp H up st cs cw ch):w.cell? ⟨g,0,none⟩=some (.slice (some ⟨gb,0,none⟩) n cp):=Bl.cell_ h (i:=0) rfl
theorem DB.c1(h:DB w g gb n cp H up st cs cw ch):w.cell? ⟨g,1,none⟩=some H:=Bl.cell_ h (i:=1) rfl
theorem DB.c2(h:DB w g gb n cp H up st cs cw ch):w.cell? ⟨g,2,none⟩=some (.bool up):=Bl.cell_ h (i:=2) rfl
theorem DB.c3(h:DB w g gb n cp H up st cs cw ch):w.cell? ⟨g,3,none⟩=some (.int .i64 st):=Bl.cell_ h (i:=3) rfl
theorem DB.c4(h:DB w g gb n cp H up st cs cw ch):w.cell? ⟨g,4,none⟩=some (.bool cs):=Bl.cell_ h (i:=4) rfl
theorem DB.c5(h:DB w g gb n cp H up st cs cw ch):w.cell? ⟨g,5,none⟩=some (.int .i64 cw):=Bl.cell_ h (i:=5) rfl
theorem DB.c6(h:DB w g gb n cp H up st cs cw ch):w.cell? ⟨g,6,none⟩=some ch:=Bl.cell_ h (i:=6) rfl
theorem DB.fz(h:DB w g gb n cp H up st cs cw ch)(k:Nat):w.frozen? ⟨g,k,none⟩=false:=Bl.frozen h k
theorem DB.below{w':World}(h:DB w g gb n cp H up st cs cw ch)(hb:Below w.heap.size w w'):DB w' g gb n cp H up st cs cw ch:=Bl.below' h hb
set_option maxRecDepth 100000 in
theorem none_any(h:DB w g gb n cp H up st cs cw ch)(hn:0 < n):Calls Try.prog 30 #[.pointer (some ⟨g,0,none⟩)] w fun e w'=>e=.returned (.bool false)∧w=w':=by
 have c0:=h.c0
 have t0:((n:Int) == 0)=false:=by rw[beq_eq_false_iff_ne];omega
 clear h
 go_enter Try.func30,Try.ntmps30
 go_wp2_with fail
 go_ret
 exact⟨rfl,rfl⟩
set_option maxRecDepth 100000 in
theorem ready_up(h:DB w g gb n cp H true st cs cw ch)(hn:0 < n):Calls Try.prog 31 #[.pointer (some ⟨g,0,none⟩)] w fun e w'=>e=.returned (.int .i64 0)∧w=w':=by
 have C:=Lib.hid (none_any h hn)
 have c2:=h.c2
 clear h
 go_enter Try.func31,Try.ntmps31
 go_wp2_with (go_at_call 30;(with_reducible refine C.out.mono ?_);rintro e w1 ⟨rfl,rfl⟩)
 go_ret
 exact⟨rfl,rfl⟩
set_option maxRecDepth 100000 in
theorem size_any(h:DB w g gb n cp H up st cs cw ch)(hn:0 < n)(m:Nat)(hm:n=64*m)(hm9:m≤100000):Calls Try.prog 20 #[.pointer (some ⟨g,0,none⟩)] w fun e w'=>e=.returned (.int .i64 (m:Int))∧w=w':=by
 have C:=Lib.hid (none_any h hn)
 have c0:=h.c0
 have e1:(n:Int) / 64=(m:Int):=by omega
 have hn9:n≤6400000:=by omega
 clear h hm
 go_enter Try.func20,Try.ntmps20
 go_wp2_with (go_at_call 30;(with_reducible refine C.out.mono ?_);rintro e w1 ⟨rfl,rfl⟩)
 go_ret
 exact⟨by first|rfl|(rw[←e1];rfl),rfl⟩
set_option maxRecDepth 100000 in
theorem reach_any(h:DB w g gb n cp H true st cs cw ch)(hn:0 < n)(m:Nat)(hm:n=64*m)(p:Nat)(hp:p < m)(hm9:m≤100000):Calls Try.prog 37 #[.pointer (some ⟨g,0,none⟩),.int .i64 (p:Int)] w fun e w'=>e=.returned (.int .i64 0)∧w=w':=by
 have C:=Lib.hid (ready_up h hn)
 have C2:=Lib.hid (size_any h hn m hm hm9)
 have t1:decide ((p:Int) < 0)=false:=decide_eq_false (by omega)
 have t2:decide (m≤p)=false:=decide_eq_false (by omega)
 clear h hm
 go_enter Try.func37,Try.ntmps37
 go_wp2_with (first|(go_at_call 31;(with_reducible refine C.out.mono ?_);rintro e w1 ⟨rfl,rfl⟩)|(go_at_call 20;(with_reducible refine C2.out.mono ?_);rintro e w1 ⟨rfl,rfl⟩))
 go_ret
 exact⟨rfl,rfl⟩
set_option maxRecDepth 100000 in
theorem up_any(h:DB w g gb n cp H up st cs cw ch)(hn:0 < n):Calls Try.prog 9 #[.pointer (some ⟨g,0,none⟩)] w fun e w'=>e=.returned (.bool up)∧w=w':=by
 have C:=Lib.hid (none_any h hn)
 have c2:=h.c2
 clear h
 go_enter Try.func9,Try.ntmps9
 go_wp2_with (go_at_call 30;(with_reducible refine C.out.mono ?_);rintro e w1 ⟨rfl,rfl⟩)
 go_ret
 exact⟨rfl,rfl⟩
set_option maxRecDepth 100000 in
theorem strokes_any(h:DB w g gb n cp H up st cs cw ch)(hn:0 < n):Calls Try.prog 27 #[.pointer (some ⟨g,0,none⟩)] w fun e w'=>e=.returned (.int .i64 st)∧w=w':=by
 have C:=Lib.hid (none_any h hn)
 have c3:=h.c3
 clear h
 go_enter Try.func27,Try.ntmps27
 go_wp2_with (go_at_call 30;(with_reducible refine C.out.mono ?_);rintro e w1 ⟨rfl,rfl⟩)
 go_ret
 exact⟨rfl,rfl⟩
end
end Go.Proofs.Ytbgkdbjineennaa.Dk
