/- Joined texts. -/
import Derived.Laws.EntriesVeiled
import Derived.Test.YtcnlmekjcffohaaDoorQpMpProve
set_option linter.unusedVariables false
namespace Go.Proofs.YtcnlmekjcffohaaDoor.Mk
open Go.RowKit Go.Proofs.YtcnlmekjcffohaaDoor.Gn Go.Proofs.YtcnlmekjcffohaaDoor.Fd Go.Deep
theorem asize(w:World)(o:Obj):(w.alloc o).heap.size=w.heap.size+1:=by first|exact Array.size_push _|exact Array.size_push _ _|exact Array.size_push ..
def ProveQ(l:List (List Nat))(w:World)(e:Ending)(w':World):Prop :=
 ∃A n cap us,e=.returned (.tuple #[.slice A n cap,.int .i64 0])∧OwnP0 w.heap.size w' (.slice A n cap) us∧us.length=n∧con us=l∧Below w.heap.size w w'
set_option maxHeartbeats 4000000 in
set_option maxRecDepth 100000 in
theorem Prove_good{w:World}{B:Option Addr}{m c:Nat}{P:List Rw}(h:PAny w B m c P)(h32:all32 P=true){k:Nat}(hk:k < m)(ts:Sh.Tab w) :
  Calls Tryd.prog 17 #[.slice B m c,.int .i64 (k:Int)] w (ProveQ (pathL (con P) k) w):=by
 have hf:=h.few
 have C1:=refused_ok (c:=c) (n:=m) h.lc (fun x hx=>by have:=(h.pcs x hx).2;omega) (by omega)
 rw[h32,if_pos rfl] at C1
 have C1:=Lib.hid C1
 have DN:=Lib.hid (fun(D Q b1:Nat) (hD:w.heap.size≤D) (hQ:w.heap.size≤Q) (wq:World) (hS:PrS b1 wq D Q [] (.slice none 0 0)) (hb:Below w.heap.size w wq)=>down_any ts hD hQ m m (Nat.le_refl _) (by omega) (by omega) k hk wq P B c [] (.slice none 0 0) (h.p32 h32) (by simp;omega) hS hb)
 generalize pathL (con P) k=pa at DN ⊢
 have hk0:¬(k:Int) < 0:=by omega
 have hk1:¬(m:Int)≤(k:Int):=by omega
 clear h h32 ts
 go_enter Tryd.func17,Tryd.ntmps17
 have C2:=Lib.hid (fun(w1:World) (b1:Below w.heap.size w w1)=>DN.out (w1.heap.size+1) w1.heap.size (w1.heap.size+2) (by have:=b1.size;omega) b1.size ((w1.alloc (.cells #[.slice none 0 0] 23)).alloc (.cells #[Fd (w1.heap.size+1) w1.heap.size] 60))
  ⟨Bl.new' (w:=w1.alloc (.cells #[.slice none 0 0] 23)) 60 #[Fd (w1.heap.size+1) w1.heap.size] (asize _ _),(Bl.new' (w:=w1) 23 #[.slice none 0 0] rfl).alloc _,⟨own_nil _ _ _,.inl rfl,by simp⟩,by omega,by omega,by omega,by rw[asize,asize];omega⟩
  ((b1.alloc b1.size _).alloc (by have:=b1.size;rw[asize];omega) _))
 go_wp2_with (first
  |(go_at_call 35;(with_reducible refine C1.out.mono ?_);rintro e w1 ⟨rfl,b1⟩;have D1:=Lib.hid b1;have C3:=Lib.hid (C2.out w1 b1);clear b1 C2 C1)
  |(go_at_call 43;(with_reducible refine C3.out.mono ?_);rintro e w5 ⟨rfl,T,us,s5,e5,b5⟩;have S5:=Lib.hid s5;have E5:=Lib.hid e5;have B5:=Lib.hid b5;have c5:=(one_cell s5.qc).1;clear s5 e5 b5 C3))
 go_ret2
 have h:=S5.out.row
 obtain⟨A,cap,rfl,-, -, -, -, -⟩:=Sl.own h.own
 exact⟨A,us.length,cap,us,rfl,⟨own_base h.own (by have:=D1.out.size;omega),h.nil,h.pcs⟩,rfl,by have:=E5.out;simpa[con] using this,B5.out⟩
end Go.Proofs.YtcnlmekjcffohaaDoor.Mk
