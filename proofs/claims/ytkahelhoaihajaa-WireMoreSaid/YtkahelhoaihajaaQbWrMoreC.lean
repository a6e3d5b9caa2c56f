/- Joined texts. -/
import Derived.Test.YtkahelhoaihajaaQbWrGlue
set_option linter.unusedVariables false
namespace Go.Proofs.Ytkahelhoaihajaa.Wr
open Go.RowKit Go.Proofs.Ytkahelhoaihajaa.Gn Go.Proofs.Ytkahelhoaihajaa.Fd Go.Deep
set_option maxRecDepth 100000 in
theorem among_any(x n:Int)(w:World)(hn:1≤n)(hn':n≤1000000)(hx : -9223372036854775808≤x)(hx':x≤9223372036854775807) :
  Calls Try.prog 47 #[.int .i64 x,.int .i64 n] w fun e w'=>e=.returned (.int .i64 (x%n))∧w=w':=by
 have hm:IntKind.i64.wrap (x.tmod n)=x.tmod n:=by
  refine _root_.Go.IntWalk.i64_in _ ?_
  have h1:=Int.tmod_lt_of_pos x (show 0 < n by omega)
  have h2:=Int.lt_tmod_of_pos x (show 0 < n by omega)
  omega
 go_enter Try.func47,Try.ntmps47
 have he:x%n=(x.tmod n)%n:=by
  have:=Int.tmod_add_mul_tdiv x n
  rw[←this];simp[Int.add_mul_emod_self_left]
  rw[this]
 have h1:=Int.tmod_lt_of_pos x (show 0 < n by omega)
 have h2:=Int.lt_tmod_of_pos x (show 0 < n by omega)
 have HE:=Lib.hid he
 have H12:=Lib.hid (And.intro h1 h2)
 clear he h1 h2
 go_wp2
 ·go_ret
  have:=H12.out
  have hneg:x.tmod n < 0:=by assumption
  refine⟨ret_int ?_,rfl⟩
  rw[HE.out,_root_.Go.IntWalk.wrap64_in _ (by omega),←Int.add_emod_right,Int.emod_eq_of_lt (by omega) (by omega)]
 ·go_ret
  have:=H12.out
  have hpos:0≤x.tmod n:=by assumption
  refine⟨ret_int ?_,rfl⟩
  rw[HE.out,Int.emod_eq_of_lt hpos (by omega)]
set_option maxRecDepth 100000 in
theorem more_any(n x:Int)(wn:(Lit.int .i64 n).wf)(wx:(Lit.int .i64 x).wf):∃n':Int,n≤n'∧n'≤9223372036854775807∧∀w,Calls Try.prog 48 #[.int .i64 n,.int .i64 x] w fun e w'=>e=.returned (.int .i64 n')∧w=w':=by
 have hn:=wf_i64 wn
 have hx:=wf_i64 wx
 cases hb:decide (1099511627776 < n) with
 |true =>
  refine⟨n,Int.le_refl _,hn.2,fun w=>?_⟩
  clear wn wx hn hx
  go_enter Try.func48,Try.ntmps48
  go_wp2_with fail
  go_ret
  exact⟨rfl,rfl⟩
 |false =>
  have hb2:=of_decide_eq_false hb
  have h1:=Int.emod_nonneg x (show(1000:Int)≠0 by decide)
  have h2:=Int.emod_lt_of_pos x (show(0:Int) < 1000 by decide)
  refine⟨n+x%1000,by omega,by omega,fun w=>?_⟩
  have e1:IntKind.i64.wrap (n+x%1000)=n+x%1000:=_root_.Go.IntWalk.i64_in _ (by omega)
  have CA:=Lib.hid (fun u=>among_any x 1000 u (by decide) (by decide) hx.1 hx.2)
  obtain⟨r,hr⟩:∃r,x%1000=r:=⟨_,rfl⟩
  rw[hr] at e1 CA ⊢
  clear wn wx hn hx hb2 h1 h2 hr
  go_enter Try.func48,Try.ntmps48
  go_wp2_with (go_at_call 47;(refine(CA.out _).mono ?_);rintro e w1 ⟨rfl,rfl⟩)
  go_ret
  exact⟨rfl,rfl⟩
section
variable {P:Program} {Q:Exit→Act→World→Prop} {a:Act} {w:World}
theorem region_cut0{c:Code}(A:Act)(I:World→Prop)(h:c.wp P (Exit.then (fun a w=>a=A∧I w) (fun _ _ _=>False)) a w)(k:∀w,I w→Q .normal A w):c.wp P Q a w :=
 Go.wp_mono h fun e a w q=>by
  cases e with
  |normal=>obtain⟨rfl,hi⟩:=q;exact k w hi
  |_=>exact q.elim
theorem region_cut1{c:Code}{α:Type}(A:α→Act)(I:α→World→Prop)(h:c.wp P (Exit.then (fun a w=>∃m,a=A m∧I m w) (fun _ _ _=>False)) a w)(k:∀m w,I m w→Q .normal (A m) w):c.wp P Q a w :=
 Go.wp_mono h fun e a w q=>by
  cases e with
  |normal=>obtain⟨m,rfl,hi⟩:=q;exact k m w hi
  |_=>exact q.elim
end
end Go.Proofs.Ytkahelhoaihajaa.Wr
