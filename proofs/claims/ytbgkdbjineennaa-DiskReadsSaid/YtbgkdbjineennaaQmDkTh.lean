/- Joined texts. -/
import Derived.Test.YtbgkdbjineennaaQmDkTg
set_option linter.unusedVariables false
namespace Go.Proofs.Ytbgkdbjineennaa.Dk
open Go.IntWalk Go.RowKit Go.Proofs.Ytbgkdbjineennaa.Gn Go.Proofs.Ytbgkdbjineennaa.Fd Go.Deep
theorem among_any(x n:Int)(w:World)(hn:1≤n)(hn':n≤1000000)(hx : -9223372036854775808≤x)(hx':x≤9223372036854775807) :
  Calls Try.prog 19 #[.int .i64 x,.int .i64 n] w fun e w'=>e=.returned (.int .i64 (x%n))∧w=w':=by
 have hm:IntKind.i64.wrap (x.tmod n)=x.tmod n:=by
  refine _root_.Go.IntWalk.i64_in _ ?_
  have h1:=Int.tmod_lt_of_pos x (show 0 < n by omega)
  have h2:=Int.lt_tmod_of_pos x (show 0 < n by omega)
  omega
 go_enter Try.func19,Try.ntmps19
 have he:x%n=(x.tmod n)%n:=by
  have:=Int.tmod_add_mul_tdiv x n
  rw[←this];simp[Int.add_mul_emod_self_left]
  rw[this]
 have h1:=Int.tmod_lt_of_pos x (show 0 < n by omega)
 have h2:=Int.lt_tmod_of_pos x (show 0 < n by omega)
 have HE:=Lib.hid he
 have H12:=Lib.hid (And.intro h1 h2)
 clear he h1 h2
 go_wp2
 ·go_ret
  have:=H12.out
  have hneg:x.tmod n < 0:=by assumption
  refine⟨ret_int ?_,rfl⟩
  rw[HE.out,_root_.Go.IntWalk.wrap64_in _ (by omega),←Int.add_emod_right,Int.emod_eq_of_lt (by omega) (by omega)]
 ·go_ret
  have:=H12.out
  have hpos:0≤x.tmod n:=by assumption
  refine⟨ret_int ?_,rfl⟩
  rw[HE.out,Int.emod_eq_of_lt hpos (by omega)]
section
variable {w:World} {base g gb:Nat} {H:Value} {cs:Bool} {cw:Int} {ch:Value} {m:M}
def FluQ(w:World)(base g gb:Nat)(H:Value)(m:M)(e:Ending)(w':World):Prop:=e=.returned (.int .i64 0)∧∃H' cw',Dd w' base g gb H' false cw' (.slice none 0 0) m.start.flush.2∧(H'.ownBlock=H.ownBlock∨∃q,H'.ownBlock=some q∧w.heap.size≤q)∧Gx (Ts g gb H) w w'
theorem flush_started{cw0:Int}(D:Dd w base g gb H false cw0 (.slice none 0 0) m.start)(hk:m.hd.length < 1000000)(hst:m.st < 1000000000):Calls Try.prog 12 #[.pointer (some ⟨g,0,none⟩)] w (FluQ w base g gb H m):=by
 refine(Flush_dd D hk hst).mono ?_
 rintro e w' ⟨h1,h2⟩
 refine⟨?_,h2⟩
 rw[h1,keep_flush];rfl
def OpK(w:World)(base g gb:Nat)(H:Value)(cs:Bool)(ch:Value)(k:Int)(m':M)(e:Ending)(w':World):Prop:=e=.returned (.int .i64 k)∧∃H' cw',Dd w' base g gb H' cs cw' ch m'∧(H'.ownBlock=H.ownBlock∨∃q,H'.ownBlock=some q∧w.heap.size≤q)∧Gx (Ts g gb H) w w'
theorem OpQ.k{r:Nat × M}{e:Ending}{w':World}(h:OpQ w base g gb H cs ch r e w'){k:Int}{m':M}(h1:((r.1:Nat):Int)=k)(h2:r.2=m'):OpK w base g gb H cs ch k m' e w':=by
 subst h1;subst h2;exact h
theorem ts_below(D:Dd w base g gb H cs cw ch m){w':World}(hG:Gx (Ts g gb H) w w'):Below base w w':=hG.below (Nat.le_of_lt (Nat.lt_of_le_of_lt D.b1 D.glt)) (ts_base D)
theorem g_below(D:Dd w base g gb H cs cw ch m){w':World}(hG:Gx [g] w w'):Below base w w':=hG.below (Nat.le_of_lt (Nat.lt_of_le_of_lt D.b1 D.glt)) (fun k hk=>by rw[List.mem_singleton.1 hk];exact D.b1)
end
end Go.Proofs.Ytbgkdbjineennaa.Dk
