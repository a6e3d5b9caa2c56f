/- Joined texts. -/
import Derived.Test.YtjimhjfjfpeojaaDoorQbSaE
set_option linter.unusedVariables false
namespace Go.Proofs.YtjimhjfjfpeojaaDoor.Sh
open Go.RowKit Go.Proofs.YtjimhjfjfpeojaaDoor.Gn Go.Deep
attribute [local go_sem ↓] Go.wp_at_zero Go.wp_at_succ
theorem Sl_block{w:World}{A:Option Addr}{n:Nat}{xs:List Value}(h:Sl w A n xs)(h0:0 < n):∀ad,A=some ad→ad.block < w.heap.size:=by
 rintro ad rfl
 obtain⟨ad',e,hc⟩:=h.at_ h0
 cases e
 have h1:0 < xs.length:=by rw[h.1];exact h0
 rw[List.getElem?_eq_getElem h1] at hc
 have:=cell_lt hc
 rwa [add_block] at this
theorem put64_none(g c:Nat)(A:Option Addr)(w:World)(b0:w.cell? ⟨g,0,none⟩=some (.int .i64 512)) :
  Calls Tryd.prog 58 #[.pointer (some ⟨g,0,none⟩),.slice A 0 c] w fun e w'=>e=.returned (.tuple #[])∧w=w':=by
 go_enter Tryd.func58,Tryd.ntmps58
 go_wp2_with (go_at_call 78;refine(block_512 _).mono ?_;rintro e w' ⟨rfl,rfl⟩)
 go_loop [1] (fun b=>b=.slice A 0 c) (fun _=>0)
 case atStart=>rfl
 case round =>
  obtain rfl:=hrel
  go_wp2
  go_end0
  exact⟨rfl,rfl⟩
theorem write64_none(T:List Nat)(g:Nat)(A:Option Addr)(c:Nat)(w:World)(h:Hs true T g w)(hT:T.length≤1048576) :
  Calls Tryd.prog 35 #[.pointer (some ⟨g,0,none⟩),.slice A 0 c] w fun e w'=>e=.returned (.int .i64 0)∧w=w':=by
 obtain⟨ws,rs,hb,hst⟩:=h
 have b0:w.cell? ⟨g,0,none⟩=some (.int .i64 512):=hb.cell_ rfl
 have b1:w.cell? ⟨g,1,none⟩=some (.int .i64 (T.length:Int)):=hb.cell_ rfl
 have t1:decide ((1048576:Int) - (T.length:Int) < 0)=false:=decide_eq_false (by omega)
 clear hb hst
 go_enter Tryd.func35,Tryd.ntmps35
 go_wp2_with (first|(go_at_call 57;refine(none64 g _ b0).mono ?_;rintro e w' ⟨rfl,rfl⟩)|(go_at_call 58;refine(put64_none g _ _ _ b0).mono ?_;rintro e w' ⟨rfl,rfl⟩))
 go_ret
 exact⟨rfl,rfl⟩
theorem writex64(T l:List Nat)(n:Nat)(hn:l.length=n)(g:Nat)(A:Option Addr)(c:Nat)(w:World)(hg:(8 < g∧3 < g))(hl:∀x∈l,x < 256)(hsl:Sl w A n (bl l))(hA:0 < n→∀ad,A=some ad→ad.block≠g)(hlc:n≤c)(h:Hs true T g w)(hmax:T.length+n≤1048576)(tab:Tab w) :
  Calls Tryd.prog 35 #[.pointer (some ⟨g,0,none⟩),.slice A n c] w
   fun e w'=>e=.returned (.int .i64 0)∧Hs true (T ++ l) g w'∧w.grownBy w' (some g)∧Tab w':=by
 subst hn
 rcases Nat.eq_zero_or_pos l.length with h0|h0
 ·have hl0:l=[]:=List.length_eq_zero_iff.1 h0
  subst hl0
  exact(write64_none T g A c w h (by simpa using hmax)).mono fun e w' ⟨h1,h2⟩=>by subst h2;exact⟨h1,by rw[List.append_nil];exact h,World.grownBy.refl _ _,tab⟩
 ·exact write64_any T l g A c w hg hl hsl (hA h0) hlc h hmax tab
end Go.Proofs.YtjimhjfjfpeojaaDoor.Sh
