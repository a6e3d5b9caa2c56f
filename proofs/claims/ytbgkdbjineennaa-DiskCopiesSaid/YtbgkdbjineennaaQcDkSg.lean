/- Joined texts. -/
import Derived.Test.YtbgkdbjineennaaQcDkSf
import Derived.Test.YtbgkdbjineennaaQcDkPl
set_option linter.unusedVariables false
namespace Go.Proofs.Ytbgkdbjineennaa.Dk
open Go.IntWalk Go.RowKit Go.Proofs.Ytbgkdbjineennaa.Gn Go.Proofs.Ytbgkdbjineennaa.Fd Go.Deep
section
variable {w:World} {base g gb:Nat} {H:Value} {cs:Bool} {cw:Int} {ch:Value} {m:M}
set_option maxRecDepth 100000 in
theorem ready_dd(D:Dd w base g gb H cs cw ch m):Calls Try.prog 31 #[.pointer (some ⟨g,0,none⟩)] w fun e w'=>e=.returned (.int .i64 (m.ready:Int))∧w=w':=by
 have hn:0 < 64*m.ss.length:=by have:=D.n0;omega
 have hB:=D.blk
 unfold M.ready
 cases hu:m.up with
 |true=>rw[hu] at hB;exact ready_up hB hn
 |false =>
  rw[hu] at hB
  have C:=Lib.hid (none_any hB hn)
  have c2:=hB.c2
  clear hB D hu hn
  go_enter Try.func31,Try.ntmps31
  go_wp2_with (go_at_call 30;(with_reducible refine C.out.mono ?_);rintro e w1 ⟨rfl,rfl⟩)
  go_ret
  exact⟨rfl,rfl⟩
theorem size_dd(D:Dd w base g gb H cs cw ch m):Calls Try.prog 20 #[.pointer (some ⟨g,0,none⟩)] w fun e w'=>e=.returned (.int .i64 (m.ss.length:Int))∧w=w' :=
 size_any D.blk (by have:=D.n0;omega) _ rfl D.n9
set_option maxRecDepth 100000 in
theorem reach_dd(D:Dd w base g gb H cs cw ch m)(a:Int):Calls Try.prog 37 #[.pointer (some ⟨g,0,none⟩),.int .i64 a] w fun e w'=>e=.returned (.int .i64 (m.reach a:Int))∧w=w':=by
 have C:=ready_dd D
 have C2:=Lib.hid (size_dd D)
 unfold M.ready at C
 unfold M.reach
 obtain⟨n,hn⟩:∃n,m.ss.length=n:=⟨_,rfl⟩
 rw[hn] at C2 ⊢
 clear D hn
 cases hu:m.up with
 |false =>
  rw[hu,if_neg (by decide)] at C
  have C:=Lib.hid C
  go_enter Try.func37,Try.ntmps37
  go_wp2_with (go_at_call 31;(with_reducible refine C.out.mono ?_);rintro e w1 ⟨rfl,rfl⟩)
  go_ret
  exact⟨rfl,rfl⟩
 |true =>
  rw[hu,if_pos rfl] at C
  have C:=Lib.hid C
  rw[if_pos rfl]
  by_cases h0:a < 0
  ·rw[if_pos (.inl h0)]
   go_enter Try.func37,Try.ntmps37
   go_wp2_with (first|(go_at_call 31;(with_reducible refine C.out.mono ?_);rintro e w1 ⟨rfl,rfl⟩)|(go_at_call 20;(with_reducible refine C2.out.mono ?_);rintro e w1 ⟨rfl,rfl⟩))
   go_ret
   exact⟨rfl,rfl⟩
  ·by_cases h1:(n:Int)≤a
   ·rw[if_pos (.inr h1)]
    go_enter Try.func37,Try.ntmps37
    go_wp2_with (first|(go_at_call 31;(with_reducible refine C.out.mono ?_);rintro e w1 ⟨rfl,rfl⟩)|(go_at_call 20;(with_reducible refine C2.out.mono ?_);rintro e w1 ⟨rfl,rfl⟩))
    go_ret
    exact⟨rfl,rfl⟩
   ·rw[if_neg (by omega)]
    go_enter Try.func37,Try.ntmps37
    go_wp2_with (first|(go_at_call 31;(with_reducible refine C.out.mono ?_);rintro e w1 ⟨rfl,rfl⟩)|(go_at_call 20;(with_reducible refine C2.out.mono ?_);rintro e w1 ⟨rfl,rfl⟩))
    go_ret
    exact⟨rfl,rfl⟩
theorem stroke_hd(m:M):m.stroke.2.hd.length≤m.hd.length:=by
 unfold M.stroke
 split
 ·exact Nat.le_refl _
 ·exact Nat.le_refl _
 ·unfold M.lose
  split
  ·exact Nat.zero_le _
  ·exact Nat.le_refl _
def OpQ(w:World)(base g gb:Nat)(H:Value)(cs:Bool)(ch:Value)(r:Nat × M)(e:Ending)(w':World):Prop:=e=.returned (.int .i64 (r.1:Int))∧∃H' cw',Dd w' base g gb H' cs cw' ch r.2∧(H'.ownBlock=H.ownBlock∨∃q,H'.ownBlock=some q∧w.heap.size≤q)∧Gx (Ts g gb H) w w'
set_option maxRecDepth 100000 in
set_option maxHeartbeats 4000000 in
theorem Flush_dd(D:Dd w base g gb H cs cw ch m)(hk:m.hd.length < 1000000)(hst:m.st < 1000000000):Calls Try.prog 12 #[.pointer (some ⟨g,0,none⟩)] w (OpQ w base g gb H cs ch m.flush):=by
 have C:=ready_dd D
 unfold M.ready at C
 unfold M.flush
 by_cases hu:m.up=true
 ·rw[if_pos hu] at C ⊢
  have C:=Lib.hid C
  have S:=stroke_go D hu hk hst
  unfold StrQ at S
  rcases stroke_err m with h0|h0
  ·rw[if_pos h0]
   rw[h0] at S
   have S:=Lib.hid S
   have ST:=Lib.hid (fun(W:World) (H2:Value) (cw2:Int) (DD:Dd W base g gb H2 cs cw2 ch m.stroke.2)=>settle_all_go DD (Nat.lt_of_le_of_lt (stroke_hd m) hk))
   clear D hu h0
   go_enter Try.func12,Try.ntmps12
   go_wp2_with (first|(go_at_call 31;(with_reducible refine C.out.mono ?_);rintro e w1 ⟨rfl,rfl⟩)|(go_at_call 32;(with_reducible refine S.out.mono ?_);rintro e w1 ⟨rfl,H2,cw2,k1,k2,k3⟩;have K1:=Lib.hid k1;have K2:=Lib.hid k2;have K3:=Lib.hid k3;clear k1 k2 k3)|(go_at_call 33;(with_reducible refine(ST.out _ _ _ K1.out).mono ?_);rintro e w2 ⟨⟨v,rfl⟩,H3,j1,j2,j3⟩;have J1:=Lib.hid j1;have J2:=Lib.hid j2;have J3:=Lib.hid j3;clear j1 j2 j3))
   go_ret
   refine⟨rfl,H3,cw2,J1.out,.inl (J2.out.trans K2.out),K3.out.trans (J3.out.mono ?_)⟩
   unfold Ts
   rw[K2.out]
   exact fun _ h=>h
  ·rw[if_neg (by rw[h0];decide)]
   have e1:m.stroke.1=60:=h0
   rw[h0] at S
   have S:=Lib.hid S
   have E1:=Lib.hid e1
   clear D hu h0 e1
   go_enter Try.func12,Try.ntmps12
   go_wp2_with (first|(go_at_call 31;(with_reducible refine C.out.mono ?_);rintro e w1 ⟨rfl,rfl⟩)|(go_at_call 32;(with_reducible refine S.out.mono ?_);rintro e w1 ⟨rfl,H2,cw2,k1,k2,k3⟩;have K1:=Lib.hid k1;have K2:=Lib.hid k2;have K3:=Lib.hid k3;clear k1 k2 k3))
   go_ret
   exact⟨by rw[E1.out];rfl,H2,cw2,K1.out,.inl K2.out,K3.out⟩
 ·rw[if_neg hu] at C ⊢
  have C:=Lib.hid C
  have DD:=Lib.hid D
  clear D hu
  go_enter Try.func12,Try.ntmps12
  go_wp2_with (go_at_call 31;(with_reducible refine C.out.mono ?_);rintro e w1 ⟨rfl,rfl⟩)
  go_ret
  exact⟨rfl,H,cw,DD.out,.inl rfl,Gx.refl _ _⟩
end
end Go.Proofs.Ytbgkdbjineennaa.Dk
