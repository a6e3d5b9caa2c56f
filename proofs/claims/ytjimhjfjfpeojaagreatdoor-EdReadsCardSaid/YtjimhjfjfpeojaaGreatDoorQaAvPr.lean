/- Joined texts. -/
import Derived.Test.YtjimhjfjfpeojaaGreatDoorQaAvBr
import Derived.Test.YtjimhjfjfpeojaaGreatDoorQaEdN
import Derived.Test.YtjimhjfjfpeojaaGreatDoorQaAvPd
set_option linter.unusedVariables false
namespace Go.Proofs.YtjimhjfjfpeojaaGreatDoor.Av
open Go.RowKit Go.Proofs.YtjimhjfjfpeojaaGreatDoor.Gn Go.Proofs.YtjimhjfjfpeojaaGreatDoor.Fd Go.Proofs.YtjimhjfjfpeojaaGreatDoor.Ed Go.Deep
def pnt (g : G) : DV := .sat fun u => ∃ p : KP, u = .agg p.v ∧ Hp p g
def nop : DV := .lit (.agg z20)
theorem p_on {g : G} (w : World) (tab : TabE w) : FnAt Tryz.prog [] w 17 [pnt g] (.lit (.bool true)) :=
 ⟨fun _ _ => by kernel_rfl, fun O vs hO hk hl hr => by
  obtain ⟨u, rfl, ⟨p, rfl, hp⟩⟩ := one_arg hl hr
  have := On_any p w tab
  rw [hon_has hp] at this
  exact this.mono fun e w' ⟨h3, h4⟩ => ⟨_, h3, rfl, h4⟩⟩
theorem p_same {g h : G} (w : World) (tab : TabE w) (b : Bool) (hb : b = true ↔ g = h) : FnAt Tryz.prog [] w 26 [pnt g, pnt h] (.lit (.bool b)) :=
 FnAt.sat2 (fun _ _ => by kernel_rfl) fun v u ⟨p, hv, hp⟩ ⟨q, hu, hq⟩ => by
  subst hv hu
  have := p_samek p q w tab
  rwa [show hsame kd p q = b from Bool.eq_iff_iff.2 ((hsame_has hp hq).trans hb.symm)] at this
theorem p_enc {g : G} (w : World) : FnAt Tryz.prog [] w 16 [pnt g] (byt true (by_ (gb g) 32)) :=
 FnAt.sat (fun _ _ => by kernel_rfl) fun v ⟨p, hv, hp⟩ => by subst hv; exact p_enck hp w
theorem p_known (w : World) (tab : TabE w) (ts : Sh.Tab w) : FnAt Tryz.prog [] w 11 [] (.lit (.bool true)) :=
 ⟨fun _ _ => by kernel_rfl, fun O vs hO hk hl hr => by
  obtain rfl := no_args hl
  exact (known_any w tab ts).mono fun e w' ⟨h3, h4⟩ => ⟨_, h3, rfl, h4⟩⟩
theorem c_is {g : G} {x y z : Nat} (hx : x < pp) (hy : y < pp) (hz : z < pp) (b : Bool) (hb : ∀ p, Hp p g → ris p x y z = b) (w : World) : FnAt Tryz.prog [.u64] w 14 [pnt g, pt x y z] (.lit (.bool b)) :=
 ⟨fun _ _ => by kernel_rfl, fun O vs hO hk hl hr => by
  obtain ⟨u, v, rfl, ⟨p, rfl, hp⟩, h2⟩ := two_args hl hr
  have := (c_isk p hx hy hz w).2 O [.agg p.v, v] hO hk rfl ⟨⟨_, rfl, rfl⟩, ⟨_, rfl, h2⟩, trivial⟩
  rw [hb p hp] at this
  exact this⟩
theorem p_decN {l : List Nat} (h32 : l.length = 32) (hl : ∀ x ∈ l, x < 256) (h : dpt (le (low l)) (l.getD 31 0 / 128) = none) (w : World) (tab : TabE w) : FnAt Tryz.prog [] w 12 [byt true l] (.tup [nop, .lit (.int .i64 40)]) := by
 have := p_dec5 h32 hl w tab
 rw [h] at this
 exact this
theorem p_decS {l : List Nat} {p : KP} (h32 : l.length = 32) (hl : ∀ x ∈ l, x < 256) (h : dpt (le (low l)) (l.getD 31 0 / 128) = some p) (w : World) (tab : TabE w) : FnAt Tryz.prog [] w 12 [byt true l] (.tup [.lit (.agg p.v), .lit (.int .i64 0)]) := by
 have := p_dec5 h32 hl w tab
 rw [h] at this
 exact this
theorem lit_pnt {p : KP} {g : G} (h : Hp p g) : DV.le (.lit (.agg p.v)) (pnt g) := fun O w v e => by cases e; exact ⟨p, rfl, h⟩
theorem nop_row : ∀ O w v, nop.rep O w v → ∃ us : Array Value, v = .agg us ∧ us.size = 20 ∧ ∀ u ∈ us.toList, u.oneCell' = true := agg_row rfl (by intro u hu; unfold z20 at hu; simp at hu; subst hu; rfl)
end Go.Proofs.YtjimhjfjfpeojaaGreatDoor.Av
