/- Joined texts. -/
import Derived.Test.YtjimhjfjfpeojaaGreatDoorQaEdA
set_option linter.unusedVariables false
namespace Go.Proofs.YtjimhjfjfpeojaaGreatDoor.Ed
open Go.RowKit Go.Proofs.YtjimhjfjfpeojaaGreatDoor.Gn Go.Proofs.YtjimhjfjfpeojaaGreatDoor.Fd Go.Deep
def au (y : K) : K := ksub (kmul y y) (kof 1)
def av (y : K) : K := kadd (kmul kd (kmul y y)) (kof 1)
def acr (y : K) : Option Nat := rt (au y).n (av y).n
theorem kof_lt (n : Nat) : (kof n).n < pp := by rw [kof_n]; exact mod_lt n
theorem au_lt (y : K) : (au y).n < pp := by unfold au ksub; exact kof_lt _
theorem av_lt (y : K) : (av y).n < pp := by unfold av kadd; exact kof_lt _
theorem acr_rr (y : K) : acr y = rr (au y).n (av y).n := rt_eq _ _ (au_lt y) (av_lt y)
theorem au_f (y : K) : fe (au y).n = y.f * y.f - 1 := by
 show (au y).f = _
 unfold au; rw [ksub_f, kmul_f, kof_f, fe_one]
theorem av_f (y : K) : fe (av y).n = fe dn * (y.f * y.f) + 1 := by
 show (av y).f = _
 unfold av; rw [kadd_f, kmul_f, kmul_f, kof_f, fe_one, kd_f]; rfl
theorem av_ne (y : K) : (av y).n ≠ 0 := by
 intro h
 have := av_f y
 rw [h, fe_zero] at this
 exact cv.den_ne y.f this.symm
theorem acr_lt {y : K} {r : Nat} (h : acr y = some r) : r < pp ∧ r % 2 = 0 := by
 rw [acr_rr] at h
 obtain ⟨h1, h2, -⟩ := rr_root (av_lt y) (av_ne y) h
 exact ⟨h1, h2⟩
def sx (s r : Nat) : K := if s = 1 then kneg (kof r) else kof r
theorem sx_f (s r : Nat) : (sx s r).f = fe (if s = 1 then ng r else r) := by
 unfold sx
 split
 ·rw [kneg_f, kof_f, fe_ng]
 ·rw [kof_f]
def dpt (m s : Nat) : Option KP :=
 if m < pp then (match acr (kof m) with
  | none => none
  | some r => if s = 1 ∧ r = 0 then none else some (kheld (sx s r) (kof m))) else none
theorem dpt_has {m s : Nat} {p : KP} (hs : s < 2) (h : dpt m s = some p) : ∃ g, Hp p g ∧ gb g = m + s * 57896044618658097711785492504343953926634992332820282019728792003956564819968 := by
 unfold dpt at h
 split at h
 ·rename_i hm
  cases ha : acr (kof m) with
  | none => rw [ha] at h; cases h
  | some r =>
   rw [ha] at h
   dsimp only at h
   split at h
   ·cases h
   ·rename_i hn
    obtain rfl := Option.some.inj h
    have hrr := ha
    rw [acr_rr] at hrr
    have hmf : (kof m).f = fe m := kof_f m
    obtain ⟨g, gy, gx, gs, gg⟩ := read_some (y := m) (s := s) hm (av_lt (kof m)) (by rw [au_f, hmf]) (by rw [av_f, hmf]) hrr hs (fun h1 h2 => hn ⟨h1, h2⟩)
    refine ⟨g, ?_, gg⟩
    unfold Hp Has kheld KP.pt
    simp only [kmul_f, sx_f, kof_f, fe_one]
    rw [← gx, ← gy]
    exact Crv.rep_flat g.on
 ·cases h
end Go.Proofs.YtjimhjfjfpeojaaGreatDoor.Ed
