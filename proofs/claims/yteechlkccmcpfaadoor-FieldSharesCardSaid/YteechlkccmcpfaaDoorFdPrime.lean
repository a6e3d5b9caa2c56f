/-
  Primes, and that 2 to the 255 less 19 is one; powers modulo a prime.
-/
namespace Go.Proofs.YteechlkccmcpfaaDoor.Fd

/-! Binomial coefficients, as far as a prime wants them. -/
def ch : Nat → Nat → Nat
  | _, 0 => 1
  | 0, _ + 1 => 0
  | n + 1, k + 1 => ch n k + ch n (k + 1)
theorem ch_zero (n : Nat) : ch n 0 = 1 := by cases n <;> rfl
theorem ch_above : ∀ (n k : Nat), n < k → ch n k = 0 := by
  intro n
  induction n with
  | zero => intro k h; cases k with
    | zero => omega
    | succ k => rfl
  | succ n ih => intro k h; cases k with
    | zero => omega
    | succ k => rw [ch, ih k (by omega), ih (k + 1) (by omega)]
theorem ch_self (n : Nat) : ch n n = 1 := by
  induction n with
  | zero => rfl
  | succ n ih => rw [ch, ih, ch_above n (n + 1) (by omega)]
theorem ch_mul : ∀ (n k : Nat), (k + 1) * ch (n + 1) (k + 1) = (n + 1) * ch n k := by
  intro n
  induction n with
  | zero =>
    intro k
    cases k with
    | zero => rfl
    | succ k => simp [ch]
  | succ n ih =>
    intro k
    cases k with
    | zero =>
      have := ih 0
      simp only [ch_zero, Nat.zero_add, Nat.one_mul, Nat.mul_one] at this ⊢
      rw [ch, ch_zero, this]; omega
    | succ k =>
      have h1 := ih k
      have h2 := ih (k + 1)
      have e : ch (n + 1) (k + 1) = ch n k + ch n (k + 1) := rfl
      rw [show ch (n + 1 + 1) (k + 1 + 1) = ch (n + 1) (k + 1) + ch (n + 1) (k + 1 + 1) from rfl, Nat.mul_add, h2]
      rw [show (k + 1 + 1) * ch (n + 1) (k + 1) = (k + 1) * ch (n + 1) (k + 1) + ch (n + 1) (k + 1) by rw [Nat.add_mul, Nat.one_mul], h1, e]
      simp only [Nat.add_mul, Nat.mul_add, Nat.one_mul]
      omega
/-- The first m summands of (a + 1)^n. -/
def bs (a n : Nat) : Nat → Nat
  | 0 => 0
  | m + 1 => bs a n m + ch n m * a ^ m
theorem bs_step (a n : Nat) : ∀ m, bs a (n + 1) (m + 1) = bs a n (m + 1) + a * bs a n m := by
  intro m
  induction m with
  | zero => simp [bs, ch_zero]
  | succ m ih =>
    rw [bs, ih, bs, bs, show ch (n + 1) (m + 1) = ch n m + ch n (m + 1) from rfl]
    rw [show a * (bs a n m + ch n m * a ^ m) = a * bs a n m + ch n m * a ^ (m + 1) by rw [Nat.mul_add, Nat.pow_succ, Nat.mul_left_comm, Nat.mul_comm (a ^ m) a]]
    rw [show (bs a n (m + 1)) = bs a n m + ch n m * a ^ m from rfl, Nat.add_mul]
    omega
theorem bs_all (a : Nat) : ∀ n, bs a n (n + 1) = (a + 1) ^ n := by
  intro n
  induction n with
  | zero => simp [bs, ch]
  | succ n ih =>
    rw [bs_step, bs, ih, ch_above n (n + 1) (by omega), Nat.zero_mul, Nat.pow_succ (a + 1) n, Nat.mul_add, Nat.mul_comm a]
    omega

/-! Primes. -/
def Pr (p : Nat) : Prop := 1 < p ∧ ∀ d, d ∣ p → d = 1 ∨ d = p
theorem Pr.euclid {p a b : Nat} (hp : Pr p) (h : p ∣ a * b) : p ∣ a ∨ p ∣ b := by
  rcases hp.2 _ (Nat.gcd_dvd_left p a) with h1 | h1
  · exact .inr (Nat.Coprime.dvd_of_dvd_mul_left h1 h)
  · exact .inl (by rw [← h1]; exact Nat.gcd_dvd_right p a)
theorem Pr.ch {p : Nat} (hp : Pr p) (k : Nat) (h0 : 0 < k) (hk : k < p) : p ∣ ch p k := by
  obtain ⟨n, rfl⟩ : ∃ n, p = n + 1 := ⟨p - 1, by have := hp.1; omega⟩
  obtain ⟨j, rfl⟩ : ∃ j, k = j + 1 := ⟨k - 1, by omega⟩
  rcases hp.euclid (a := j + 1) (b := Fd.ch (n + 1) (j + 1)) ⟨Fd.ch n j, ch_mul n j⟩ with h | h
  · exact absurd (Nat.le_of_dvd (by omega) h) (by omega)
  · exact h
theorem bs_mid {p : Nat} (hp : Pr p) (a : Nat) : ∀ m, 0 < m → m ≤ p → bs a p m % p = 1 % p := by
  intro m
  induction m with
  | zero => intro h; omega
  | succ m ih =>
    intro _ hm
    by_cases h0 : m = 0
    · subst h0; simp [bs, ch_zero]
    · rw [bs, Nat.add_mod, ih (by omega) (by omega), Nat.mul_mod, Nat.mod_eq_zero_of_dvd (hp.ch m (by omega) (by omega))]
      simp
theorem Pr.pow_self {p : Nat} (hp : Pr p) (a : Nat) : a ^ p % p = a % p := by
  induction a with
  | zero => rw [Nat.zero_pow (by have := hp.1; omega)]
  | succ a ih =>
    rw [← bs_all, bs, ch_self, Nat.one_mul, Nat.add_mod, ih, bs_mid hp a p (by have := hp.1; omega) (Nat.le_refl _), ← Nat.add_mod, Nat.add_comm]
/-- Fermat's theorem. -/
theorem Pr.fermat {p : Nat} (hp : Pr p) (a : Nat) (ha : a % p ≠ 0) : a ^ (p - 1) % p = 1 := by
  have h := hp.pow_self a
  obtain ⟨n, rfl⟩ : ∃ n, p = n + 1 := ⟨p - 1, by have := hp.1; omega⟩
  have h1 := hp.1
  rw [Nat.add_sub_cancel]
  have hge : a ≤ a ^ (n + 1) := by
    rcases Nat.eq_zero_or_pos a with h0 | h0
    · subst h0; exact Nat.zero_le _
    · calc a = a ^ 1 := (Nat.pow_one a).symm
        _ ≤ a ^ (n + 1) := Nat.pow_le_pow_right h0 (by omega)
  have hd : (n + 1) ∣ a ^ (n + 1) - a := Nat.dvd_of_mod_eq_zero (Nat.sub_mod_eq_zero_of_mod_eq h)
  have e : a ^ (n + 1) - a = a * (a ^ n - 1) := by rw [Nat.mul_sub, Nat.mul_one, Nat.pow_succ, Nat.mul_comm]
  rw [e] at hd
  rcases hp.euclid hd with h2 | h2
  · exact absurd (Nat.mod_eq_zero_of_dvd h2) ha
  · have hpos : 1 ≤ a ^ n := by
      rcases Nat.eq_zero_or_pos a with h | h
      · subst h; exact absurd (Nat.zero_mod _) ha
      · exact Nat.pow_pos h
    obtain ⟨c, hc⟩ := h2
    rw [show a ^ n = 1 + (n + 1) * c by omega, Nat.add_mul_mod_self_left, Nat.mod_eq_of_lt h1]

/-! Powers that are 1, and their numbers' greatest common divisor. -/
theorem pow_one_mul {d g a : Nat} (hd : 1 < d) (h : g ^ a % d = 1) (k : Nat) : g ^ (a * k) % d = 1 := by
  rw [Nat.pow_mul, Nat.pow_mod, h, Nat.one_pow, Nat.mod_eq_of_lt hd]
theorem pow_one_mod {d g a b : Nat} (hd : 1 < d) (ha : g ^ a % d = 1) (hb : g ^ b % d = 1) : g ^ (b % a) % d = 1 := by
  have e : g ^ b % d = g ^ (b % a) % d := by
    conv => lhs; rw [← Nat.div_add_mod b a, Nat.pow_add, Nat.mul_mod, pow_one_mul hd ha, Nat.one_mul, Nat.mod_mod]
  rw [← e, hb]
theorem pow_one_gcd {d g : Nat} (hd : 1 < d) : ∀ (a b : Nat), g ^ a % d = 1 → g ^ b % d = 1 → g ^ (Nat.gcd a b) % d = 1 := by
  intro a b
  induction a, b using Nat.gcd.induction with
  | H0 b => intro _ hb; rwa [Nat.gcd_zero_left]
  | H1 a b h ih =>
    intro ha hb
    rw [Nat.gcd_rec]
    exact ih (pow_one_mod hd ha hb) ha
/-- A prime q that divides n - 1 divides d - 1, for each prime d of n, if g is of an order that wants it. -/
theorem q_dvd {n q m d g : Nat} (h1n : 1 < n) (hq : Pr q) (hn : n - 1 = q * m) (hd : Pr d) (hdn : d ∣ n) (h1 : g ^ (n - 1) % n = 1) (h2 : Nat.gcd (g ^ m % n + (n - 1)) n = 1) : q ∣ d - 1 := by
  have hd1 := hd.1
  have e1 : g ^ (n - 1) % d = 1 := by
    rw [← Nat.mod_mod_of_dvd _ hdn, h1, Nat.mod_eq_of_lt hd1]
  have hg : g % d ≠ 0 := by
    intro h0
    rw [Nat.pow_mod, h0, Nat.zero_pow (by omega), Nat.zero_mod] at e1
    cases e1
  have e2 := hd.fermat g hg
  have e3 := pow_one_gcd hd1 _ _ e1 e2
  rcases hq.2 _ (Nat.gcd_dvd_left q (Nat.gcd (n - 1) (d - 1))) with hc | hc
  · exfalso
    have h3 : Nat.gcd (n - 1) (d - 1) ∣ q * m := hn ▸ Nat.gcd_dvd_left _ _
    have h4 : Nat.gcd (n - 1) (d - 1) ∣ m := Nat.Coprime.dvd_of_dvd_mul_left (by rw [Nat.Coprime, Nat.gcd_comm]; exact hc) h3
    obtain ⟨k, hk⟩ := h4
    have e4 : g ^ m % d = 1 := by rw [hk]; exact pow_one_mul hd1 e3 k
    have h5 : d ∣ g ^ m % n + (n - 1) := by
      apply Nat.dvd_of_mod_eq_zero
      rw [Nat.add_mod, Nat.mod_mod_of_dvd _ hdn, e4]
      obtain ⟨c, rfl⟩ := hdn
      have h0 : (1 + (d * c - 1)) % d = 0 := by
        rw [show 1 + (d * c - 1) = d * c by omega, Nat.mul_mod_right]
      rw [← h0]
      conv => rhs; rw [Nat.add_mod, Nat.mod_eq_of_lt hd1]
    have h6 := Nat.dvd_gcd h5 hdn
    rw [h2] at h6
    exact absurd (Nat.dvd_one.1 h6) (by omega)
  · rw [← hc]
    exact Nat.dvd_trans (Nat.gcd_dvd_right _ _) (Nat.gcd_dvd_right _ _)
/-- Each number above 1 has a prime that is at most its root, or is one itself. -/
theorem least_prime : ∀ (n : Nat), 1 < n → ∃ d, Pr d ∧ d ∣ n := by
  intro n
  induction n using Nat.strongRecOn with
  | _ n ih =>
    intro h1
    by_cases hp : Pr n
    · exact ⟨n, hp, Nat.dvd_refl n⟩
    · have : ∃ d, d ∣ n ∧ d ≠ 1 ∧ d ≠ n := by
        apply Classical.byContradiction
        intro hno
        exact hp ⟨h1, fun d hd => by
          apply Classical.byContradiction
          intro hd2
          exact hno ⟨d, hd, fun h => hd2 (.inl h), fun h => hd2 (.inr h)⟩⟩
      obtain ⟨d, hd, hd1, hdn⟩ := this
      have hle := Nat.le_of_dvd (by omega) hd
      have hpos : 0 < d := Nat.pos_of_dvd_of_pos hd (by omega)
      obtain ⟨e, he, hed⟩ := ih d (by omega) (by omega)
      exact ⟨e, he, Nat.dvd_trans hed hd⟩
theorem prime_of {n : Nat} (h1 : 1 < n) (h : ∀ d, Pr d → d ∣ n → n < d * d) : Pr n := by
  refine ⟨h1, fun e he => ?_⟩
  obtain ⟨f, rfl⟩ := he
  by_cases he1 : e = 1
  · exact .inl he1
  · by_cases hf1 : f = 1
    · exact .inr (by rw [hf1, Nat.mul_one])
    · exfalso
      have he0 : 0 < e := Nat.pos_of_ne_zero (by rintro rfl; omega)
      have hf0 : 0 < f := Nat.pos_of_ne_zero (by rintro rfl; omega)
      obtain ⟨d, hd, hde⟩ := least_prime e (by omega)
      obtain ⟨d', hd', hdf⟩ := least_prime f (by omega)
      have g1 := h d hd (Nat.dvd_trans hde (Nat.dvd_mul_right _ _))
      have g2 := h d' hd' (Nat.dvd_trans hdf (Nat.dvd_mul_left _ _))
      have l1 := Nat.le_of_dvd he0 hde
      have l2 := Nat.le_of_dvd hf0 hdf
      have m := Nat.mul_le_mul l1 l2
      rcases Nat.le_total d d' with hh | hh
      · have := Nat.mul_le_mul_left d hh; omega
      · have := Nat.mul_le_mul_right d' hh; omega
/-- Pocklington's test, by one or two primes of n - 1. -/
theorem pocklington {n q r m k g f : Nat} (h1 : 1 < n) (hq : Pr q) (hr : r = 1 ∨ (Pr r ∧ r ≠ q ∧ n - 1 = r * k ∧ f ^ (n - 1) % n = 1 ∧ Nat.gcd (f ^ k % n + (n - 1)) n = 1)) (hn : n - 1 = q * m)
    (hg : g ^ (n - 1) % n = 1) (hg2 : Nat.gcd (g ^ m % n + (n - 1)) n = 1) (hF : n ≤ (q * r) * (q * r)) : Pr n := by
  refine prime_of h1 fun d hd hdn => ?_
  have a1 := q_dvd h1 hq hn hd hdn hg hg2
  have key : q * r ∣ d - 1 := by
    rcases hr with rfl | ⟨hr, hne, hk, hf, hf2⟩
    · rwa [Nat.mul_one]
    · have a2 := q_dvd h1 hr hk hd hdn hf hf2
      refine Nat.Coprime.mul_dvd_of_dvd_of_dvd ?_ a1 a2
      rcases hq.2 _ (Nat.gcd_dvd_left q r) with h | h
      · exact h
      · have h2 : q ∣ r := h ▸ Nat.gcd_dvd_right q r
        rcases hr.2 _ h2 with h3 | h3
        · have := hq.1; omega
        · exact absurd h3.symm hne
  have hd1 := hd.1
  have := Nat.le_of_dvd (by omega) key
  have h3 : q * r < d := by omega
  exact Nat.lt_of_le_of_lt hF (Nat.mul_lt_mul'' h3 h3)

/-! Powers, quickly. -/
/-- g to e modulo n, digit by digit, from the lowest; s is more than the digits. -/
def mp : Nat → Nat → Nat → Nat → Nat → Nat
  | 0, acc, _, _, _ => acc
  | s + 1, acc, g, e, n => if e = 0 then acc else mp s (if e % 2 = 1 then acc * g % n else acc) (g * g % n) (e / 2) n
theorem mp_eq : ∀ (s acc g e n : Nat), e < 2 ^ s → acc < n → mp s acc g e n = acc * g ^ e % n := by
  intro s
  induction s with
  | zero => intro acc g e n he ha; have : e = 0 := by omega
            subst this; rw [mp, Nat.pow_zero, Nat.mul_one, Nat.mod_eq_of_lt ha]
  | succ s ih =>
    intro acc g e n he ha
    rw [mp]
    by_cases h0 : e = 0
    · subst h0; rw [if_pos rfl, Nat.pow_zero, Nat.mul_one, Nat.mod_eq_of_lt ha]
    · rw [if_neg h0]
      have hn : 0 < n := by omega
      rw [Nat.pow_succ] at he
      have hsq : (g * g % n) ^ (e / 2) % n = g ^ (e / 2 * 2) % n := by
        rw [← Nat.pow_mod, Nat.mul_comm (e / 2) 2, Nat.pow_mul, Nat.pow_two]
      rcases Nat.mod_two_eq_zero_or_one e with h | h
      · rw [if_neg (by omega), ih _ _ _ _ (by omega) ha, Nat.mul_mod, hsq, ← Nat.mul_mod, show e / 2 * 2 = e by omega]
      · rw [if_pos h, ih _ _ _ _ (by omega) (Nat.mod_lt _ hn), Nat.mul_mod, hsq, Nat.mod_mod, ← Nat.mul_mod, Nat.mul_assoc, ← Nat.pow_succ', show (e / 2 * 2).succ = e by omega]
theorem pow_eq {s g e n x : Nat} (he : e < 2 ^ s) (hn : 1 < n) (h : mp s 1 g e n = x) : g ^ e % n = x := by
  rw [← h, mp_eq s 1 g e n he hn, Nat.one_mul]
/-- No divisor from i on, as far as s goes. -/
def nd : Nat → Nat → Nat → Bool
  | 0, _, _ => true
  | s + 1, i, n => if n % i = 0 then false else nd s (i + 1) n
theorem nd_eq : ∀ (s i n : Nat), nd s i n = true → ∀ d, i ≤ d → d < i + s → ¬ d ∣ n := by
  intro s
  induction s with
  | zero => intro i n _ d h1 h2; omega
  | succ s ih =>
    intro i n h d h1 h2 hd
    rw [nd] at h
    split at h
    · cases h
    · rename_i hne
      by_cases e : d = i
      · subst e; exact hne (Nat.mod_eq_zero_of_dvd hd)
      · exact ih (i + 1) n h d (by omega) (by omega) hd
theorem prime_small {n s : Nat} (h1 : 1 < n) (hs : n < (s + 2) * (s + 2)) (h : nd s 2 n = true) : Pr n := by
  refine prime_of h1 fun d hd hdn => ?_
  rcases Nat.lt_or_ge d (s + 2) with h2 | h2
  · exact absurd hdn (nd_eq s 2 n h d hd.1 (by omega))
  · exact Nat.lt_of_lt_of_le hs (Nat.mul_le_mul h2 h2)
/-- The same with powers that are reckoned. -/
theorem cert {n q r m k g f s : Nat} (h1 : 1 < n) (hs : n < 2 ^ s) (hq : Pr q) (hn : n - 1 = q * m) (hg : mp s 1 g (n - 1) n = 1) (hg2 : Nat.gcd (mp s 1 g m n + (n - 1)) n = 1)
    (hr : r = 1 ∨ (Pr r ∧ r ≠ q ∧ n - 1 = r * k ∧ mp s 1 f (n - 1) n = 1 ∧ Nat.gcd (mp s 1 f k n + (n - 1)) n = 1)) (hF : n ≤ (q * r) * (q * r)) : Pr n := by
  have le_of : ∀ {a b : Nat}, Pr a → n - 1 = a * b → b < 2 ^ s := fun {a b} ha hb => by
    have := Nat.mul_le_mul_right b (Nat.le_of_lt ha.1)
    omega
  have e1 : g ^ (n - 1) % n = 1 := pow_eq (by omega) h1 hg
  have e2 : g ^ m % n = mp s 1 g m n := pow_eq (le_of hq hn) h1 rfl
  refine pocklington (q := q) (r := r) (m := m) (k := k) (g := g) (f := f) h1 hq ?_ hn e1 (by rw [e2]; exact hg2) hF
  rcases hr with hr | ⟨hr, hne, hk, hf, hf2⟩
  · exact .inl hr
  · refine .inr ⟨hr, hne, hk, pow_eq (by omega) h1 hf, ?_⟩
    rw [pow_eq (le_of hr hk) h1 rfl]
    exact hf2
/-! The chain to 2^255 - 19. -/
set_option maxRecDepth 100000 in
theorem pr_8574133 : Pr 8574133 := prime_small (s := 2928) (by decide) (by decide) (by decide +kernel)
theorem pr_7 : Pr 7 := prime_small (s := 2) (by decide) (by decide) (by decide +kernel)
theorem pr_16d_86763 : Pr 1919519569386763 :=
  cert (q := 8574133) (r := 7) (m := 223873314) (k := 274217081340966) (g := 2) (f := 2) (s := 52) (by decide +kernel) (by decide +kernel) pr_8574133 (by decide +kernel) (by decide +kernel) (by decide +kernel)
    (.inr ⟨pr_7, by decide, by decide +kernel, by decide +kernel, by decide +kernel⟩) (by decide +kernel)
theorem pr_75707 : Pr 75707 := prime_small (s := 275) (by decide) (by decide) (by decide +kernel)
theorem pr_35d_64801 : Pr 75445702479781427272750846543864801 :=
  cert (q := 1919519569386763) (r := 75707) (m := 39304471641247389600) (k := 996548568557483816196003626400) (g := 2) (f := 2) (s := 117) (by decide +kernel) (by decide +kernel) pr_16d_86763 (by decide +kernel) (by decide +kernel) (by decide +kernel)
    (.inr ⟨pr_75707, by decide, by decide +kernel, by decide +kernel, by decide +kernel⟩) (by decide +kernel)
theorem pr_353 : Pr 353 := prime_small (s := 18) (by decide) (by decide) (by decide +kernel)
theorem pr_71d_40907 : Pr 74058212732561358302231226437062788676166966415465897661863160754340907 :=
  cert (q := 75445702479781427272750846543864801) (r := 353) (m := 981609426360740691344999861639072106) (k := 209796636636151156663544550813209033076960244803019540118592523383402) (g := 2) (f := 2) (s := 237) (by decide +kernel) (by decide +kernel) pr_35d_64801 (by decide +kernel) (by decide +kernel) (by decide +kernel)
    (.inr ⟨pr_353, by decide, by decide +kernel, by decide +kernel, by decide +kernel⟩) (by decide +kernel)
theorem pr_77d_19949 : Pr 57896044618658097711785492504343953926634992332820282019728792003956564819949 :=
  cert (q := 74058212732561358302231226437062788676166966415465897661863160754340907) (r := 1) (m := 781764) (k := 1) (g := 2) (f := 1) (s := 256) (by decide +kernel) (by decide +kernel) pr_71d_40907 (by decide +kernel) (by decide +kernel) (by decide +kernel)
    (.inl rfl) (by decide +kernel)
end Go.Proofs.YteechlkccmcpfaaDoor.Fd
