/-
  Stable sorting, plain: runs by a strict order, rotations, the merge of two runs.
-/
import Derived.Sort.LotA
namespace Go.Proofs.Ytdiihpnfeeediaa.So
open Go.Sort
set_option linter.unusedVariables false
variable {α : Type} [Inhabited α]

/-- Strictly rising by T from a to b. -/
def Run (T : α → α → Prop) (d : Array α) (a b : Nat) : Prop := ∀ i j, a ≤ i → i < j → j < b → T d[i]! d[j]!
/-- Those of the first part have lesser numbers than those of the second. -/
def Apart (v : α → Nat) (d : Array α) (a m b : Nat) : Prop := ∀ i j, a ≤ i → i < m → m ≤ j → j < b → v d[i]! < v d[j]!
/-- Only from a to b something moved. -/
structure Mv (a b : Nat) (d d' : Array α) : Prop where
  size : d'.size = d.size
  out : ∀ p, p < a ∨ b ≤ p → d'[p]! = d[p]!
  ins : ∀ p, a ≤ p → p < b → ∃ q, a ≤ q ∧ q < b ∧ d'[p]! = d[q]!
  back : ∀ p, a ≤ p → p < b → ∃ q, a ≤ q ∧ q < b ∧ d[p]! = d'[q]!
theorem Mv.refl (a b : Nat) (d : Array α) : Mv a b d d := ⟨rfl, fun _ _ => rfl, fun p h1 h2 => ⟨p, h1, h2, rfl⟩, fun p h1 h2 => ⟨p, h1, h2, rfl⟩⟩
theorem Mv.trans {a b : Nat} {d d' d'' : Array α} (h : Mv a b d d') (h' : Mv a b d' d'') : Mv a b d d'' :=
  ⟨h'.size.trans h.size, fun p hp => (h'.out p hp).trans (h.out p hp), fun p h1 h2 => by
    obtain ⟨q, q1, q2, e⟩ := h'.ins p h1 h2
    obtain ⟨r, r1, r2, e'⟩ := h.ins q q1 q2
    exact ⟨r, r1, r2, e.trans e'⟩, fun p h1 h2 => by
    obtain ⟨q, q1, q2, e⟩ := h.back p h1 h2
    obtain ⟨r, r1, r2, e'⟩ := h'.back q q1 q2
    exact ⟨r, r1, r2, e.trans e'⟩⟩
theorem Mv.wide {a b a' b' : Nat} {d d' : Array α} (h : Mv a b d d') (ha : a' ≤ a) (hb : b ≤ b') : Mv a' b' d d' :=
  ⟨h.size, fun p hp => h.out p (by omega), fun p h1 h2 => by
    by_cases hp : a ≤ p ∧ p < b
    · obtain ⟨q, q1, q2, e⟩ := h.ins p hp.1 hp.2
      exact ⟨q, by omega, by omega, e⟩
    · exact ⟨p, h1, h2, h.out p (by omega)⟩, fun p h1 h2 => by
    by_cases hp : a ≤ p ∧ p < b
    · obtain ⟨q, q1, q2, e⟩ := h.back p hp.1 hp.2
      exact ⟨q, by omega, by omega, e⟩
    · exact ⟨p, h1, h2, (h.out p (by omega)).symm⟩⟩
/-- The order of a stable sort: by the test, else by the numbers. -/
structure Ord (lt : α → α → Bool) (v : α → Nat) (T : α → α → Prop) : Prop where
  trans : ∀ x y z, T x y → T y z → T x z
  irr : ∀ x, ¬ T x x
  less : ∀ x y, v y < v x → lt x y = true → T x y
  ge : ∀ x y, v y < v x → lt x y = false → T y x
def Rot (d d' : Array α) (lo m hi : Nat) : Prop :=
  d'.size = d.size ∧ ∀ p, d'[p]! = if p < lo ∨ hi ≤ p then d[p]! else if p - lo < hi - m then d[m + (p - lo)]! else d[p - (hi - m)]!
def SwR (d d' : Array α) (a b n : Nat) : Prop :=
  d'.size = d.size ∧ ∀ p, d'[p]! = if a ≤ p ∧ p < a + n then d[b + (p - a)]! else if b ≤ p ∧ p < b + n then d[a + (p - b)]! else d[p]!
theorem ix (d : Array α) {x y : Nat} (h : x = y) : d[x]! = d[y]! := by rw [h]
theorem SwR.start (d : Array α) (a b : Nat) : SwR d d a b 0 := ⟨rfl, fun p => by rw [if_neg (by omega), if_neg (by omega)]⟩
theorem SwR.step {d dk : Array α} {a b k : Nat} (h : SwR d dk a b k) (hab : a + k < b) (hb : b + k < d.size) : SwR d (swp dk (a + k) (b + k)) a b (k + 1) := by
  obtain ⟨hs, hp⟩ := h
  refine ⟨(swp_size _ _ _).trans hs, fun p => ?_⟩
  rw [swp_get dk (by omega) (by omega), hp (a + k), hp (b + k), hp p]
  repeat' split
  all_goals first | rfl | (exfalso; omega) | exact ix _ (by omega)
theorem Rot.refl (d : Array α) (lo m hi : Nat) (h : lo = m ∨ m = hi) (h1 : lo ≤ m) (h2 : m ≤ hi) : Rot d d lo m hi := by
  refine ⟨rfl, fun p => ?_⟩
  repeat' split
  all_goals first | rfl | (exfalso; omega) | exact ix _ (by omega)
theorem Rot.more {d d1 d' : Array α} {m i j : Nat} (hji : j < i) (him : i ≤ m) (h1 : SwR d d1 (m - i) m j) (h2 : Rot d1 d' (m - (i - j)) m (m + j)) : Rot d d' (m - i) m (m + j) := by
  refine ⟨h2.1.trans h1.1, fun p => ?_⟩
  rw [h2.2 p, h1.2 p, h1.2 (m + (p - (m - (i - j)))), h1.2 (p - (m + j - m))]
  repeat' split
  all_goals first | rfl | (exfalso; omega) | exact ix _ (by omega)
theorem Rot.less {d d1 d' : Array α} {m i j : Nat} (hij : i < j) (him : i ≤ m) (h1 : SwR d d1 (m - i) (m + j - i) i) (h2 : Rot d1 d' (m - i) m (m + (j - i))) : Rot d d' (m - i) m (m + j) := by
  refine ⟨h2.1.trans h1.1, fun p => ?_⟩
  rw [h2.2 p, h1.2 p, h1.2 (m + (p - (m - i))), h1.2 (p - (m + (j - i) - m))]
  repeat' split
  all_goals first | rfl | (exfalso; omega) | exact ix _ (by omega)
theorem Rot.same {d d' : Array α} {m i : Nat} (him : i ≤ m) (h1 : SwR d d' (m - i) m i) : Rot d d' (m - i) m (m + i) := by
  refine ⟨h1.1, fun p => ?_⟩
  rw [h1.2 p]
  repeat' split
  all_goals first | rfl | (exfalso; omega) | exact ix _ (by omega)
/-- One goes up by one. -/
theorem Rot.up {d dk : Array α} {a k : Nat} (h : Rot d dk a (a + 1) (k + 1)) (hak : a ≤ k) (hk : k + 1 < d.size) : Rot d (swp dk k (k + 1)) a (a + 1) (k + 1 + 1) := by
  obtain ⟨hs, hp⟩ := h
  refine ⟨(swp_size _ _ _).trans hs, fun p => ?_⟩
  rw [swp_get dk (by omega) (by omega), hp k, hp (k + 1), hp p]
  repeat' split
  all_goals first | rfl | (exfalso; omega) | exact ix _ (by omega)
/-- One goes down by one. -/
theorem Rot.down {d dk : Array α} {m k : Nat} (h : Rot d dk (k + 1) m (m + 1)) (hak : k + 1 ≤ m) (hk : m < d.size) : Rot d (swp dk (k + 1) k) k m (m + 1) := by
  obtain ⟨hs, hp⟩ := h
  refine ⟨(swp_size _ _ _).trans hs, fun p => ?_⟩
  rw [swp_get dk (by omega) (by omega), hp k, hp (k + 1), hp p]
  repeat' split
  all_goals first | rfl | (exfalso; omega) | exact ix _ (by omega)
theorem Rot.mv {d d' : Array α} {lo m hi : Nat} (h : Rot d d' lo m hi) (h1 : lo ≤ m) (h2 : m ≤ hi) : Mv lo hi d d' :=
  ⟨h.1, fun p hp => by rw [h.2 p, if_pos hp], fun p hp hq => by
    rw [h.2 p, if_neg (by omega)]
    by_cases hc : p - lo < hi - m
    · exact ⟨m + (p - lo), by omega, by omega, by rw [if_pos hc]⟩
    · exact ⟨p - (hi - m), by omega, by omega, by rw [if_neg hc]⟩, fun p hp hq => by
    by_cases hc : p < m
    · exact ⟨p + (hi - m), by omega, by omega, by rw [h.2, if_neg (by omega), if_neg (by omega)]; exact ix _ (by omega)⟩
    · exact ⟨lo + (p - m), by omega, by omega, by rw [h.2, if_neg (by omega), if_pos (by omega)]; exact ix _ (by omega)⟩⟩
section
variable {lt : α → α → Bool} {v : α → Nat} {T : α → α → Prop}
theorem Run.sub {d : Array α} {a b a' b' : Nat} (h : Run T d a b) (ha : a ≤ a') (hb : b' ≤ b) : Run T d a' b' := fun i j h1 h2 h3 => h i j (by omega) h2 (by omega)
theorem Run.same {d d' : Array α} {a b : Nat} (h : Run T d a b) (he : ∀ p, a ≤ p → p < b → d'[p]! = d[p]!) : Run T d' a b := fun i j h1 h2 h3 => by
  rw [he i h1 (by omega), he j (by omega) h3]; exact h i j h1 h2 h3
/-- Two runs of which each of the first is below each of the second. -/
theorem Run.join {d : Array α} {a m b : Nat} (h1 : Run T d a m) (h2 : Run T d m b) (h : ∀ i j, a ≤ i → i < m → m ≤ j → j < b → T d[i]! d[j]!) : Run T d a b := fun i j hi hij hj => by
  by_cases h3 : j < m
  · exact h1 i j hi hij h3
  · by_cases h4 : i < m
    · exact h i j hi h4 (by omega) hj
    · exact h2 i j (by omega) hij hj
/-- One run of a row that was turned round a place. -/
theorem rot_run {d d' : Array α} {a lo m hi b : Nat} (hr : Rot d d' lo m hi) (h1 : Run T d a m) (h2 : Run T d m b) (ha : a ≤ lo) (hl : lo ≤ m) (hm : m ≤ hi) (hb : hi ≤ b)
    (c1 : ∀ x y, a ≤ x → x < lo → m ≤ y → y < b → T d[x]! d[y]!) (c2 : ∀ x y, lo ≤ x → x < m → m ≤ y → y < hi → T d[y]! d[x]!) (c3 : ∀ x y, lo ≤ x → x < m → hi ≤ y → y < b → T d[x]! d[y]!) : Run T d' a b := by
  intro i j hi' hij hj
  rw [hr.2 i, hr.2 j]
  repeat' split
  all_goals first
    | (exfalso; omega)
    | exact h2 _ _ (by omega) (by omega) (by omega)
    | exact c1 _ _ (by omega) (by omega) (by omega) (by omega)
    | exact c2 _ _ (by omega) (by omega) (by omega) (by omega)
    | exact c3 _ _ (by omega) (by omega) (by omega) (by omega)
    | exact h1 _ _ (by omega) (by omega) (by omega)
    | exact h2 _ _ (by omega) (by omega) (by omega)
    | (rcases Nat.lt_or_ge j lo with q | q
       · exact h1 _ _ (by omega) (by omega) (by omega)
       · rcases Nat.lt_or_ge i lo with q' | q'
         · exact c1 _ _ (by omega) (by omega) (by omega) (by omega)
         · exact h2 _ _ (by omega) (by omega) (by omega))
/-- What the search in the middle case finds. -/
structure Found (T : α → α → Prop) (d : Array α) (a m b s n : Nat) : Prop where
  as : a ≤ s
  sm : s ≤ m
  me : m ≤ n - s
  eb : n - s ≤ b
  sn : s ≤ n
  low : a < s → n - s < b → T d[s - 1]! d[n - s]!
  high : s < m → m < n - s → T d[n - s - 1]! d[s]!
  /-- nothing stands behind or ahead where the search met its end -/
  mid : s + (n - s - m) = n - m
  am : a ≤ n - m
  nb : n - m ≤ b
theorem Found.cross (O : Ord lt v T) {d d1 : Array α} {a m b s n : Nat} (F : Found T d a m b s n) (hr : Rot d d1 s m (n - s)) (h1 : Run T d a m) (h2 : Run T d m b) :
    ∀ x y, a ≤ x → x < n - m → n - m ≤ y → y < b → T d1[x]! d1[y]! := by
  intro x y hx hx' hy hy'
  have f1 := F.as; have f2 := F.sm; have f3 := F.me; have f4 := F.eb; have f5 := F.sn; have f6 := F.mid
  rw [hr.2 x, hr.2 y]
  by_cases xs : x < s
  · rw [if_pos (Or.inl xs)]
    by_cases ye : n - s ≤ y
    · -- A low, B high
      rw [if_pos (Or.inr ye)]
      have t := F.low (by omega) (by omega)
      have t2 : T d[x]! d[n - s]! := by
        by_cases e : x = s - 1
        · rw [e]; exact t
        · exact O.trans _ _ _ (h1 x (s - 1) hx (by omega) (by omega)) t
      by_cases e : y = n - s
      · rw [e]; exact t2
      · exact O.trans _ _ _ t2 (h2 (n - s) y (by omega) (by omega) hy')
    · rw [if_neg (by omega), if_neg (by omega)]
      exact h1 _ _ hx (by omega) (by omega)
  · rw [if_neg (by omega), if_pos (by omega)]
    by_cases ye : n - s ≤ y
    · rw [if_pos (Or.inr ye)]
      exact h2 _ _ (by omega) (by omega) hy'
    · rw [if_neg (by omega), if_neg (by omega)]
      have t := F.high (by omega) (by omega)
      have t2 : T d[m + (x - s)]! d[s]! := by
        by_cases e : m + (x - s) = n - s - 1
        · rw [e]; exact t
        · exact O.trans _ _ _ (h2 _ (n - s - 1) (by omega) (by omega) (by omega)) t
      by_cases e : y - (n - s - m) = s
      · rw [e]; exact t2
      · exact O.trans _ _ _ t2 (h1 s _ (by omega) (by omega) (by omega))
/-- The halves behind the turn. -/
structure Halves (T : α → α → Prop) (v : α → Nat) (d : Array α) (a s c e b : Nat) : Prop where
  r1 : Run T d a s
  r2 : Run T d s c
  ap1 : Apart v d a s c
  r3 : Run T d c e
  r4 : Run T d e b
  ap2 : Apart v d c e b
  cross : ∀ x y, a ≤ x → x < c → c ≤ y → y < b → T d[x]! d[y]!
theorem Found.halves (O : Ord lt v T) {d d1 : Array α} {a m b s n : Nat} (F : Found T d a m b s n) (hr : Rot d d1 s m (n - s)) (h1 : Run T d a m) (h2 : Run T d m b) (h3 : Apart v d a m b) : Halves T v d1 a s (n - m) (n - s) b := by
  have C := F.cross O hr h1 h2
  have f1 := F.as; have f2 := F.sm; have f3 := F.me; have f4 := F.eb; have f5 := F.sn; have f6 := F.mid
  refine ⟨?_, ?_, ?_, ?_, ?_, ?_, C⟩
  · intro i j a1 a2 a3
    rw [hr.2 i, if_pos (by omega), hr.2 j, if_pos (by omega)]
    exact h1 _ _ a1 a2 (by omega)
  · intro i j a1 a2 a3
    rw [hr.2 i, if_neg (by omega), if_pos (by omega), hr.2 j, if_neg (by omega), if_pos (by omega)]
    exact h2 _ _ (by omega) (by omega) (by omega)
  · intro i j a1 a2 a3 a4
    rw [hr.2 i, if_pos (by omega), hr.2 j, if_neg (by omega), if_pos (by omega)]
    exact h3 _ _ (by omega) (by omega) (by omega) (by omega)
  · intro i j a1 a2 a3
    rw [hr.2 i, if_neg (by omega), if_neg (by omega), hr.2 j, if_neg (by omega), if_neg (by omega)]
    exact h1 _ _ (by omega) (by omega) (by omega)
  · intro i j a1 a2 a3
    rw [hr.2 i, if_pos (by omega), hr.2 j, if_pos (by omega)]
    exact h2 _ _ (by omega) (by omega) (by omega)
  · intro i j a1 a2 a3 a4
    rw [hr.2 i, if_neg (by omega), if_neg (by omega), hr.2 j, if_pos (by omega)]
    exact h3 _ _ (by omega) (by omega) (by omega) (by omega)
theorem Apart.same {d d' : Array α} {a m b : Nat} (h : Apart v d a m b) (he : ∀ p, a ≤ p → p < b → d'[p]! = d[p]!) : Apart v d' a m b := fun i j h1 h2 h3 h4 => by
  rw [he i h1 (by omega), he j (by omega) h4]; exact h i j h1 h2 h3 h4
/-- The left half is done. -/
theorem Halves.left {d d2 : Array α} {a s c e b : Nat} (H : Halves T v d a s c e b) (hac : a ≤ c) (hcb : c ≤ b) (he : e ≤ b) (hce : c ≤ e) (hm : Mv a c d d2) (hr : Run T d2 a c) :
    Run T d2 c e ∧ Run T d2 e b ∧ Apart v d2 c e b ∧ (∀ x y, a ≤ x → x < c → c ≤ y → y < b → T d2[x]! d2[y]!) :=
  ⟨H.r3.same fun p h1 h2 => hm.out p (Or.inr h1), H.r4.same fun p h1 h2 => hm.out p (Or.inr (by omega)), H.ap2.same fun p h1 h2 => hm.out p (Or.inr h1), fun x y h1 h2 h3 h4 => by
    obtain ⟨q, q1, q2, e'⟩ := hm.ins x h1 h2
    rw [e', hm.out y (Or.inr h3)]
    exact H.cross q y q1 q2 h3 h4⟩
theorem right_done {d2 d3 : Array α} {a c b : Nat} (h1 : Run T d2 a c) (hC : ∀ x y, a ≤ x → x < c → c ≤ y → y < b → T d2[x]! d2[y]!) (hm : Mv c b d2 d3) (hr : Run T d3 c b) : Run T d3 a b :=
  Run.join (h1.same fun p _ hp => hm.out p (Or.inl hp)) hr fun i j a1 a2 a3 a4 => by
    obtain ⟨q, q1, q2, e'⟩ := hm.ins j a3 a4
    rw [e', hm.out i (Or.inl a2)]
    exact hC i q a1 a2 q1 q2
/-- The numbers rise from a to b. -/
def Up (v : α → Nat) (d : Array α) (a b : Nat) : Prop := ∀ p q, a ≤ p → p < q → q < b → v d[p]! < v d[q]!
/-- The head of a round of the insertion sort. -/
structure InsO (T : α → α → Prop) (v : α → Nat) (d dk : Array α) (a i b : Nat) : Prop where
  run : Run T dk a i
  ap : Apart v dk a i b
  up : Up v dk i b
  mv : Mv a b d dk
theorem InsO.start {d : Array α} {a b : Nat} (h : Up v d a b) : InsO T v d d a (a + 1) b :=
  ⟨fun i j h1 h2 h3 => by omega, fun i j h1 h2 h3 h4 => h i j h1 (by omega) h4, fun p q h1 h2 h3 => h p q (by omega) h2 h3, Mv.refl _ _ _⟩
/-- The one that sinks stands at j. -/
structure InsI (T : α → α → Prop) (dk dj : Array α) (j i : Nat) : Prop where
  rot : Rot dk dj j i (i + 1)
  low : ∀ h, j ≤ h → h < i → T dk[i]! dk[h]!
theorem InsI.start (dk : Array α) (i : Nat) : InsI T dk dk i i := ⟨Rot.refl _ _ _ _ (Or.inl rfl) (Nat.le_refl _) (by omega), fun h h1 h2 => by omega⟩
theorem InsI.get {dk dj : Array α} {j i : Nat} (h : InsI T dk dj (j + 1) i) (hj : j + 1 ≤ i) : dj[j + 1]! = dk[i]! ∧ dj[j]! = dk[j]! := by
  refine ⟨?_, ?_⟩
  · rw [h.rot.2, if_neg (by omega), if_pos (by omega)]; exact ix _ (by omega)
  · rw [h.rot.2, if_pos (by omega)]
theorem InsI.go (O : Ord lt v T) {d dk dj : Array α} {a b j i : Nat} (H : InsO T v d dk a i b) (h : InsI T dk dj (j + 1) i) (hj : j + 1 ≤ i) (haj : a ≤ j) (hib : i < b) (hb : b ≤ dk.size) (hl : lt dj[j + 1]! dj[j]! = true) : InsI T dk (swp dj (j + 1) j) j i :=
  ⟨h.rot.down hj (by omega), fun x h1 h2 => by
    by_cases e : x = j
    · obtain ⟨e1, e2⟩ := h.get hj
      rw [e1, e2] at hl
      rw [e]
      exact O.less _ _ (H.ap j i haj (by omega) (Nat.le_refl _) hib) hl
    · exact h.low x (by omega) h2⟩
theorem InsI.stop (O : Ord lt v T) {d dk dj : Array α} {a b j i : Nat} (H : InsO T v d dk a i b) (h : InsI T dk dj j i) (hj : j ≤ i) (haj : a ≤ j) (hib : i < b) (hl : j = a ∨ (a < j ∧ lt dj[j]! dj[j - 1]! = false)) : InsO T v d dj a (i + 1) b := by
  have mv := h.rot.mv hj (by omega : i ≤ i + 1)
  refine ⟨rot_run h.rot H.run (fun x y h1 h2 h3 => by omega) haj hj (by omega) (Nat.le_refl _) (fun x y h1 h2 h3 h4 => ?_) (fun x y h1 h2 h3 h4 => ?_) (fun x y h1 h2 h3 h4 => by omega), ?_, ?_, H.mv.trans (mv.wide haj (by omega))⟩
  · obtain rfl : y = i := by omega
    rcases hl with hl | hl
    · omega
    · obtain ⟨hl0, hl⟩ := hl
      obtain ⟨k, rfl⟩ : ∃ k, j = k + 1 := ⟨j - 1, by omega⟩
      simp only [Nat.add_sub_cancel] at hl
      obtain ⟨e1, e2⟩ := h.get hj
      rw [e1, e2] at hl
      have t := O.ge _ _ (H.ap k y (by omega) (by omega) (Nat.le_refl _) hib) hl
      by_cases e : x = k
      · rw [e]; exact t
      · exact O.trans _ _ _ (H.run x k h1 (by omega) (by omega)) t
  · obtain rfl : y = i := by omega
    exact h.low x h1 h2
  · intro x y h1 h2 h3 h4
    obtain ⟨q, q1, q2, e⟩ := (mv.wide haj (Nat.le_refl _)).ins x h1 h2
    rw [e, mv.out y (Or.inr h3)]
    by_cases e' : q = i
    · rw [e']; exact H.up i y (Nat.le_refl _) (by omega) h4
    · exact H.ap q y q1 (by omega) (by omega) h4
  · intro p q h1 h2 h3
    rw [mv.out p (Or.inr h1), mv.out q (Or.inr (by omega))]
    exact H.up p q (by omega) h2 h3
theorem apart_mv {d d' : Array α} {a b c n : Nat} (h : Apart v d 0 c n) (hm : Mv a b d d') (hc : b ≤ c ∨ c ≤ a) (hb : b ≤ n) : Apart v d' 0 c n := by
  have hw := hm
  intro i j h1 h2 h3 h4
  obtain ⟨p, p2, e⟩ : ∃ p, p < c ∧ d'[i]! = d[p]! := by
    by_cases hi : a ≤ i ∧ i < b
    · obtain ⟨q, q1, q2, e⟩ := hm.ins i hi.1 hi.2
      exact ⟨q, by omega, e⟩
    · exact ⟨i, h2, hm.out i (by omega)⟩
  obtain ⟨q, q1, q2, e'⟩ : ∃ q, c ≤ q ∧ q < n ∧ d'[j]! = d[q]! := by
    by_cases hi : a ≤ j ∧ j < b
    · obtain ⟨q, q1, q2, e⟩ := hm.ins j hi.1 hi.2
      exact ⟨q, by omega, by omega, e⟩
    · exact ⟨j, h3, h4, hm.out j (by omega)⟩
  rw [e, e']
  exact h p q (Nat.zero_le _) p2 q1 q2
theorem mult_eq {s c a : Nat} (h1 : s ∣ c) (h2 : s ∣ a) (h3 : c ≤ a) (h4 : a < c + s) : c = a := by
  have h := Nat.dvd_sub h2 h1
  have := Nat.eq_zero_of_dvd_of_lt h (by omega)
  omega
/-- The blocks below a are runs, all else is as it was. -/
structure Blk1 (T : α → α → Prop) (v : α → Nat) (d : Array α) (s a n : Nat) : Prop where
  dvd : s ∣ a
  run : ∀ c, s ∣ c → c + s ≤ a → Run T d c (c + s)
  ap : ∀ c, s ∣ c → Apart v d 0 c n
  up : Up v d a n
theorem Blk1.start {d : Array α} {s n : Nat} (hs : 0 < s) (h : Up v d 0 n) : Blk1 T v d s 0 n := ⟨Nat.dvd_zero _, fun c h1 h2 => by omega, fun c h1 i j h2 h3 h4 h5 => h i j h2 (by omega) h5, h⟩
theorem Blk1.step {d d' : Array α} {s a n : Nat} (h : Blk1 T v d s a n) (hs : 0 < s) (hn : a + s ≤ n) (hm : Mv a (a + s) d d') (hr : Run T d' a (a + s)) : Blk1 T v d' s (a + s) n := by
  refine ⟨Nat.dvd_add h.dvd (Nat.dvd_refl _), fun c h1 h2 => ?_, fun c h1 => ?_, fun p q h1 h2 h3 => by rw [hm.out p (Or.inr h1), hm.out q (Or.inr (by omega))]; exact h.up p q (by omega) h2 h3⟩
  · by_cases e : c + s ≤ a
    · exact (h.run c h1 e).same fun p _ hp => hm.out p (Or.inl (by omega))
    · obtain rfl := mult_eq h1 h.dvd (by omega) (by omega)
      exact hr
  · by_cases e : c ≤ a
    · exact apart_mv (h.ap c h1) hm (Or.inr e) hn
    · have : a + s ≤ c := by
        rcases Nat.lt_or_ge c (a + s) with h5 | h5
        · have := mult_eq h.dvd h1 (by omega) h5; omega
        · exact h5
      exact apart_mv (h.ap c h1) hm (Or.inl this) hn
/-- All blocks are runs. -/
structure Blk (T : α → α → Prop) (v : α → Nat) (d : Array α) (s n : Nat) : Prop where
  run : ∀ c, s ∣ c → Run T d c (min (c + s) n)
  ap : ∀ c, s ∣ c → Apart v d 0 c n
theorem Blk1.last {d d' : Array α} {s a n : Nat} (h : Blk1 T v d s a n) (hs : 0 < s) (han : a ≤ n) (hn : n < a + s) (hm : Mv a n d d') (hr : Run T d' a n) : Blk T v d' s n := by
  refine ⟨fun c h1 => ?_, fun c h1 => ?_⟩
  · by_cases e : c + s ≤ a
    · exact ((h.run c h1 e).sub (Nat.le_refl _) (by omega)).same fun p _ hp => hm.out p (Or.inl (by omega))
    · by_cases e2 : c ≤ a
      · obtain rfl := mult_eq h1 h.dvd e2 (by omega)
        exact hr.sub (Nat.le_refl _) (by omega)
      · have : a + s ≤ c := by
          rcases Nat.lt_or_ge c (a + s) with h5 | h5
          · have := mult_eq h.dvd h1 (by omega) h5; omega
          · exact h5
        exact fun i j h2 h3 h4 => by omega
  · by_cases e : c ≤ a
    · exact apart_mv (h.ap c h1) hm (Or.inr e) (Nat.le_refl _)
    · have : a + s ≤ c := by
        rcases Nat.lt_or_ge c (a + s) with h5 | h5
        · have := mult_eq h.dvd h1 (by omega) h5; omega
        · exact h5
      exact apart_mv (h.ap c h1) hm (Or.inl (by omega)) (Nat.le_refl _)
/-- The pairs of blocks below a are merged. -/
structure Blk2 (T : α → α → Prop) (v : α → Nat) (d : Array α) (s a n : Nat) : Prop where
  dvd : 2 * s ∣ a
  run2 : ∀ c, 2 * s ∣ c → c + 2 * s ≤ a → Run T d c (c + 2 * s)
  run : ∀ c, s ∣ c → a ≤ c → Run T d c (min (c + s) n)
  ap : ∀ c, s ∣ c → a ≤ c → Apart v d 0 c n
  ap2 : ∀ c, 2 * s ∣ c → Apart v d 0 c n
theorem dvd2 {s c : Nat} (h : 2 * s ∣ c) : s ∣ c := Nat.dvd_trans ⟨2, by omega⟩ h
theorem Blk2.start {d : Array α} {s n : Nat} (hs : 0 < s) (h : Blk T v d s n) : Blk2 T v d s 0 n := ⟨Nat.dvd_zero _, fun c h1 h2 => by omega, fun c h1 _ => h.run c h1, fun c h1 _ => h.ap c h1, fun c h1 => h.ap c (dvd2 h1)⟩
theorem Blk2.ready {d : Array α} {s a b n : Nat} (h : Blk2 T v d s a n) (hb : b ≤ n) (hsb : a + s < b) (hb2 : b ≤ a + 2 * s) : Run T d a (a + s) ∧ Run T d (a + s) b ∧ Apart v d a (a + s) b := by
  have d1 := dvd2 h.dvd
  have d2 : s ∣ a + s := Nat.dvd_add d1 (Nat.dvd_refl _)
  refine ⟨(h.run a d1 (Nat.le_refl _)).sub (Nat.le_refl _) (by omega), (h.run _ d2 (by omega)).sub (Nat.le_refl _) (by omega), fun i j h1 h2 h3 h4 => h.ap _ d2 (by omega) i j (Nat.zero_le _) h2 h3 (by omega)⟩
theorem far {s c a : Nat} (h1 : s ∣ c) (h2 : s ∣ a) (h : ¬ c ≤ a) : a + s ≤ c := by
  rcases Nat.lt_or_ge c (a + s) with h5 | h5
  · have := mult_eq h2 h1 (by omega) h5; omega
  · exact h5
theorem Blk2.step {d d' : Array α} {s a n : Nat} (h : Blk2 T v d s a n) (hs : 0 < s) (hn : a + 2 * s ≤ n) (hm : Mv a (a + 2 * s) d d') (hr : Run T d' a (a + 2 * s)) : Blk2 T v d' s (a + 2 * s) n := by
  refine ⟨Nat.dvd_add h.dvd (Nat.dvd_refl _), fun c h1 h2 => ?_, fun c h1 h2 => ?_, fun c h1 h2 => ?_, fun c h1 => ?_⟩
  · by_cases e : c + 2 * s ≤ a
    · exact (h.run2 c h1 e).same fun p _ hp => hm.out p (Or.inl (by omega))
    · obtain rfl := mult_eq h1 h.dvd (by omega) (by omega)
      exact hr
  · exact (h.run c h1 (by omega)).same fun p hp _ => hm.out p (Or.inr (by omega))
  · exact apart_mv (h.ap c h1 (by omega)) hm (Or.inl h2) hn
  · by_cases e : c ≤ a
    · exact apart_mv (h.ap2 c h1) hm (Or.inr e) hn
    · exact apart_mv (h.ap2 c h1) hm (Or.inl (far h1 h.dvd e)) hn
theorem Blk2.last {d d' : Array α} {s a n : Nat} (h : Blk2 T v d s a n) (hs : 0 < s) (han : a ≤ n) (hn : n < a + 2 * s) (hm : Mv a n d d') (hr : Run T d' a n) : Blk T v d' (2 * s) n := by
  refine ⟨fun c h1 => ?_, fun c h1 => ?_⟩
  · by_cases e : c + 2 * s ≤ a
    · exact ((h.run2 c h1 e).sub (Nat.le_refl _) (by omega)).same fun p _ hp => hm.out p (Or.inl (by omega))
    · by_cases e2 : c ≤ a
      · obtain rfl := mult_eq h1 h.dvd e2 (by omega)
        exact hr.sub (Nat.le_refl _) (by omega)
      · have := far h1 h.dvd e2
        exact fun i j h2 h3 h4 => by omega
  · by_cases e : c ≤ a
    · exact apart_mv (h.ap2 c h1) hm (Or.inr e) (Nat.le_refl _)
    · have := far h1 h.dvd e
      exact apart_mv (h.ap2 c h1) hm (Or.inl (by omega)) (Nat.le_refl _)
/-- The last block stands alone. -/
theorem Blk2.alone {d : Array α} {s a n : Nat} (h : Blk2 T v d s a n) (hn : n ≤ a + s) : Run T d a n := (h.run a (dvd2 h.dvd) (Nat.le_refl _)).sub (Nat.le_refl _) (by omega)
theorem Blk.whole {d : Array α} {s n : Nat} (h : Blk T v d s n) (hn : n ≤ s) : Run T d 0 n := (h.run 0 (Nat.dvd_zero _)).sub (Nat.le_refl _) (by omega)
end
end Go.Proofs.Ytdiihpnfeeediaa.So
