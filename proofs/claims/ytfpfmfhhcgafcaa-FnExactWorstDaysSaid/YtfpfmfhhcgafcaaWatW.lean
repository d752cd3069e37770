/- The days with the greatest sum of nets: plain mathematics, over the sums p of the first days. -/
import Derived.Test.YtfpfmfhhcgafcaaBase
namespace Go.Proofs.Ytfpfmfhhcgafcaa
open Go.RowKit

/-- the first least one of p 0 .. p k -/
def fstW (p : Nat → Int) : Nat → Nat
  | 0 => 0
  | k + 1 => if p (k + 1) < p (fstW p k) then k + 1 else fstW p k
/-- the first day and the last one, of the days 0 .. k -/
def bstW (p : Nat → Int) : Nat → Nat × Nat
  | 0 => (0, 0)
  | k + 1 => if p ((bstW p k).2 + 1) - p (bstW p k).1 < p (k + 2) - p (fstW p (k + 1)) then (fstW p (k + 1), k + 1) else bstW p k
theorem fstW_is (p : Nat → Int) (k : Nat) : fstW p k ≤ k ∧ ∀ i, i ≤ k → p (fstW p k) ≤ p i ∧ (p i = p (fstW p k) → fstW p k ≤ i) := by
  induction k with
  | zero => exact ⟨Nat.le_refl _, fun i hi => by obtain rfl : i = 0 := (by omega); exact ⟨Int.le_refl _, fun _ => Nat.le_refl _⟩⟩
  | succ k ih =>
    obtain ⟨h1, h2⟩ := ih
    by_cases h : p (k + 1) < p (fstW p k)
    · have e : fstW p (k + 1) = k + 1 := if_pos h
      rw [e]
      refine ⟨Nat.le_refl _, fun i hi => ?_⟩
      by_cases hik : i = k + 1
      · subst hik; exact ⟨Int.le_refl _, fun _ => Nat.le_refl _⟩
      · have := (h2 i (by omega)).1
        exact ⟨by omega, fun hh => by omega⟩
    · have e : fstW p (k + 1) = fstW p k := if_neg h
      rw [e]
      refine ⟨by omega, fun i hi => ?_⟩
      by_cases hik : i = k + 1
      · subst hik; exact ⟨by omega, fun _ => by omega⟩
      · exact h2 i (by omega)
/-- of the days below n, those from a to b have the greatest sum; of several the first day is the earliest, then the last one -/
def IsW (p : Nat → Int) (n a b : Nat) : Prop := a ≤ b ∧ b < n ∧ ∀ i j, i ≤ j → j < n → p (j + 1) - p i ≤ p (b + 1) - p a ∧ (p (j + 1) - p i = p (b + 1) - p a → a < i ∨ (a = i ∧ b ≤ j))
theorem IsW.one {p : Nat → Int} {n a b c d : Nat} (h : IsW p n a b) (g : IsW p n c d) : a = c ∧ b = d := by
  obtain ⟨h1, h2, h3⟩ := h
  obtain ⟨g1, g2, g3⟩ := g
  have x := h3 c d g1 g2
  have y := g3 a b h1 h2
  have e : p (d + 1) - p c = p (b + 1) - p a := by omega
  have u := x.2 e
  have v := y.2 e.symm
  omega
theorem bstW_is (p : Nat → Int) (k : Nat) : IsW p (k + 1) (bstW p k).1 (bstW p k).2 := by
  induction k with
  | zero =>
    refine ⟨Nat.le_refl _, by show 0 < 1; omega, fun i j h1 h2 => ?_⟩
    obtain rfl : j = 0 := by omega
    obtain rfl : i = 0 := by omega
    exact ⟨Int.le_refl _, fun _ => Or.inr ⟨rfl, Nat.le_refl _⟩⟩
  | succ k ih =>
    obtain ⟨f1, f2⟩ := fstW_is p (k + 1)
    obtain ⟨w1, w2, w3⟩ := ih
    by_cases h : p ((bstW p k).2 + 1) - p (bstW p k).1 < p (k + 2) - p (fstW p (k + 1))
    · have e : bstW p (k + 1) = (fstW p (k + 1), k + 1) := if_pos h
      rw [e]
      generalize fstW p (k + 1) = f at *
      refine ⟨f1, by show k + 1 < k + 1 + 1; omega, fun i j h1 h2 => ?_⟩
      show p (j + 1) - p i ≤ p (k + 2) - p f ∧ (p (j + 1) - p i = p (k + 2) - p f → f < i ∨ (f = i ∧ k + 1 ≤ j))
      by_cases hj : j = k + 1
      · subst hj
        obtain ⟨m1, m2⟩ := f2 i h1
        refine ⟨by show p (k + 2) - p i ≤ _; omega, fun hh => ?_⟩
        have hh' : p (k + 2) - p i = p (k + 2) - p f := hh
        have := m2 (by omega)
        omega
      · have := w3 i j h1 (by omega)
        exact ⟨by omega, fun hh => by omega⟩
    · have e : bstW p (k + 1) = bstW p k := if_neg h
      rw [e]
      generalize (bstW p k).1 = a at *
      generalize (bstW p k).2 = b at *
      generalize fstW p (k + 1) = f at *
      refine ⟨w1, by omega, fun i j h1 h2 => ?_⟩
      by_cases hj : j = k + 1
      · subst hj
        show p (k + 2) - p i ≤ _ ∧ (p (k + 2) - p i = _ → _)
        obtain ⟨m1, m2⟩ := f2 i h1
        refine ⟨by omega, fun hh => ?_⟩
        have hfi : p i = p f := by omega
        have hle := m2 hfi
        by_cases haf : a ≤ f
        · by_cases hai : a < i
          · exact Or.inl hai
          · exact Or.inr ⟨by omega, by omega⟩
        · -- the days from f on have no lesser sum up to b
          have q1 := (f2 a (by omega)).1
          have q2 := w3 f b (by omega) w2
          have q3 : p (b + 1) - p f = p (b + 1) - p a := by omega
          have := q2.2 q3
          omega
      · exact w3 i j h1 (by omega)
theorem bstW_of {p : Nat → Int} {k a b : Nat} (h : IsW p (k + 1) a b) : bstW p k = (a, b) := by
  obtain ⟨h1, h2⟩ := (bstW_is p k).one h
  exact Prod.ext h1 h2
/-- what the model has looked at: all pairs ahead of (i, j) -/
def LkW (p : Nat → Int) (n i k a b : Nat) : Prop := a ≤ b ∧ b < n ∧ ((a = 0 ∧ b = 0) ∨ a < i ∨ (a = i ∧ b < k)) ∧ ∀ c d, c ≤ d → d < n → (c < i ∨ (c = i ∧ d < k)) → p (d + 1) - p c ≤ p (b + 1) - p a ∧ (p (d + 1) - p c = p (b + 1) - p a → a < c ∨ (a = c ∧ b ≤ d))
theorem LkW.start (p : Nat → Int) {n : Nat} (h : 0 < n) : LkW p n 0 0 0 0 := ⟨Nat.le_refl _, h, Or.inl ⟨rfl, rfl⟩, fun c d _ _ hh => by omega⟩
theorem LkW.first {p : Nat → Int} {n i a b : Nat} (h : LkW p n i 0 a b) : LkW p n i i a b := by
  obtain ⟨h1, h2, h3, h4⟩ := h
  exact ⟨h1, h2, by omega, fun c d q1 q2 q3 => h4 c d q1 q2 (by omega)⟩
theorem LkW.next {p : Nat → Int} {n i a b : Nat} (h : LkW p n i n a b) : LkW p n (i + 1) 0 a b := by
  obtain ⟨h1, h2, h3, h4⟩ := h
  exact ⟨h1, h2, by omega, fun c d q1 q2 q3 => h4 c d q1 q2 (by omega)⟩
theorem LkW.yes {p : Nat → Int} {n i k a b : Nat} (h : LkW p n i k a b) (hik : i ≤ k) (hk : k < n) (hg : p (b + 1) - p a < p (k + 1) - p i) : LkW p n i (k + 1) i k := by
  obtain ⟨h1, h2, h3, h4⟩ := h
  refine ⟨hik, hk, by omega, fun c d q1 q2 q3 => ?_⟩
  by_cases e : c = i ∧ d = k
  · obtain ⟨rfl, rfl⟩ := e
    exact ⟨Int.le_refl _, fun _ => Or.inr ⟨rfl, Nat.le_refl _⟩⟩
  · have := h4 c d q1 q2 (by omega)
    exact ⟨by omega, fun hh => by omega⟩
theorem LkW.no {p : Nat → Int} {n i k a b : Nat} (h : LkW p n i k a b) (hik : i ≤ k) (hk : k < n) (hg : ¬ p (b + 1) - p a < p (k + 1) - p i) : LkW p n i (k + 1) a b := by
  obtain ⟨h1, h2, h3, h4⟩ := h
  refine ⟨h1, h2, by omega, fun c d q1 q2 q3 => ?_⟩
  by_cases e : c = i ∧ d = k
  · obtain ⟨rfl, rfl⟩ := e
    exact ⟨by omega, fun _ => by omega⟩
  · exact h4 c d q1 q2 (by omega)
theorem LkW.done {p : Nat → Int} {n a b : Nat} (h : LkW p n n 0 a b) : IsW p n a b := by
  obtain ⟨h1, h2, h3, h4⟩ := h
  exact ⟨h1, h2, fun i j q1 q2 => h4 i j q1 q2 (by omega)⟩

end Go.Proofs.Ytfpfmfhhcgafcaa
