/- Runoff: what the law says of the plain functions. -/
import Derived.Test.YthjcpgabdlfojaaRainM
import Derived.Test.YthjcpgabdlfojaaSumN
namespace Go.Proofs.Ythjcpgabdlfojaa
open Go.RowKit

theorem most_ge (loss h0 : Int) (xs : List Int) : ∀ k, h0 ≤ mostN loss h0 xs k ∧ ∀ j, j < k → heldN loss h0 xs (j + 1) ≤ mostN loss h0 xs k := by
  intro k
  induction k with
  | zero => exact ⟨Int.le_refl _, fun j hj => absurd hj (by omega)⟩
  | succ k ih =>
    simp only [mostN]
    refine ⟨by omega, fun j hj => ?_⟩
    by_cases e : j = k
    · subst e; omega
    · have := ih.2 j (by omega)
      omega
theorem most_le (loss h0 R : Int) (xs : List Int) (h : h0 ≤ R) : ∀ k, (∀ j, j < k → heldN loss h0 xs (j + 1) ≤ R) → mostN loss h0 xs k ≤ R := by
  intro k
  induction k with
  | zero => intro _; simpa [mostN] using h
  | succ k ih =>
    intro g
    have h1 := ih (fun j hj => g j (by omega))
    have h2 := g k (by omega)
    simp only [mostN]
    omega
theorem soil_held (room loss h0 : Int) (xs : List Int) : ∀ k, (∀ j, j < k → heldN loss h0 xs (j + 1) ≤ room) → soilN room loss h0 xs k = heldN loss h0 xs k := by
  intro k
  induction k with
  | zero => intro _; rfl
  | succ k ih =>
    intro g
    have h1 := ih (fun j hj => g j (by omega))
    have h2 := g k (by omega)
    simp only [heldN] at h2
    simp only [soilN, heldN]
    rw [h1]
    omega
theorem off_zero (room loss h0 : Int) (xs : List Int) (k : Nat) (g : ∀ j, j < k → heldN loss h0 xs (j + 1) ≤ room) : ∀ j, j < k → offN room loss h0 xs j = 0 := by
  intro j hj
  have h1 := soil_held room loss h0 xs j (fun i hi => g i (by omega))
  have h2 := g j hj
  simp only [heldN] at h2
  unfold offN wetN
  rw [h1]
  omega
/-- where nothing runs off, the soil holds all -/
theorem held_of_off (room loss h0 : Int) (xs : List Int) : ∀ k, (∀ j, j < k → offN room loss h0 xs j = 0) → soilN room loss h0 xs k = heldN loss h0 xs k ∧ ∀ j, j < k → heldN loss h0 xs (j + 1) ≤ room := by
  intro k
  induction k with
  | zero => intro _; exact ⟨rfl, fun j hj => absurd hj (by omega)⟩
  | succ k ih =>
    intro g
    obtain ⟨h1, h2⟩ := ih (fun j hj => g j (by omega))
    have h3 := g k (by omega)
    unfold offN wetN at h3
    rw [h1] at h3
    refine ⟨?_, fun j hj => ?_⟩
    · simp only [soilN, heldN]; rw [h1]; omega
    · by_cases e : j = k
      · subst e; simp only [heldN]; omega
      · exact h2 j (by omega)
theorem off_nn (room loss h0 : Int) (xs : List Int) (j : Nat) : 0 ≤ offN room loss h0 xs j := by unfold offN; omega
theorem sum_row (f : Nat → Int) (n : Nat) : ∀ k, k ≤ n → (∀ j, j < n → 0 ≤ f j) → 0 ≤ sumN (rowOf f n) k ∧ (sumN (rowOf f n) k = 0 ↔ ∀ j, j < k → f j = 0) := by
  intro k
  induction k with
  | zero => intro _ _; exact ⟨Int.le_refl _, fun _ j hj => absurd hj (by omega), fun _ => rfl⟩
  | succ k ih =>
    intro hk g
    obtain ⟨h1, h2⟩ := ih (by omega) g
    have h3 := g k (by omega)
    simp only [sumN]
    rw [rowOf_at f n k (by omega)]
    refine ⟨by omega, fun h => ?_, fun h => ?_⟩
    · have := h2.1 (by omega)
      intro j hj
      by_cases e : j = k
      · subst e; omega
      · exact this j (by omega)
    · have := h2.2 (fun j hj => h j (by omega))
      have := h k (by omega)
      omega
theorem held_sum {loss h0 : Int} {xs : List Int} (hl : 0 ≤ loss) : ∀ k, (∀ j, j < k → 0 ≤ xs.getD j 0) → 0 ≤ h0 → 0 ≤ heldN loss h0 xs k ∧ h0 + sumN xs k - loss * (k : Int) ≤ heldN loss h0 xs k ∧ heldN loss h0 xs k ≤ h0 + sumN xs k := by
  intro k
  induction k with
  | zero => intro _ h; simp [heldN, sumN]; exact h
  | succ k ih =>
    intro g h
    obtain ⟨h1, h2, h3⟩ := ih (fun j hj => g j (by omega)) h
    have h4 := g k (by omega)
    have e : loss * ((k + 1 : Nat) : Int) = loss * (k : Int) + loss := by rw [Int.natCast_succ, Int.mul_add, Int.mul_one]
    rw [e]
    simp only [heldN, sumN]
    omega
/-- what the law says -/
theorem runoff_all {loss h0 : Int} {n : Nat} {xs : List Int} (hv : ∀ j, j < n → 0 ≤ xs.getD j 0 ∧ xs.getD j 0 ≤ 200) (hl : 0 ≤ loss) (h : 0 ≤ h0) :
    h0 ≤ mostN loss h0 xs n ∧ sumN (rowOf (offN (mostN loss h0 xs n) loss h0 xs) n) n = 0 ∧
    (0 ≤ soilN (mostN loss h0 xs n) loss h0 xs n ∧ soilN (mostN loss h0 xs n) loss h0 xs n ≤ mostN loss h0 xs n) ∧
    (0 ≤ h0 + sumN xs n - soilN (mostN loss h0 xs n) loss h0 xs n ∧ h0 + sumN xs n - soilN (mostN loss h0 xs n) loss h0 xs n ≤ loss * (n : Int)) ∧
    (mostN loss h0 xs n ≠ h0 → 0 < sumN (rowOf (offN (mostN loss h0 xs n - 1) loss h0 xs) n) n) := by
  obtain ⟨m1, m2⟩ := most_ge loss h0 xs n
  have e1 := soil_held (mostN loss h0 xs n) loss h0 xs n m2
  have e2 := off_zero (mostN loss h0 xs n) loss h0 xs n m2
  obtain ⟨s1, s2, s3⟩ := held_sum (xs := xs) hl n (fun j hj => (hv j hj).1) h
  refine ⟨m1, ((sum_row _ n n (Nat.le_refl _) (fun j _ => off_nn _ _ _ _ j)).2).2 e2, ?_, ?_, fun hne => ?_⟩
  · rw [e1]
    refine ⟨s1, ?_⟩
    by_cases hz : n = 0
    · subst hz; exact Int.le_refl _
    · have := m2 (n - 1) (by omega)
      rw [show n - 1 + 1 = n by omega] at this
      exact this
  · rw [e1]; omega
  · obtain ⟨p1, p2⟩ := sum_row (offN (mostN loss h0 xs n - 1) loss h0 xs) n n (Nat.le_refl _) (fun j _ => off_nn _ _ _ _ j)
    by_cases hz : sumN (rowOf (offN (mostN loss h0 xs n - 1) loss h0 xs) n) n = 0
    · exfalso
      have h2 := (held_of_off _ _ _ _ n (p2.1 hz)).2
      have := most_le loss h0 (mostN loss h0 xs n - 1) xs (by omega) n h2
      omega
    · omega

end Go.Proofs.Ythjcpgabdlfojaa
