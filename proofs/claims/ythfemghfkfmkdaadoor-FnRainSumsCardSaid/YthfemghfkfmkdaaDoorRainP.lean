/- Rain: plain mathematics. -/
import Derived.Test.YthfemghfkfmkdaaDoorRainC
namespace Go.Proofs.YthfemghfkfmkdaaDoor
open Go.RowKit

/-- a row made of a function -/
def rowOf (f : Nat → Int) (n : Nat) : List Int := (List.range n).map f
theorem rowOf_len (f : Nat → Int) (n : Nat) : (rowOf f n).length = n := by simp [rowOf]
theorem rowOf_at (f : Nat → Int) (n j : Nat) (h : j < n) : (rowOf f n).getD j 0 = f j := by simp [rowOf, List.getD_eq_getElem?_getD, h]
theorem rowOf_succ (f : Nat → Int) (n : Nat) : rowOf f (n + 1) = rowOf f n ++ [f n] := by simp [rowOf, List.range_succ]

/-- what the soil holds after k days where nothing runs off -/
def heldN (loss h0 : Int) (xs : List Int) : Nat → Int
  | 0 => h0
  | k + 1 => max 0 (heldN loss h0 xs k - loss) + xs.getD k 0
def mostN (loss h0 : Int) (xs : List Int) : Nat → Int
  | 0 => h0
  | k + 1 => max (mostN loss h0 xs k) (heldN loss h0 xs (k + 1))
theorem heldN_bd {loss h0 : Int} {n : Nat} {xs : List Int} (h : RainOk n xs) (l0 : isRn loss) (p : 0 ≤ h0 ∧ h0 ≤ 100000) : ∀ k, k ≤ n → 0 ≤ heldN loss h0 xs k ∧ heldN loss h0 xs k ≤ 100000 + 3000 * (k : Int) := by
  intro k
  induction k with
  | zero => intro _; simpa [heldN] using p
  | succ k ih =>
    intro hk
    have h1 := ih (by omega)
    have h2 := h.1 k (by omega)
    unfold isRn at h2 l0
    simp only [heldN]
    omega
theorem mostN_bd {loss h0 : Int} {n : Nat} {xs : List Int} (h : RainOk n xs) (l0 : isRn loss) (p : 0 ≤ h0 ∧ h0 ≤ 100000) : ∀ k, k ≤ n → 0 ≤ mostN loss h0 xs k ∧ mostN loss h0 xs k ≤ 100000 + 3000 * (k : Int) := by
  intro k
  induction k with
  | zero => intro _; simpa [mostN] using p
  | succ k ih =>
    intro hk
    have h1 := ih (by omega)
    have h2 := heldN_bd h l0 p (k + 1) hk
    simp only [mostN]
    omega

/-- what the soil holds after k days, and what runs off on day k -/
def soilN (room loss h0 : Int) (xs : List Int) : Nat → Int
  | 0 => h0
  | k + 1 => min room (max 0 (soilN room loss h0 xs k - loss) + xs.getD k 0)
def wetN (room loss h0 : Int) (xs : List Int) (k : Nat) : Int := max 0 (soilN room loss h0 xs k - loss) + xs.getD k 0
def offN (room loss h0 : Int) (xs : List Int) (k : Nat) : Int := max 0 (wetN room loss h0 xs k - room)
theorem soilN_bd {room loss h0 : Int} {n : Nat} {xs : List Int} (h : RainOk n xs) (l0 : isRn loss) (r : 0 ≤ room ∧ room ≤ 100000) (p : 0 ≤ h0 ∧ h0 ≤ room) : ∀ k, k ≤ n → 0 ≤ soilN room loss h0 xs k ∧ soilN room loss h0 xs k ≤ room := by
  intro k
  induction k with
  | zero => intro _; simpa [soilN] using p
  | succ k ih =>
    intro hk
    have h1 := ih (by omega)
    have h2 := h.1 k (by omega)
    unfold isRn at h2 l0
    simp only [soilN]
    omega

/-- how many of the first k numbers are at least m -/
def cntN (xs : List Int) (m : Int) : Nat → Int
  | 0 => 0
  | k + 1 => cntN xs m k + if m ≤ xs.getD k 0 then 1 else 0
theorem cntN_bd (xs : List Int) (m : Int) (k : Nat) : 0 ≤ cntN xs m k ∧ cntN xs m k ≤ (k : Int) := by
  induction k with
  | zero => simp [cntN]
  | succ k ih => simp only [cntN]; split <;> omega
theorem cntN_yes {xs : List Int} {m : Int} {k : Nat} (h : m ≤ xs.getD k 0) : cntN xs m (k + 1) = cntN xs m k + 1 := by simp only [cntN]; rw [if_pos h]
theorem cntN_no {xs : List Int} {m : Int} {k : Nat} (h : ¬ m ≤ xs.getD k 0) : cntN xs m (k + 1) = cntN xs m k := by simp only [cntN]; rw [if_neg h]; omega

/-- sums of numbers from a on -/
def sumAt (xs : List Int) (a : Nat) : Nat → Int
  | 0 => 0
  | k + 1 => sumAt xs a k + xs.getD (a + k) 0
theorem sumAt_bd {n : Nat} {xs : List Int} (h : RainOk n xs) (a : Nat) : ∀ k, a + k ≤ n → 0 ≤ sumAt xs a k ∧ sumAt xs a k ≤ 3000 * (k : Int) := by
  intro k
  induction k with
  | zero => intro _; simp [sumAt]
  | succ k ih =>
    intro hk
    have h1 := ih (by omega)
    have h2 := h.1 (a + k) (by omega)
    unfold isRn at h2
    simp only [sumAt]
    omega

end Go.Proofs.YthfemghfkfmkdaaDoor
