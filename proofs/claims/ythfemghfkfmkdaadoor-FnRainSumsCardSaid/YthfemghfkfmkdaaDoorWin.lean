/- Windows of a row: what they read; the model's sums of windows. -/
import Derived.Test.YthfemghfkfmkdaaDoorRainP
import Derived.Test.YthfemghfkfmkdaaDoorSumN
import Derived.Test.YthfemghfkfmkdaaDoorOwnS
namespace Go.Proofs.YthfemghfkfmkdaaDoor
open Go.RowKit

def winL (xs : List Int) (d i : Nat) : List Int := (xs.drop i).take d
def winS (xs : List Int) (d i : Nat) : Int := sumN (winL xs d i) d
theorem winL_at (xs : List Int) (d i j : Nat) (h : j < d) : (winL xs d i).getD j 0 = xs.getD (i + j) 0 := by
  unfold winL
  rw [getD_take_lt _ _ _ h]
  simp [List.getD_eq_getElem?_getD, List.getElem?_drop]
theorem sumN_win (xs : List Int) (d i : Nat) : ∀ k, k ≤ d → sumN (winL xs d i) k = sumAt xs i k := by
  intro k
  induction k with
  | zero => intro _; rfl
  | succ k ih =>
    intro hk
    simp only [sumN, sumAt]
    rw [ih (by omega), winL_at xs d i k (by omega)]
theorem Rd.win {w : World} {B b o n d i : Nat} {xs : List Int} (h : Rd w B (some ⟨b, o, none⟩) n xs) (hi : i + d ≤ n) : Rd w B (some ⟨b, o + i, none⟩) d (winL xs d i) := by
  refine ⟨by unfold winL; rw [List.length_take, List.length_drop, h.1]; omega, fun h0 => ?_⟩
  obtain ⟨b', off, e, hB, hc⟩ := h.2 (by omega)
  injection e with e
  injection e with e1 e2
  subst e1
  subst e2
  refine ⟨b, o + i, rfl, hB, fun j hj => ?_⟩
  rw [winL_at xs d i j hj, show o + i + j = o + (i + j) by omega]
  exact hc (i + j) (by omega)
theorem win_bd {n : Nat} {xs : List Int} (h : RainOk n xs) {d i : Nat} (hi : i + d ≤ n) : ∀ j, j < d → -3000 ≤ (winL xs d i).getD j 0 ∧ (winL xs d i).getD j 0 ≤ 3000 := by
  intro j hj
  rw [winL_at xs d i j hj]
  have := h.1 (i + j) (by omega)
  unfold isRn at this
  omega
theorem winS_bd {n : Nat} {xs : List Int} (h : RainOk n xs) {d i : Nat} (hi : i + d ≤ n) : -360000 ≤ winS xs d i ∧ winS xs d i ≤ 360000 := by
  have h1 := sumN_bdd d (winL xs d i) (win_bd h hi) d (Nat.le_refl _)
  have h2 := h.2.2
  unfold winS
  omega
def rsP (a1 : Int) : Prop := 1 ≤ a1 ∧ a1 ≤ 120
instance (a1 : Int) : Decidable (rsP a1) := by unfold rsP; exact inferInstance
end Go.Proofs.YthfemghfkfmkdaaDoor
