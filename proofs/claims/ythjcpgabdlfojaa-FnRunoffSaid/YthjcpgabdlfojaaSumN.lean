/- Sums of numbers: l02Sum of the model, sumOf of the program. -/
import Derived.Test.YthjcpgabdlfojaaInts
namespace Go.Proofs.Ythjcpgabdlfojaa
open Go.RowKit

def sumN (xs : List Int) : Nat → Int
  | 0 => 0
  | k + 1 => sumN xs k + xs.getD k 0
theorem sumN_bdd (n : Nat) (xs : List Int) (h : ∀ j, j < n → -3000 ≤ xs.getD j 0 ∧ xs.getD j 0 ≤ 3000) (k : Nat) (hk : k ≤ n) : -(3000 * (k : Int)) ≤ sumN xs k ∧ sumN xs k ≤ 3000 * (k : Int) := by
  induction k with
  | zero => simp [sumN]
  | succ k ih =>
    have h1 := ih (by omega)
    have h2 := h k (by omega)
    simp only [sumN]
    omega
end Go.Proofs.Ythjcpgabdlfojaa
