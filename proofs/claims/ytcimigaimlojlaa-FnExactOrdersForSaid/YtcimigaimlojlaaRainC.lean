/- Rain: whether a list is rain, of the model and of the program. -/
import Derived.Test.YtcimigaimlojlaaInts
import Derived.Test.YtcimigaimlojlaaIn
import Derived.Test.YtcimigaimlojlaaAw
namespace Go.Proofs.Ytcimigaimlojlaa
open Go.RowKit

def isRn (x : Int) : Prop := 0 ≤ x ∧ x ≤ 3000
instance (x : Int) : Decidable (isRn x) := by unfold isRn; exact inferInstance
def RainOk (n : Nat) (xs : List Int) : Prop := (∀ j, j < n → isRn (xs.getD j 0)) ∧ 1 ≤ n ∧ n ≤ 120
instance (n : Nat) (xs : List Int) : Decidable (RainOk n xs) := by unfold RainOk; exact inferInstance

theorem rain_no {n : Nat} {xs : List Int} {k : Nat} {b : Bool} (hb : b = true ↔ RainOk n xs) (hk : k < n) (h : ¬ isRn (xs.getD k 0)) : b = false := by
  cases b
  · rfl
  · exact absurd ((hb.1 rfl).1 k hk) h

/-- the code of rain and a condition -/
def rcode (n : Nat) (xs : List Int) (P : Prop) [Decidable P] : Int := if RainOk n xs then (if P then 0 else 2) else 1
theorem rcode_ok {n : Nat} {xs : List Int} {P : Prop} [Decidable P] (h : RainOk n xs) (p : P) : rcode n xs P = 0 := by unfold rcode; rw [if_pos h, if_pos p]
theorem rcode_no {n : Nat} {xs : List Int} {P : Prop} [Decidable P] (h : RainOk n xs) (p : ¬ P) : rcode n xs P = 2 := by unfold rcode; rw [if_pos h, if_neg p]
theorem rcode_bad {n : Nat} {xs : List Int} {P : Prop} [Decidable P] (h : ¬ RainOk n xs) : rcode n xs P = 1 := by unfold rcode; rw [if_neg h]
theorem rcode_ne {n : Nat} {xs : List Int} {P : Prop} [Decidable P] (h : ¬ (RainOk n xs ∧ P)) : (rcode n xs P != 0) = true := by
  unfold rcode
  by_cases h1 : RainOk n xs
  · rw [if_pos h1, if_neg (fun p => h ⟨h1, p⟩)]; rfl
  · rw [if_neg h1]; rfl
end Go.Proofs.Ytcimigaimlojlaa
