/- Contracts of the fractions in lowest terms (of the program and of the model). -/
import Derived.Test.YticbnahndidplaaDoorGcd
namespace Go.Proofs.YticbnahndidplaaDoor
open Go.RowKit

def fgcd (num den : Int) : Nat := Nat.gcd num.natAbs den.toNat
def fnum (num den : Int) : Int := num.tdiv (fgcd num den : Int)
def fden (num den : Int) : Int := den / (fgcd num den : Int)
theorem fgcd_pos (num den : Int) (h : 1 ≤ den) : 1 ≤ (fgcd num den : Int) := by
  have : 0 < fgcd num den := Nat.gcd_pos_of_pos_right _ (by omega)
  omega

theorem fden_bd (num den : Int) (h : 1 ≤ den) : 0 ≤ den / (fgcd num den : Int) ∧ den / (fgcd num den : Int) ≤ den :=
  ⟨Int.ediv_nonneg (by omega) (by have := fgcd_pos num den h; omega), Int.ediv_le_self _ (by omega)⟩

theorem fnum_pos (num den : Int) (h : 0 ≤ num) : num / (fgcd num den : Int) = fnum num den := by
  unfold fnum; rw [Int.tdiv_eq_ediv_of_nonneg h]
theorem fnum_neg (num den : Int) : num.tdiv (fgcd num den : Int) = fnum num den := rfl


end Go.Proofs.YticbnahndidplaaDoor
