/- Mills: plain mathematics. -/
import Derived.Test.YticbnahndidplaaDoorRMill
namespace Go.Proofs.YticbnahndidplaaDoor
open Go.RowKit

def mlOk (a b c d : Int) : Prop := (1 ≤ a ∧ a ≤ 500) ∧ (1 ≤ b ∧ b ≤ 10000) ∧ (1 ≤ c ∧ c ≤ d) ∧ d ≤ 12
instance (a b c d : Int) : Decidable (mlOk a b c d) := by unfold mlOk; exact inferInstance
def fcOk (f : Int) : Prop := 0 ≤ f ∧ f ≤ 12
instance (f : Int) : Decidable (fcOk f) := by unfold fcOk; exact inferInstance
/-- what a mill lifts in an hour -/
def mlR (b c d f : Int) : Int := if c ≤ f ∧ f ≤ d then b * (f - c + 1) / (d - c + 1) else 0
theorem mlM_bd {a b c d f : Int} (h : mlOk a b c d) (hf : c ≤ f ∧ f ≤ d) : 0 ≤ b * (f - c + 1) ∧ b * (f - c + 1) ≤ b * (d - c + 1) ∧ b * (d - c + 1) ≤ 120000 := by
  obtain ⟨_, h2, h3, h4⟩ := h
  refine ⟨Int.mul_nonneg (by omega) (by omega), Int.mul_le_mul_of_nonneg_left (by omega) (by omega), ?_⟩
  have := Int.mul_le_mul (show b ≤ 10000 by omega) (show d - c + 1 ≤ 12 by omega) (by omega) (by omega)
  omega
theorem mlR_in {b c d f : Int} (hf : c ≤ f ∧ f ≤ d) : mlR b c d f = b * (f - c + 1) / (d - c + 1) := if_pos hf
theorem mlR_out {b c d f : Int} (hf : ¬ (c ≤ f ∧ f ≤ d)) : mlR b c d f = 0 := if_neg hf
theorem mlR_bd {a b c d : Int} (h : mlOk a b c d) (f : Int) : 0 ≤ mlR b c d f ∧ mlR b c d f ≤ 10000 := by
  by_cases hf : c ≤ f ∧ f ≤ d
  · obtain ⟨h1, h2, h3⟩ := mlM_bd h hf
    rw [mlR_in hf]
    refine ⟨Int.ediv_nonneg h1 (by omega), ?_⟩
    have h5 := Int.ediv_le_ediv (c := d - c + 1) (by omega) h2
    rw [Int.mul_ediv_cancel _ (by omega)] at h5
    have := h.2.1.2
    omega
  · rw [mlR_out hf]; omega

def sc4 (v r : Prop) [Decidable v] [Decidable r] : Int := if v then (if r then 0 else 2) else 1
theorem sc4_ok {v r : Prop} [Decidable v] [Decidable r] (h1 : v) (h2 : r) : sc4 v r = 0 := by unfold sc4; rw [if_pos h1, if_pos h2]
theorem sc4_no {v r : Prop} [Decidable v] [Decidable r] (h1 : v) (h2 : ¬ r) : sc4 v r = 2 := by unfold sc4; rw [if_pos h1, if_neg h2]
theorem sc4_bad {v r : Prop} [Decidable v] [Decidable r] (h1 : ¬ v) : sc4 v r = 1 := by unfold sc4; rw [if_neg h1]
theorem sc4_ne {v r : Prop} [Decidable v] [Decidable r] (h : ¬ (v ∧ r)) : (sc4 v r != 0) = true := by
  unfold sc4
  by_cases h1 : v
  · rw [if_pos h1, if_neg (fun h2 => h ⟨h1, h2⟩)]; rfl
  · rw [if_neg h1]; rfl

end Go.Proofs.YticbnahndidplaaDoor
