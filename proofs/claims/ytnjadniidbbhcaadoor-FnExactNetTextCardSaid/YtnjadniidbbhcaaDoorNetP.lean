/- Plain mathematics of nets; no function of the program in it. -/
import Derived.Test.YtnjadniidbbhcaaDoorRDitch
namespace Go.Proofs.YtnjadniidbbhcaaDoor
open Go.RowKit

def DOk (J : Int) (d : RDitch) : Prop := (0 ≤ d.f0 ∧ d.f0 ≤ J - 1) ∧ (0 ≤ d.f1 ∧ d.f1 ≤ J - 1) ∧ d.f0 ≠ d.f1 ∧ (0 ≤ d.f2 ∧ d.f2 ≤ 1000)
instance (J : Int) (d : RDitch) : Decidable (DOk J d) := by unfold DOk; exact inferInstance
def NetOk (J : Int) (xs : List RDitch) : Prop := (2 ≤ J ∧ J ≤ 10) ∧ xs.length ≤ 20 ∧ ∀ j, j < xs.length → DOk J (xs.getD j zDitch)
instance (J : Int) (xs : List RDitch) : Decidable (NetOk J xs) := by unfold NetOk; exact inferInstance
/-- the code of a net and of what is told with it -/
def ncode (J : Int) (xs : List RDitch) (p : Prop) [Decidable p] : Int := if NetOk J xs then (if p then 0 else 2) else 1
section
variable {J : Int} {xs : List RDitch} {p : Prop} [Decidable p]
theorem ncode_bad (h : ¬ NetOk J xs) : ncode J xs p = 1 := if_neg h
theorem ncode_no (h : NetOk J xs) (hp : ¬ p) : ncode J xs p = 2 := by unfold ncode; rw [if_pos h, if_neg hp]
theorem ncode_ok (h : NetOk J xs) (hp : p) : ncode J xs p = 0 := by unfold ncode; rw [if_pos h, if_pos hp]
theorem ncode_ne (h : ¬ (NetOk J xs ∧ p)) : (ncode J xs p != 0) = true := by
  unfold ncode
  split
  · rw [if_neg (fun hp => h ⟨‹_›, hp⟩)]; rfl
  · rfl
end
/-- a junction from which water can be led -/
def start (J from_ : Int) : Prop := 1 ≤ from_ ∧ from_ ≤ J - 1
instance (J f : Int) : Decidable (start J f) := by unfold start; exact inferInstance
/-- junctions, strictly increasing -/
def Side (J : Int) (ys : List Int) : Prop := ∀ j, j < ys.length → (0 ≤ ys.getD j 0 ∧ ys.getD j 0 ≤ J - 1) ∧ (0 < j → ys.getD (j - 1) 0 < ys.getD j 0)
instance (J : Int) (ys : List Int) : Decidable (Side J ys) := by unfold Side; exact inferInstance
/-- the flow that can leave some junctions, of the first k ditches -/
def cutOf (xs : List RDitch) (ys : List Int) : Nat → Int
  | 0 => 0
  | k + 1 => cutOf xs ys k + if (xs.getD k zDitch).f0 ∈ ys ∧ ¬ (xs.getD k zDitch).f1 ∈ ys then (xs.getD k zDitch).f2 else 0
theorem cutOf_bd {J : Int} {xs : List RDitch} (ys : List Int) (h : ∀ j, j < xs.length → DOk J (xs.getD j zDitch)) : ∀ k, k ≤ xs.length → 0 ≤ cutOf xs ys k ∧ cutOf xs ys k ≤ 1000 * k := by
  intro k
  induction k with
  | zero => intro _; simp [cutOf]
  | succ k ih =>
    intro hk
    have h1 := ih (by omega)
    obtain ⟨_, _, _, h2⟩ := h k (by omega)
    simp only [cutOf]
    split <;> omega
theorem cutOf_yes {xs : List RDitch} {ys : List Int} {k : Nat} (h : (xs.getD k zDitch).f0 ∈ ys ∧ ¬ (xs.getD k zDitch).f1 ∈ ys) : cutOf xs ys (k + 1) = cutOf xs ys k + (xs.getD k zDitch).f2 := by rw [cutOf, if_pos h]
theorem cutOf_no {xs : List RDitch} {ys : List Int} {k : Nat} (h : ¬ ((xs.getD k zDitch).f0 ∈ ys ∧ ¬ (xs.getD k zDitch).f1 ∈ ys)) : cutOf xs ys (k + 1) = cutOf xs ys k := by rw [cutOf, if_neg h, Int.add_zero]

/-- what flows out of a junction less what flows into it, along the first k ditches -/
def outOf (xs : List RDitch) (fl : List Int) (j : Int) : Nat → Int
  | 0 => 0
  | k + 1 => outOf xs fl j k + (if (xs.getD k zDitch).f0 = j then fl.getD k 0 else 0) - (if (xs.getD k zDitch).f1 = j then fl.getD k 0 else 0)
/-- each of the first k flows is one of its ditch -/
def fits (xs : List RDitch) (fl : List Int) (k : Nat) : Prop := ∀ j, j < k → 0 ≤ fl.getD j 0 ∧ fl.getD j 0 ≤ (xs.getD j zDitch).f2
instance (xs : List RDitch) (fl : List Int) (k : Nat) : Decidable (fits xs fl k) := by unfold fits; exact inferInstance
theorem outOf_bd {J : Int} {xs : List RDitch} (fl : List Int) (j : Int) (h : ∀ j, j < xs.length → DOk J (xs.getD j zDitch)) : ∀ k, k ≤ xs.length → fits xs fl k → -(1000 * (k : Int)) ≤ outOf xs fl j k ∧ outOf xs fl j k ≤ 1000 * k := by
  intro k
  induction k with
  | zero => intro _ _; simp [outOf]
  | succ k ih =>
    intro hk hf
    have h1 := ih (by omega) (fun j hj => hf j (by omega))
    obtain ⟨_, _, h3, h2⟩ := h k (by omega)
    have h4 := hf k (by omega)
    simp only [outOf]
    split <;> split <;> omega
/-- flows lead water from a junction to the outlet -/
def leads (J : Int) (xs : List RDitch) (from_ : Int) (fl : List Int) : Prop :=
  fits xs fl xs.length ∧ (∀ j : Nat, j < J.toNat → (1 ≤ j → (j : Int) ≠ from_ → outOf xs fl (j : Int) xs.length = 0)) ∧ 0 ≤ outOf xs fl from_ xs.length
instance (J : Int) (xs : List RDitch) (f : Int) (fl : List Int) : Decidable (leads J xs f fl) := by unfold leads; exact inferInstance

end Go.Proofs.YtnjadniidbbhcaaDoor
