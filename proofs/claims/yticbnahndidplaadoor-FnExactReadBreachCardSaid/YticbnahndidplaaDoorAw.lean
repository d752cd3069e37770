/- Whether all numbers of a list are within two bounds (the program: slices.ContainsFunc over a closure). -/
import Derived.Test.YticbnahndidplaaDoorReg
import Derived.Test.YticbnahndidplaaDoorIn
namespace Go.Proofs.YticbnahndidplaaDoor
open Go.RowKit

def allIn (lo hi : Int) (n : Nat) (xs : List Int) : Prop := ∀ j, j < n → lo ≤ xs.getD j 0 ∧ xs.getD j 0 ≤ hi
instance (lo hi : Int) (n : Nat) (xs : List Int) : Decidable (allIn lo hi n xs) := by unfold allIn; exact inferInstance

/-- two levels in a slice of the call's own -/
theorem rd_two (w : World) (x y : Int) (T : TypeId) : Rd (w.alloc (.cells #[.int .i64 x, .int .i64 y] T)) (w.heap.size + 1) (some ⟨w.heap.size, 0, none⟩) 2 [x, y] := by
  refine ⟨rfl, fun _ => ⟨w.heap.size, 0, rfl, by omega, fun j hj => ?_⟩⟩
  rcases j with _ | _ | j
  · simp
  · simp
  · omega
theorem rd_one (w : World) (x : Int) (T : TypeId) : Rd (w.alloc (.cells #[.int .i64 x] T)) (w.heap.size + 1) (some ⟨w.heap.size, 0, none⟩) 1 [x] := by
  refine ⟨rfl, fun _ => ⟨w.heap.size, 0, rfl, by omega, fun j hj => ?_⟩⟩
  obtain rfl : j = 0 := by omega
  simp
theorem allIn_two {lo hi x y : Int} : allIn lo hi 2 [x, y] ↔ (lo ≤ x ∧ x ≤ hi) ∧ (lo ≤ y ∧ y ≤ hi) := by
  constructor
  · intro h; exact ⟨h 0 (by omega), h 1 (by omega)⟩
  · rintro ⟨h1, h2⟩ j hj
    rcases j with _ | _ | j
    · exact h1
    · exact h2
    · omega
theorem allIn_one {lo hi x : Int} : allIn lo hi 1 [x] ↔ (lo ≤ x ∧ x ≤ hi) := by
  constructor
  · intro h; exact h 0 (by omega)
  · rintro h1 j hj
    obtain rfl : j = 0 := by omega
    exact h1
end Go.Proofs.YticbnahndidplaaDoor
