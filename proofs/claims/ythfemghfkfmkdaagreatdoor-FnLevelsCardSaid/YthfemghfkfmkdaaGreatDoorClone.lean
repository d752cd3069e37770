/- slices.Clone at []int64, by the shelf's contract. -/
import Derived.Test.YthfemghfkfmkdaaGreatDoorOwnS
import Derived.Test.YthfemghfkfmkdaaGreatDoorShelf
namespace Go.Proofs.YthfemghfkfmkdaaGreatDoor
open Go.RowKit

theorem clone_t (A : Option Addr) (n c : Nat) (xs : List Int) (w : World) (hn : n ≤ 1048576) (ha : Rd w w.heap.size A n xs) (h0 : 0 < n) :
    Calls Tryz.prog 67 #[.slice A n c] w fun e w' => ∃ B d, e = .returned (.slice B n d) ∧ Below w.heap.size w w' ∧ Wr w' w.heap.size B n xs := by
  obtain ⟨i0, hi, hz0, hz1, hz2⟩ := info_parts info_i64
  obtain ⟨b, off, rfl, hb, hc⟩ := ha.2 h0
  refine (Tryz.slices_Clone i0 (.int .i64 0) 1 8 hi hz0 hz1 hz2 rfl (by decide) (fun _ => by kernel_rfl) b off n c (xs.map (Value.int .i64)) w (by simp [ha.1]) (by simp only [maxLen]; omega) (by omega) ?_ ?_).mono ?_
  · intro j u hj
    rw [List.getElem?_map] at hj
    cases hy : xs[j]? with
    | none => rw [hy] at hj; simp at hj
    | some y =>
      rw [hy] at hj
      have hj' : j < xs.length := (List.getElem?_eq_some_iff.1 hy).1
      rw [hc j (by have := ha.1; omega), List.getD_eq_getElem?_getD, hy]
      simpa using hj
  · intro u hu
    simp at hu
    obtain ⟨y, _, rfl⟩ := hu
    rfl
  · rintro e w' ⟨v, rfl, hown, _, hb⟩
    obtain ⟨B, d, rfl, hw⟩ := own_wr hown
    exact ⟨B, d, rfl, hb, hw⟩

end Go.Proofs.YthfemghfkfmkdaaGreatDoor
