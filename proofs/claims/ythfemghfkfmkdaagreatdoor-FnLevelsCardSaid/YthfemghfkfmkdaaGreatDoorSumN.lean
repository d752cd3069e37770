/- Sums of numbers: l02Sum of the model, sumOf of the program. -/
import Derived.Test.YthfemghfkfmkdaaGreatDoorInts
namespace Go.Proofs.YthfemghfkfmkdaaGreatDoor
open Go.RowKit

def sumN (xs : List Int) : Nat → Int
  | 0 => 0
  | k + 1 => sumN xs k + xs.getD k 0
theorem sumN_bdd (n : Nat) (xs : List Int) (h : ∀ j, j < n → -3000 ≤ xs.getD j 0 ∧ xs.getD j 0 ≤ 3000) (k : Nat) (hk : k ≤ n) : -(3000 * (k : Int)) ≤ sumN xs k ∧ sumN xs k ≤ 3000 * (k : Int) := by
  induction k with
  | zero => simp [sumN]
  | succ k ih =>
    have h1 := ih (by omega)
    have h2 := h k (by omega)
    simp only [sumN]
    omega

set_option maxHeartbeats 400000 in
theorem spec_sumB (A : Option Addr) (n c : Nat) (xs : List Int) (w : World) (hn : n ≤ 1048576) (ha : Rd w w.heap.size A n xs) (hv : ∀ j, j < n → -3000 ≤ xs.getD j 0 ∧ xs.getD j 0 ≤ 3000) :
    Calls Tryz.prog 44 #[.slice A n c] w fun e w' => e = .returned (.int .i64 (sumN xs n)) ∧ w = w' := by
  have HA := Lib.hid ha
  have HV := Lib.hid hv
  clear ha hv
  go_enter Tryz.func44, Tryz.ntmps44
  go_wp2
  go_loop [3, 4] (fun s i => ∃ k : Nat, k ≤ n ∧ i = .int .i64 (k : Int) ∧ s = .int .i64 (sumN xs k)) (fun _ i => n - (intOf i).toNat)
  case atStart => exact ⟨0, by omega, rfl, rfl⟩
  case round =>
    obtain ⟨k, hk, rfl, rfl⟩ := hrel
    obtain ⟨s1, s2⟩ := sumN_bdd n xs HV.out k hk
    by_cases hlt : k < n
    · obtain ⟨ab, o, rfl, hbB, hc⟩ := HA.out.2 (by omega)
      have c1 := hc k hlt
      obtain ⟨g1, g2⟩ := HV.out k hlt
      have hs : sumN xs (k + 1) = sumN xs k + xs.getD k 0 := rfl
      have HS := Lib.hid hs
      clear hc hs
      obtain ⟨x, hx⟩ : ∃ x, x = xs.getD k 0 := ⟨_, rfl⟩
      rw [← hx] at c1 g1 g2 HS
      clear hx
      obtain ⟨s, hs⟩ : ∃ s, s = sumN xs k := ⟨_, rfl⟩
      rw [← hs] at s1 s2 HS ⊢
      clear hs
      go_wp2
      go_round
      case rel => exact ⟨k + 1, by omega, by go_num, by rw [HS.out]⟩
      case measure => simp [intOf]; omega
    · obtain rfl : k = n := by omega
      go_wp2
      go_ret
      exact ⟨rfl, rfl⟩

set_option maxHeartbeats 400000 in
theorem impl_sumB (A : Option Addr) (n c : Nat) (xs : List Int) (w : World) (hn : n ≤ 1048576) (ha : Rd w w.heap.size A n xs) (hv : ∀ j, j < n → -3000 ≤ xs.getD j 0 ∧ xs.getD j 0 ≤ 3000) :
    Calls Tryz.prog 42 #[.slice A n c] w fun e w' => e = .returned (.int .i64 (sumN xs n)) ∧ w = w' := by
  have HA := Lib.hid ha
  have HV := Lib.hid hv
  clear ha hv
  go_enter Tryz.func42, Tryz.ntmps42
  go_wp2
  go_loop [3, 5, 8] (fun s _ i => ∃ k : Nat, k ≤ n ∧ i = .int .i64 (k : Int) ∧ s = .int .i64 (sumN xs k)) (fun _ _ i => n - (intOf i).toNat)
  case atStart => exact ⟨0, by omega, rfl, rfl⟩
  case round =>
    obtain ⟨k, hk, rfl, rfl⟩ := hrel
    obtain ⟨s1, s2⟩ := sumN_bdd n xs HV.out k hk
    by_cases hlt : k < n
    · obtain ⟨ab, o, rfl, hbB, hc⟩ := HA.out.2 (by omega)
      have c1 := hc k hlt
      obtain ⟨g1, g2⟩ := HV.out k hlt
      have hs : sumN xs (k + 1) = sumN xs k + xs.getD k 0 := rfl
      have HS := Lib.hid hs
      clear hc hs
      obtain ⟨x, hx⟩ : ∃ x, x = xs.getD k 0 := ⟨_, rfl⟩
      rw [← hx] at c1 g1 g2 HS
      clear hx
      obtain ⟨s, hs⟩ : ∃ s, s = sumN xs k := ⟨_, rfl⟩
      rw [← hs] at s1 s2 HS ⊢
      clear hs
      go_wp2
      go_round
      case rel => exact ⟨k + 1, by omega, by go_num, by rw [HS.out]⟩
      case measure => simp [intOf]; omega
    · obtain rfl : k = n := by omega
      go_wp2
      go_ret
      exact ⟨rfl, rfl⟩

end Go.Proofs.YthfemghfkfmkdaaGreatDoor
