/- The laws' small helpers: a2Long, a2At, a2Sum. -/
import Derived.Test.YthfemghfkfmkdaaDoorFrom
import Derived.Test.YthfemghfkfmkdaaDoorSumN
namespace Go.Proofs.YthfemghfkfmkdaaDoor
open Go.RowKit

theorem a2Long_t (A B : Option Addr) (n c m d : Nat) (w : World) (hn : n ≤ maxLen) (hm : m ≤ maxLen) :
    Calls Tryd.prog 4 #[.slice A n c, .slice B m d] w fun e w' => e = .returned (.bool (decide (3000 < n ∨ 3000 < m))) ∧ w = w' := by
  unfold maxLen at hn hm
  by_cases h1 : 3000 < n
  · rw [decide_eq_true (.inl h1)]
    have h2 : (3000 : Int) < (n : Int) := by omega
    go_enter Tryd.func4, Tryd.ntmps4
    go_wp2
    go_ret
    exact ⟨rfl, rfl⟩
  · have h2 : ¬ (3000 : Int) < (n : Int) := by omega
    by_cases h3 : 3000 < m
    · rw [decide_eq_true (.inr h3)]
      have h4 : (3000 : Int) < (m : Int) := by omega
      go_enter Tryd.func4, Tryd.ntmps4
      go_wp2
      go_ret
      exact ⟨rfl, rfl⟩
    · rw [decide_eq_false (by omega)]
      have h4 : ¬ (3000 : Int) < (m : Int) := by omega
      go_enter Tryd.func4, Tryd.ntmps4
      go_wp2
      go_ret
      exact ⟨rfl, rfl⟩

set_option maxHeartbeats 400000 in
theorem a2At_t (A : Option Addr) (n c : Nat) (p : Nat) (k : Int) (w : World) (hA : ByR w A n) (hn : n ≤ 3000) (hk : 1 ≤ k) (hk2 : k ≤ 1000000000) (hp : p ≤ 1000) :
    Calls Tryd.prog 6 #[.slice A n c, .int .i64 (p : Int), .int .i64 k] w fun e w' => ∃ r : Int, e = .returned (.int .i64 r) ∧ 0 ≤ r ∧ r < k ∧ w = w' := by
  by_cases h1 : p < n
  · obtain ⟨cb, off, rfl, hcb, hx⟩ := hA (by omega)
    obtain ⟨x, c1, x1, x2⟩ := hx p h1
    have h2 : ¬ (n : Int) ≤ (p : Int) := by omega
    have h3 : ¬ k < 1 := by omega
    have h4 : k ≠ 0 := by omega
    have h5 : x.tmod k = x % k := Int.tmod_eq_emod_of_nonneg x1
    have h6 := Int.emod_nonneg x h4
    have h7 := Int.emod_lt_of_pos x (show 0 < k by omega)
    have h8 := IntWalk.i64_in (x % k) (by omega)
    clear hx hA
    go_enter Tryd.func6, Tryd.ntmps6
    go_wp2
    go_ret
    exact ⟨_, rfl, by first | exact h6 | (rw [h5]; exact h6), by first | exact h7 | (rw [h5]; exact h7), rfl⟩
  · have h2 : (n : Int) ≤ (p : Int) := by omega
    clear hA
    go_enter Tryd.func6, Tryd.ntmps6
    go_wp2
    go_ret
    exact ⟨0, rfl, by omega, by omega, rfl⟩

theorem sumN_bM (M : Int) (n : Nat) (xs : List Int) (h : ∀ j, j < n → -M ≤ xs.getD j 0 ∧ xs.getD j 0 ≤ M) (k : Nat) (hk : k ≤ n) : -(M * (k : Int)) ≤ sumN xs k ∧ sumN xs k ≤ M * (k : Int) := by
  induction k with
  | zero => simp [sumN]
  | succ k ih =>
    have h1 := ih (by omega)
    have h2 := h k (by omega)
    have e : M * ((k + 1 : Nat) : Int) = M * (k : Int) + M := by rw [Int.natCast_succ, Int.mul_add, Int.mul_one]
    rw [e]
    simp only [sumN]
    omega

set_option maxHeartbeats 400000 in
theorem a2Sum_t (A : Option Addr) (n c : Nat) (xs : List Int) (w : World) (hn : n ≤ 1000) (ha : Rd w w.heap.size A n xs) (hv : ∀ j, j < n → -1000000000 ≤ xs.getD j 0 ∧ xs.getD j 0 ≤ 1000000000) :
    Calls Tryd.prog 9 #[.slice A n c] w fun e w' => e = .returned (.int .i64 (sumN xs n)) ∧ w = w' := by
  have HA := Lib.hid ha
  have HV := Lib.hid hv
  clear ha hv
  go_enter Tryd.func9, Tryd.ntmps9
  go_wp2
  go_loop [3, 4] (fun s i => ∃ k : Nat, k ≤ n ∧ i = .int .i64 (k : Int) ∧ s = .int .i64 (sumN xs k)) (fun _ i => n - (intOf i).toNat)
  case atStart => exact ⟨0, by omega, rfl, rfl⟩
  case round =>
    obtain ⟨k, hk, rfl, rfl⟩ := hrel
    obtain ⟨s1, s2⟩ := sumN_bM 1000000000 n xs HV.out k hk
    by_cases hlt : k < n
    · obtain ⟨ab, o, rfl, hbB, hc⟩ := HA.out.2 (by omega)
      have c1 := hc k hlt
      obtain ⟨g1, g2⟩ := HV.out k hlt
      have hs : sumN xs (k + 1) = sumN xs k + xs.getD k 0 := rfl
      have HS := Lib.hid hs
      clear hc hs
      obtain ⟨x, hx⟩ : ∃ x, x = xs.getD k 0 := ⟨_, rfl⟩
      rw [← hx] at c1 g1 g2 HS
      clear hx
      obtain ⟨s, hs⟩ : ∃ s, s = sumN xs k := ⟨_, rfl⟩
      rw [← hs] at s1 s2 HS ⊢
      clear hs
      go_wp2
      go_round
      case rel => exact ⟨k + 1, by omega, by go_num, by rw [HS.out]⟩
      case measure => simp [intOf]; omega
    · obtain rfl : k = n := by omega
      go_wp2
      go_ret
      exact ⟨rfl, rfl⟩

end Go.Proofs.YthfemghfkfmkdaaDoor
