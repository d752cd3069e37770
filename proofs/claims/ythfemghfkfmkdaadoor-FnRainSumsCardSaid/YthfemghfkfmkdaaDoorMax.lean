/- slices.Max, slices.Index over int64; the first place of the greatest number. -/
import Derived.Test.YthfemghfkfmkdaaDoorReg
namespace Go.Proofs.YthfemghfkfmkdaaDoor
open Go.RowKit

/-- the greatest of the first k + 1 numbers -/
def mxN (xs : List Int) : Nat → Int
  | 0 => xs.getD 0 0
  | k + 1 => max (mxN xs k) (xs.getD (k + 1) 0)
/-- the first place where it stands -/
def bstN (xs : List Int) : Nat → Nat
  | 0 => 0
  | k + 1 => if xs.getD (bstN xs k) 0 < xs.getD (k + 1) 0 then k + 1 else bstN xs k
theorem bst_all (xs : List Int) : ∀ k, bstN xs k ≤ k ∧ xs.getD (bstN xs k) 0 = mxN xs k ∧ (∀ j, j < bstN xs k → xs.getD j 0 < mxN xs k) ∧ ∀ j, j ≤ k → xs.getD j 0 ≤ mxN xs k := by
  intro k
  induction k with
  | zero =>
    refine ⟨Nat.le_refl _, rfl, fun j hj => absurd hj (by simp [bstN]), fun j hj => ?_⟩
    obtain rfl : j = 0 := by omega
    exact Int.le_refl _
  | succ k ih =>
    obtain ⟨h1, h2, h3, h4⟩ := ih
    simp only [bstN, mxN]
    by_cases h : xs.getD (bstN xs k) 0 < xs.getD (k + 1) 0
    · rw [if_pos h]
      refine ⟨Nat.le_refl _, by omega, fun j hj => ?_, fun j hj => ?_⟩
      · have := h4 j (by omega); omega
      · by_cases e : j = k + 1
        · subst e; omega
        · have := h4 j (by omega); omega
    · rw [if_neg h]
      refine ⟨by omega, by omega, fun j hj => ?_, fun j hj => ?_⟩
      · have := h3 j hj; omega
      · by_cases e : j = k + 1
        · subst e; omega
        · have := h4 j (by omega); omega

set_option maxHeartbeats 800000 in
theorem max_s (A : Option Addr) (n c : Nat) (xs : List Int) (w : World) (hn : n ≤ 1048576) (h1 : 1 ≤ n) (ha : Rd w w.heap.size A n xs) :
    Calls Tryd.prog 18 #[.slice A n c] w fun e w' => e = .returned (.int .i64 (mxN xs (n - 1))) ∧ w = w' := by
  obtain ⟨b, o, rfl, hbB, hc⟩ := ha.2 (by omega)
  have c0 := hc 0 (by omega)
  rw [Nat.add_zero] at c0
  have HC := Lib.hid hc
  have hn1 : ¬ n < 1 := by omega
  clear ha hc
  go_enter Tryd.func18, Tryd.ntmps18
  go_wp2
  go_loop [3, 4] (fun m i => ∃ k : Nat, k < n ∧ i = .int .i64 ((k + 1 : Nat) : Int) ∧ m = .int .i64 (mxN xs k)) (fun _ i => n - (intOf i).toNat)
  case atStart => exact ⟨0, by omega, rfl, rfl⟩
  case round =>
    obtain ⟨k, hk, rfl, rfl⟩ := hrel
    by_cases hlt : k + 1 < n
    · have c1 := HC.out (k + 1) hlt
      have HS := Lib.hid (show mxN xs (k + 1) = max (mxN xs k) (xs.getD (k + 1) 0) from rfl)
      generalize mxN xs k = s at *
      generalize xs.getD (k + 1) 0 = x at *
      have i1 : ((k + 1 : Nat) : Int) < (n : Int) := by omega
      by_cases hm : s ≤ x
      · go_wp2
        go_round
        case rel => exact ⟨k + 1, by omega, by go_num, by rw [HS.out]; simp; omega⟩
        case measure => simp [intOf]; omega
      · go_wp2
        go_round
        case rel => exact ⟨k + 1, by omega, by go_num, by rw [HS.out]; simp; omega⟩
        case measure => simp [intOf]; omega
    · obtain rfl : n = k + 1 := by omega
      go_wp2
      go_ret
      exact ⟨by simp, rfl⟩

set_option maxHeartbeats 800000 in
theorem index_s (A : Option Addr) (n c : Nat) (xs : List Int) (v : Int) (p : Nat) (w : World) (hn : n ≤ 1048576) (hp : p < n) (hv : xs.getD p 0 = v) (hlo : ∀ j, j < p → xs.getD j 0 < v) (ha : Rd w w.heap.size A n xs) :
    Calls Tryd.prog 19 #[.slice A n c, .int .i64 v] w fun e w' => e = .returned (.int .i64 (p : Int)) ∧ w = w' := by
  obtain ⟨b, o, rfl, hbB, hc⟩ := ha.2 (by omega)
  have HC := Lib.hid hc
  have HL := Lib.hid hlo
  have HV := Lib.hid hv
  clear ha hc hlo hv
  go_enter Tryd.func19, Tryd.ntmps19
  go_wp2
  go_loop [5, 8] (fun _ i => ∃ k : Nat, k ≤ p ∧ i = .int .i64 (k : Int)) (fun _ i => n - (intOf i).toNat)
  case atStart => exact ⟨0, by omega, rfl⟩
  case round =>
    obtain ⟨k, hk, rfl⟩ := hrel
    have hlt : k < n := by omega
    have c1 := HC.out k hlt
    by_cases e : k = p
    · subst e
      rw [HV.out] at c1
      go_wp2
      go_ret
      exact ⟨rfl, rfl⟩
    · have hl := HL.out k (by omega)
      generalize xs.getD k 0 = x at *
      have hne : (v == x) = false := by simp; omega
      go_wp2
      go_round
      case rel => exact ⟨k + 1, by omega, by go_num⟩
      case measure => simp [intOf]; omega

end Go.Proofs.YthfemghfkfmkdaaDoor
