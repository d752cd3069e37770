/- What the law on levels says of numbers: the middle's place, the mean, the wrong gauges. No function of the program in it. -/
import Derived.Test.YtkbbflleonkjfaaGreatDoorCWrongGauges
import Derived.Test.YtkbbflleonkjfaaGreatDoorCMedianLevel
import Derived.Test.YtkbbflleonkjfaaGreatDoorWFnExactMeanLevel
namespace Go.Proofs.YtkbbflleonkjfaaGreatDoor
open Go.RowKit

/-- the numbers below (above) one among the first k -/
def loN (y : Int) (xs : List Int) : Nat → Nat
  | 0 => 0
  | k + 1 => loN y xs k + if xs.getD k 0 < y then 1 else 0
def hiN (y : Int) (xs : List Int) : Nat → Nat
  | 0 => 0
  | k + 1 => hiN y xs k + if y < xs.getD k 0 then 1 else 0
theorem loN_le (y : Int) (xs : List Int) (k : Nat) : loN y xs k ≤ k := by
  induction k with
  | zero => simp [loN]
  | succ k ih => simp only [loN]; split <;> omega
theorem hiN_le (y : Int) (xs : List Int) (k : Nat) : hiN y xs k ≤ k := by
  induction k with
  | zero => simp [hiN]
  | succ k ih => simp only [hiN]; split <;> omega
theorem loN_cnt (y : Int) (xs : List Int) (k : Nat) (h : k ≤ xs.length) : loN y xs k = (xs.take k).countP (fun x => decide (x < y)) := by
  induction k with
  | zero => simp [loN]
  | succ k ih =>
    rw [List.take_add_one, List.getElem?_eq_getElem (show k < xs.length by omega), List.countP_append, ← ih (by omega), loN, List.getD_eq_getElem?_getD, List.getElem?_eq_getElem (show k < xs.length by omega)]
    simp [List.countP_cons]
theorem hiN_cnt (y : Int) (xs : List Int) (k : Nat) (h : k ≤ xs.length) : hiN y xs k = (xs.take k).countP (fun x => decide (y < x)) := by
  induction k with
  | zero => simp [hiN]
  | succ k ih =>
    rw [List.take_add_one, List.getElem?_eq_getElem (show k < xs.length by omega), List.countP_append, ← ih (by omega), hiN, List.getD_eq_getElem?_getD, List.getElem?_eq_getElem (show k < xs.length by omega)]
    simp [List.countP_cons]
theorem sort_lo {s : List Int} (hs : s.Pairwise (· ≤ ·)) {p : Nat} (hp : p < s.length) {y : Int} (hy : y = s.getD p 0) : s.countP (fun x => decide (x < y)) ≤ p := by
  have h1 : s.countP (fun x => decide (x < y)) = (s.take p).countP (fun x => decide (x < y)) + (s.drop p).countP (fun x => decide (x < y)) := by rw [← List.countP_append, List.take_append_drop]
  have h2 : (s.drop p).countP (fun x => decide (x < y)) = 0 := by
    rw [List.countP_eq_zero]
    intro a ha
    obtain ⟨i, hi, rfl⟩ := List.mem_iff_getElem.1 ha
    rw [List.getElem_drop]
    rw [List.length_drop] at hi
    rw [List.getD_eq_getElem?_getD, List.getElem?_eq_getElem hp] at hy
    simp at hy
    have h3 := List.pairwise_iff_getElem.1 hs p (p + i) hp (by omega)
    rcases Nat.eq_zero_or_pos i with e | e
    · subst e; simp; omega
    · have := h3 (by omega); simp; omega
  have h3 : (s.take p).countP (fun x => decide (x < y)) ≤ p := Nat.le_trans List.countP_le_length (by simp; omega)
  omega
theorem sort_hi {s : List Int} (hs : s.Pairwise (· ≤ ·)) {p : Nat} (hp : p < s.length) {y : Int} (hy : y = s.getD p 0) : s.countP (fun x => decide (y < x)) ≤ s.length - (p + 1) := by
  have h1 : s.countP (fun x => decide (y < x)) = (s.take (p + 1)).countP (fun x => decide (y < x)) + (s.drop (p + 1)).countP (fun x => decide (y < x)) := by rw [← List.countP_append, List.take_append_drop]
  have h2 : (s.take (p + 1)).countP (fun x => decide (y < x)) = 0 := by
    rw [List.countP_eq_zero]
    intro a ha
    obtain ⟨i, hi, rfl⟩ := List.mem_iff_getElem.1 ha
    rw [List.getElem_take]
    rw [List.length_take] at hi
    rw [List.getD_eq_getElem?_getD, List.getElem?_eq_getElem hp] at hy
    simp at hy
    by_cases e : i = p
    · subst e; simp; omega
    · have := List.pairwise_iff_getElem.1 hs i p (by omega) hp (by omega); simp; omega
  have h3 : (s.drop (p + 1)).countP (fun x => decide (y < x)) ≤ s.length - (p + 1) := Nat.le_trans List.countP_le_length (by simp)
  omega
theorem mid_lo {xs : List Int} {n : Nat} (hl : xs.length = n) (h0 : 0 < n) : 2 * loN (midOf xs) xs n < n ∧ 2 * hiN (midOf xs) xs n ≤ n := by
  subst hl
  have hs := srt_len xs
  have hp : (xs.length - 1) / 2 < (srt xs).length := by omega
  have h1 := sort_lo (srt_sorted xs) hp (y := midOf xs) rfl
  have h2 := sort_hi (srt_sorted xs) hp (y := midOf xs) rfl
  rw [(srt_perm xs).countP_eq] at h1 h2
  rw [loN_cnt _ _ _ (Nat.le_refl _), hiN_cnt _ _ _ (Nat.le_refl _), List.take_length]
  omega
theorem mean_x {S n : Int} (h : 1 ≤ n) : fnum S n * n = S * fden S n ∧ (fnum S n).natAbs ≤ S.natAbs := by
  have g1 := fgcd_pos S n h
  have d1 : (fgcd S n : Int) ∣ S := Int.ofNat_dvd_left.2 (Nat.gcd_dvd_left _ _)
  have d2 : (fgcd S n : Int) ∣ n := Int.ofNat_dvd_left.2 (by
    rw [show n.natAbs = n.toNat by omega]
    exact Nat.gcd_dvd_right _ _)
  unfold fnum fden
  generalize (fgcd S n : Int) = g at g1 d1 d2 ⊢
  obtain ⟨a, rfl⟩ := d1
  obtain ⟨b, rfl⟩ := d2
  rw [Int.mul_tdiv_cancel_left a (by omega), Int.mul_ediv_cancel_left b (by omega)]
  refine ⟨by rw [Int.mul_comm g a, Int.mul_assoc, Int.mul_left_comm], ?_⟩
  rw [Int.natAbs_mul]
  exact Nat.le_mul_of_pos_left _ (by omega)
theorem mem_at {wg : List Int} {i : Nat} (h : i < wg.length) : wg.getD i 0 ∈ wg := by
  rw [List.getD_eq_getElem?_getD, List.getElem?_eq_getElem h]
  exact List.getElem_mem _
theorem wg_mem {mid most : Int} {xs : List Int} {k : Nat} {x : Int} (h : x ∈ wgList mid most xs k) : ∃ q : Nat, q < k ∧ x = (q : Int) ∧ (xs.getD q 0 < mid - most ∨ mid + most < xs.getD q 0) := by
  induction k with
  | zero => simp [wgList] at h
  | succ k ih =>
    rw [wgList, List.mem_append] at h
    rcases h with h | h
    · obtain ⟨q, h1, h2, h3⟩ := ih h
      exact ⟨q, by omega, h2, h3⟩
    · split at h
      · rename_i ho
        simp at h
        exact ⟨k, by omega, h, by simpa [offP] using ho⟩
      · simp at h

end Go.Proofs.YtkbbflleonkjfaaGreatDoor
