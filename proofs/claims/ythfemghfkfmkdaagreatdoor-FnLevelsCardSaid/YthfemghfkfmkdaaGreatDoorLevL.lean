/- The helpers of the law on levels. -/
import Derived.Test.YthfemghfkfmkdaaGreatDoorCWrongGauges
import Derived.Test.YthfemghfkfmkdaaGreatDoorCMedianLevel
import Derived.Test.YthfemghfkfmkdaaGreatDoorWFnExactMeanLevel
import Derived.Test.YthfemghfkfmkdaaGreatDoorIn
import Derived.Test.YthfemghfkfmkdaaGreatDoorWFnExactRisesFast
namespace Go.Proofs.YthfemghfkfmkdaaGreatDoor
open Go.RowKit

/-- the numbers below (above) one among the first k -/
def loN (y : Int) (xs : List Int) : Nat → Nat
  | 0 => 0
  | k + 1 => loN y xs k + if xs.getD k 0 < y then 1 else 0
def hiN (y : Int) (xs : List Int) : Nat → Nat
  | 0 => 0
  | k + 1 => hiN y xs k + if y < xs.getD k 0 then 1 else 0
theorem loN_le (y : Int) (xs : List Int) (k : Nat) : loN y xs k ≤ k := by
  induction k with
  | zero => simp [loN]
  | succ k ih => simp only [loN]; split <;> omega
theorem hiN_le (y : Int) (xs : List Int) (k : Nat) : hiN y xs k ≤ k := by
  induction k with
  | zero => simp [hiN]
  | succ k ih => simp only [hiN]; split <;> omega
theorem loN_cnt (y : Int) (xs : List Int) (k : Nat) (h : k ≤ xs.length) : loN y xs k = (xs.take k).countP (fun x => decide (x < y)) := by
  induction k with
  | zero => simp [loN]
  | succ k ih =>
    rw [List.take_add_one, List.getElem?_eq_getElem (show k < xs.length by omega), List.countP_append, ← ih (by omega), loN, List.getD_eq_getElem?_getD, List.getElem?_eq_getElem (show k < xs.length by omega)]
    simp [List.countP_cons]
theorem hiN_cnt (y : Int) (xs : List Int) (k : Nat) (h : k ≤ xs.length) : hiN y xs k = (xs.take k).countP (fun x => decide (y < x)) := by
  induction k with
  | zero => simp [hiN]
  | succ k ih =>
    rw [List.take_add_one, List.getElem?_eq_getElem (show k < xs.length by omega), List.countP_append, ← ih (by omega), hiN, List.getD_eq_getElem?_getD, List.getElem?_eq_getElem (show k < xs.length by omega)]
    simp [List.countP_cons]
theorem sort_lo {s : List Int} (hs : s.Pairwise (· ≤ ·)) {p : Nat} (hp : p < s.length) {y : Int} (hy : y = s.getD p 0) : s.countP (fun x => decide (x < y)) ≤ p := by
  have h1 : s.countP (fun x => decide (x < y)) = (s.take p).countP (fun x => decide (x < y)) + (s.drop p).countP (fun x => decide (x < y)) := by rw [← List.countP_append, List.take_append_drop]
  have h2 : (s.drop p).countP (fun x => decide (x < y)) = 0 := by
    rw [List.countP_eq_zero]
    intro a ha
    obtain ⟨i, hi, rfl⟩ := List.mem_iff_getElem.1 ha
    rw [List.getElem_drop]
    rw [List.length_drop] at hi
    rw [List.getD_eq_getElem?_getD, List.getElem?_eq_getElem hp] at hy
    simp at hy
    have h3 := List.pairwise_iff_getElem.1 hs p (p + i) hp (by omega)
    rcases Nat.eq_zero_or_pos i with e | e
    · subst e; simp; omega
    · have := h3 (by omega); simp; omega
  have h3 : (s.take p).countP (fun x => decide (x < y)) ≤ p := Nat.le_trans List.countP_le_length (by simp; omega)
  omega
theorem sort_hi {s : List Int} (hs : s.Pairwise (· ≤ ·)) {p : Nat} (hp : p < s.length) {y : Int} (hy : y = s.getD p 0) : s.countP (fun x => decide (y < x)) ≤ s.length - (p + 1) := by
  have h1 : s.countP (fun x => decide (y < x)) = (s.take (p + 1)).countP (fun x => decide (y < x)) + (s.drop (p + 1)).countP (fun x => decide (y < x)) := by rw [← List.countP_append, List.take_append_drop]
  have h2 : (s.take (p + 1)).countP (fun x => decide (y < x)) = 0 := by
    rw [List.countP_eq_zero]
    intro a ha
    obtain ⟨i, hi, rfl⟩ := List.mem_iff_getElem.1 ha
    rw [List.getElem_take]
    rw [List.length_take] at hi
    rw [List.getD_eq_getElem?_getD, List.getElem?_eq_getElem hp] at hy
    simp at hy
    by_cases e : i = p
    · subst e; simp; omega
    · have := List.pairwise_iff_getElem.1 hs i p (by omega) hp (by omega); simp; omega
  have h3 : (s.drop (p + 1)).countP (fun x => decide (y < x)) ≤ s.length - (p + 1) := Nat.le_trans List.countP_le_length (by simp)
  omega
theorem mid_lo {xs : List Int} {n : Nat} (hl : xs.length = n) (h0 : 0 < n) : 2 * loN (midOf xs) xs n < n ∧ 2 * hiN (midOf xs) xs n ≤ n := by
  subst hl
  have hs := srt_len xs
  have hp : (xs.length - 1) / 2 < (srt xs).length := by omega
  have h1 := sort_lo (srt_sorted xs) hp (y := midOf xs) rfl
  have h2 := sort_hi (srt_sorted xs) hp (y := midOf xs) rfl
  rw [(srt_perm xs).countP_eq] at h1 h2
  rw [loN_cnt _ _ _ (Nat.le_refl _), hiN_cnt _ _ _ (Nat.le_refl _), List.take_length]
  omega
theorem mean_x {S n : Int} (h : 1 ≤ n) : fnum S n * n = S * fden S n ∧ (fnum S n).natAbs ≤ S.natAbs := by
  have g1 := fgcd_pos S n h
  have d1 : (fgcd S n : Int) ∣ S := Int.ofNat_dvd_left.2 (Nat.gcd_dvd_left _ _)
  have d2 : (fgcd S n : Int) ∣ n := Int.ofNat_dvd_left.2 (by
    rw [show n.natAbs = n.toNat by omega]
    exact Nat.gcd_dvd_right _ _)
  unfold fnum fden
  generalize (fgcd S n : Int) = g at g1 d1 d2 ⊢
  obtain ⟨a, rfl⟩ := d1
  obtain ⟨b, rfl⟩ := d2
  rw [Int.mul_tdiv_cancel_left a (by omega), Int.mul_ediv_cancel_left b (by omega)]
  refine ⟨by rw [Int.mul_comm g a, Int.mul_assoc, Int.mul_left_comm], ?_⟩
  rw [Int.natAbs_mul]
  exact Nat.le_mul_of_pos_left _ (by omega)
theorem mem_at {wg : List Int} {i : Nat} (h : i < wg.length) : wg.getD i 0 ∈ wg := by
  rw [List.getD_eq_getElem?_getD, List.getElem?_eq_getElem h]
  exact List.getElem_mem _
theorem wg_mem {mid most : Int} {xs : List Int} {k : Nat} {x : Int} (h : x ∈ wgList mid most xs k) : ∃ q : Nat, q < k ∧ x = (q : Int) ∧ (xs.getD q 0 < mid - most ∨ mid + most < xs.getD q 0) := by
  induction k with
  | zero => simp [wgList] at h
  | succ k ih =>
    rw [wgList, List.mem_append] at h
    rcases h with h | h
    · obtain ⟨q, h1, h2, h3⟩ := ih h
      exact ⟨q, by omega, h2, h3⟩
    · split at h
      · rename_i ho
        simp at h
        exact ⟨k, by omega, h, by simpa [offP] using ho⟩
      · simp at h

set_option maxHeartbeats 400000 in
theorem f6ints_t (A B : Option Addr) (n c d : Nat) (xs : List Int) (w : World) (hn : n ≤ 281474976710656) (ha : Rd w w.heap.size A n xs) (hb : Rd w w.heap.size B n xs) :
    Calls Tryz.prog 22 #[.slice A n c, .slice B n d] w fun e w' => e = .returned (.bool true) ∧ Below w.heap.size w w' := by
  have h0 : ((n : Int) != (n : Int)) = false := by simp
  by_cases hz : n = 0
  · subst hz
    go_enter Tryz.func22, Tryz.ntmps22
    go_wp2
    go_loopw [5] (fun i wr => i = .int .i64 0 ∧ wr = w) (fun _ _ => 0)
    case atStart => exact ⟨rfl, rfl⟩
    case round =>
      obtain ⟨rfl, rfl⟩ := hrel
      go_wp2
      go_ret
      exact ⟨rfl, Below.refl _ _⟩
  · obtain ⟨b, o, rfl, hbB, hc⟩ := ha.2 (by omega)
    obtain ⟨b', o', rfl, hbB', hc'⟩ := hb.2 (by omega)
    have HC := Lib.hid hc
    have HC' := Lib.hid hc'
    clear hc hc' ha hb
    go_enter Tryz.func22, Tryz.ntmps22
    go_wp2
    go_loopw [5] (fun i wr => ∃ k m : Nat, k ≤ n ∧ i = .int .i64 (k : Int) ∧ wr = w.drewN m) (fun i _ => n - (intOf i).toNat)
    case atStart => exact ⟨0, 0, by omega, rfl, rfl⟩
    case round =>
      obtain ⟨k, m, hk, rfl, rfl⟩ := hrel
      by_cases hlt : k < n
      · have c1 := HC.out k hlt
        have c2 := HC'.out k hlt
        have e1 : (xs.getD k 0 != xs.getD k 0) = false := by simp
        go_wp2
        go_quiet (fail)
        go_wp2
        go_roundw
        case rel => exact ⟨k + 1, _, by omega, by go_num, rfl⟩
        case measure => simp [intOf]; omega
      · go_wp2
        go_ret
        exact ⟨rfl, below_drewN (Below.refl _ _) m⟩

set_option maxHeartbeats 400000 in
theorem f6sum_t (A : Option Addr) (n c : Nat) (xs : List Int) (w : World) (hn : n ≤ 1048576) (ha : Rd w w.heap.size A n xs) (hv : ∀ j, j < n → -3000 ≤ xs.getD j 0 ∧ xs.getD j 0 ≤ 3000) :
    Calls Tryz.prog 29 #[.slice A n c] w fun e w' => e = .returned (.int .i64 (sumN xs n)) ∧ w = w' := by
  have HA := Lib.hid ha
  have HV := Lib.hid hv
  clear ha hv
  go_enter Tryz.func29, Tryz.ntmps29
  go_wp2
  go_loop [3, 4] (fun s i => ∃ k : Nat, k ≤ n ∧ i = .int .i64 (k : Int) ∧ s = .int .i64 (sumN xs k)) (fun _ i => n - (intOf i).toNat)
  case atStart => exact ⟨0, by omega, rfl, rfl⟩
  case round =>
    obtain ⟨k, hk, rfl, rfl⟩ := hrel
    obtain ⟨s1, s2⟩ := sumN_bdd n xs HV.out k hk
    by_cases hlt : k < n
    · obtain ⟨ab, o, rfl, hbB, hc⟩ := HA.out.2 (by omega)
      have c1 := hc k hlt
      obtain ⟨g1, g2⟩ := HV.out k hlt
      have hs : sumN xs (k + 1) = sumN xs k + xs.getD k 0 := rfl
      have HS := Lib.hid hs
      clear hc hs
      obtain ⟨x, hx⟩ : ∃ x, x = xs.getD k 0 := ⟨_, rfl⟩
      rw [← hx] at c1 g1 g2 HS
      clear hx
      obtain ⟨s, hs⟩ : ∃ s, s = sumN xs k := ⟨_, rfl⟩
      rw [← hs] at s1 s2 HS ⊢
      clear hs
      go_wp2
      go_round
      case rel => exact ⟨k + 1, by omega, by go_num, by rw [HS.out]⟩
      case measure => simp [intOf]; omega
    · obtain rfl : k = n := by omega
      go_wp2
      go_ret
      exact ⟨rfl, rfl⟩

theorem lvS_t (x : Int) (w : World) (h : -2000 ≤ x ∧ x ≤ 2000) : Calls Tryz.prog 51 #[.int .i64 x] w fun e w' => e = .returned (.bool true) ∧ w = w' := by
  go_enter Tryz.func51, Tryz.ntmps51
  go_wp2_with (go_at_call 37; first | (refine (in_t _ _ _ _ (by omega)).mono ?_; rintro e w' ⟨rfl, rfl⟩) | (refine (in_f _ _ _ _ (by omega)).mono ?_; rintro e w' ⟨rfl, rfl⟩))
  go_ret
  exact ⟨rfl, rfl⟩
theorem lvS_f (x : Int) (w : World) (h : ¬ (-2000 ≤ x ∧ x ≤ 2000)) : Calls Tryz.prog 51 #[.int .i64 x] w fun e w' => e = .returned (.bool false) ∧ w = w' := by
  go_enter Tryz.func51, Tryz.ntmps51
  go_wp2_with (go_at_call 37; first | (refine (in_t _ _ _ _ (by omega)).mono ?_; rintro e w' ⟨rfl, rfl⟩) | (refine (in_f _ _ _ _ (by omega)).mono ?_; rintro e w' ⟨rfl, rfl⟩))
  go_ret
  exact ⟨rfl, rfl⟩
theorem lvI_t (x : Int) (w : World) (h : -2000 ≤ x ∧ x ≤ 2000) : Calls Tryz.prog 24 #[.int .i64 x] w fun e w' => e = .returned (.bool true) ∧ w = w' := by
  go_enter Tryz.func24, Tryz.ntmps24
  go_wp2_with (go_at_call 32; first | (refine (within_t _ _ _ _ (by omega)).mono ?_; rintro e w' ⟨rfl, rfl⟩) | (refine (within_f _ _ _ _ (by omega)).mono ?_; rintro e w' ⟨rfl, rfl⟩))
  go_ret
  exact ⟨rfl, rfl⟩
theorem lvI_f (x : Int) (w : World) (h : ¬ (-2000 ≤ x ∧ x ≤ 2000)) : Calls Tryz.prog 24 #[.int .i64 x] w fun e w' => e = .returned (.bool false) ∧ w = w' := by
  go_enter Tryz.func24, Tryz.ntmps24
  go_wp2_with (go_at_call 32; first | (refine (within_t _ _ _ _ (by omega)).mono ?_; rintro e w' ⟨rfl, rfl⟩) | (refine (within_f _ _ _ _ (by omega)).mono ?_; rintro e w' ⟨rfl, rfl⟩))
  go_ret
  exact ⟨rfl, rfl⟩
theorem lvS_any (x : Int) (w : World) : Calls Tryz.prog 25 #[.int .i64 x] w fun e w' => e = .returned (.bool (decide (-2000 ≤ x ∧ x ≤ 2000))) ∧ w = w' := by
  by_cases h : -2000 ≤ x ∧ x ≤ 2000
  · rw [decide_eq_true h]
    go_enter Tryz.func25, Tryz.ntmps25
    go_wp2_with (go_at_call 51; refine (lvS_t _ _ h).mono ?_; rintro e w' ⟨rfl, rfl⟩)
    go_ret
    exact ⟨rfl, rfl⟩
  · rw [decide_eq_false h]
    go_enter Tryz.func25, Tryz.ntmps25
    go_wp2_with (go_at_call 51; refine (lvS_f _ _ h).mono ?_; rintro e w' ⟨rfl, rfl⟩)
    go_ret
    exact ⟨rfl, rfl⟩
theorem lvI_any (x : Int) (w : World) : Calls Tryz.prog 24 #[.int .i64 x] w fun e w' => e = .returned (.bool (decide (-2000 ≤ x ∧ x ≤ 2000))) ∧ w = w' := by
  by_cases h : -2000 ≤ x ∧ x ≤ 2000
  · rw [decide_eq_true h]; exact lvI_t x w h
  · rw [decide_eq_false h]; exact lvI_f x w h
theorem dayS_any (x : Int) (w : World) : Calls Tryz.prog 28 #[.int .i64 x] w fun e w' => e = .returned (.bool (decide (0 ≤ x ∧ x ≤ 100000))) ∧ w = w' := by
  by_cases h : 0 ≤ x ∧ x ≤ 100000
  · rw [decide_eq_true h]
    go_enter Tryz.func28, Tryz.ntmps28
    go_wp2_with (first | (go_at_call 37; first | (refine (in_t _ _ _ _ (by omega)).mono ?_; rintro e w' ⟨rfl, rfl⟩) | (refine (in_f _ _ _ _ (by omega)).mono ?_; rintro e w' ⟨rfl, rfl⟩)) | go_in)
    go_ret
    exact ⟨rfl, rfl⟩
  · rw [decide_eq_false h]
    go_enter Tryz.func28, Tryz.ntmps28
    go_wp2_with (first | (go_at_call 37; first | (refine (in_t _ _ _ _ (by omega)).mono ?_; rintro e w' ⟨rfl, rfl⟩) | (refine (in_f _ _ _ _ (by omega)).mono ?_; rintro e w' ⟨rfl, rfl⟩)) | go_in)
    go_ret
    exact ⟨rfl, rfl⟩
theorem dayI_any (x : Int) (w : World) : Calls Tryz.prog 27 #[.int .i64 x] w fun e w' => e = .returned (.bool (decide (0 ≤ x ∧ x ≤ 100000))) ∧ w = w' := by
  by_cases h : 0 ≤ x ∧ x ≤ 100000
  · rw [decide_eq_true h]
    go_enter Tryz.func27, Tryz.ntmps27
    go_wp2_with (go_at_call 32; first | (refine (within_t _ _ _ _ (by omega)).mono ?_; rintro e w' ⟨rfl, rfl⟩) | (refine (within_f _ _ _ _ (by omega)).mono ?_; rintro e w' ⟨rfl, rfl⟩))
    go_ret
    exact ⟨rfl, rfl⟩
  · rw [decide_eq_false h]
    go_enter Tryz.func27, Tryz.ntmps27
    go_wp2_with (go_at_call 32; first | (refine (within_t _ _ _ _ (by omega)).mono ?_; rintro e w' ⟨rfl, rfl⟩) | (refine (within_f _ _ _ _ (by omega)).mono ?_; rintro e w' ⟨rfl, rfl⟩))
    go_ret
    exact ⟨rfl, rfl⟩

def gaV (x y : Int) : Int := if (-2000 ≤ x ∧ x ≤ 2000) ∧ 0 ≤ y ∧ y ≤ 10000 ∧ x + y ≤ 2000 then x + y else 0
def gaC (x y : Int) : Int := if (-2000 ≤ x ∧ x ≤ 2000) ∧ 0 ≤ y ∧ y ≤ 10000 then (if x + y ≤ 2000 then 0 else 5) else 2
set_option maxHeartbeats 800000 in
theorem gaS (x y : Int) (w : World) : Calls Tryz.prog 16 #[.int .i64 x, .int .i64 y] w fun e w' => e = .returned (.tuple #[.int .i64 (gaV x y), .int .i64 (gaC x y)]) ∧ w = w' := by
  by_cases h1 : -2000 ≤ x ∧ x ≤ 2000
  · by_cases h2 : 0 ≤ y ∧ y ≤ 10000
    · by_cases h3 : x + y ≤ 2000
      · rw [show gaV x y = x + y from if_pos ⟨h1, h2.1, h2.2, h3⟩, show gaC x y = 0 by unfold gaC; rw [if_pos ⟨h1, h2⟩, if_pos h3]]
        go_enter Tryz.func16, Tryz.ntmps16
        go_wp2_with (first | (go_at_call 51; refine (lvS_t _ _ (by omega)).mono ?_; rintro e w' ⟨rfl, rfl⟩) | (go_at_call 37; first | (refine (in_t _ _ _ _ (by omega)).mono ?_; rintro e w' ⟨rfl, rfl⟩) | (refine (in_f _ _ _ _ (by omega)).mono ?_; rintro e w' ⟨rfl, rfl⟩)))
        go_ret2
        exact ⟨rfl, rfl⟩
      · rw [show gaV x y = 0 from if_neg (fun h => h3 h.2.2.2), show gaC x y = 5 by unfold gaC; rw [if_pos ⟨h1, h2⟩, if_neg h3]]
        go_enter Tryz.func16, Tryz.ntmps16
        go_wp2_with (first | (go_at_call 51; first | (refine (lvS_t _ _ (by omega)).mono ?_; rintro e w' ⟨rfl, rfl⟩) | (refine (lvS_f _ _ (by omega)).mono ?_; rintro e w' ⟨rfl, rfl⟩)) | (go_at_call 37; first | (refine (in_t _ _ _ _ (by omega)).mono ?_; rintro e w' ⟨rfl, rfl⟩) | (refine (in_f _ _ _ _ (by omega)).mono ?_; rintro e w' ⟨rfl, rfl⟩)))
        go_ret2
        exact ⟨rfl, rfl⟩
    · rw [show gaV x y = 0 from if_neg (fun h => h2 ⟨h.2.1, h.2.2.1⟩), show gaC x y = 2 from if_neg (fun h => h2 h.2)]
      go_enter Tryz.func16, Tryz.ntmps16
      go_wp2_with (first | (go_at_call 51; refine (lvS_t _ _ (by omega)).mono ?_; rintro e w' ⟨rfl, rfl⟩) | (go_at_call 37; first | (refine (in_t _ _ _ _ (by omega)).mono ?_; rintro e w' ⟨rfl, rfl⟩) | (refine (in_f _ _ _ _ (by omega)).mono ?_; rintro e w' ⟨rfl, rfl⟩)))
      go_ret2
      exact ⟨rfl, rfl⟩
  · rw [show gaV x y = 0 from if_neg (fun h => h1 h.1), show gaC x y = 2 from if_neg (fun h => h1 h.1)]
    go_enter Tryz.func16, Tryz.ntmps16
    go_wp2_with (first | (go_at_call 51; refine (lvS_f _ _ (by omega)).mono ?_; rintro e w' ⟨rfl, rfl⟩) | (go_at_call 37; first | (refine (in_t _ _ _ _ (by omega)).mono ?_; rintro e w' ⟨rfl, rfl⟩) | (refine (in_f _ _ _ _ (by omega)).mono ?_; rintro e w' ⟨rfl, rfl⟩)))
    go_ret2
    exact ⟨rfl, rfl⟩
set_option maxHeartbeats 800000 in
theorem gaI (x y : Int) (w : World) : Calls Tryz.prog 15 #[.int .i64 x, .int .i64 y] w fun e w' => e = .returned (.tuple #[.int .i64 (gaV x y), .int .i64 (gaC x y)]) ∧ w = w' := by
  by_cases h1 : -2000 ≤ x ∧ x ≤ 2000
  · by_cases h2 : 0 ≤ y ∧ y ≤ 10000
    · by_cases h3 : x + y ≤ 2000
      · rw [show gaV x y = x + y from if_pos ⟨h1, h2.1, h2.2, h3⟩, show gaC x y = 0 by unfold gaC; rw [if_pos ⟨h1, h2⟩, if_pos h3]]
        go_enter Tryz.func15, Tryz.ntmps15
        go_wp2_with (first | (go_at_call 24; refine (lvI_t _ _ (by omega)).mono ?_; rintro e w' ⟨rfl, rfl⟩) | (go_at_call 32; first | (refine (within_t _ _ _ _ (by omega)).mono ?_; rintro e w' ⟨rfl, rfl⟩) | (refine (within_f _ _ _ _ (by omega)).mono ?_; rintro e w' ⟨rfl, rfl⟩)))
        go_ret2
        exact ⟨rfl, rfl⟩
      · rw [show gaV x y = 0 from if_neg (fun h => h3 h.2.2.2), show gaC x y = 5 by unfold gaC; rw [if_pos ⟨h1, h2⟩, if_neg h3]]
        go_enter Tryz.func15, Tryz.ntmps15
        go_wp2_with (first | (go_at_call 24; first | (refine (lvI_t _ _ (by omega)).mono ?_; rintro e w' ⟨rfl, rfl⟩) | (refine (lvI_f _ _ (by omega)).mono ?_; rintro e w' ⟨rfl, rfl⟩)) | (go_at_call 32; first | (refine (within_t _ _ _ _ (by omega)).mono ?_; rintro e w' ⟨rfl, rfl⟩) | (refine (within_f _ _ _ _ (by omega)).mono ?_; rintro e w' ⟨rfl, rfl⟩)))
        go_ret2
        exact ⟨rfl, rfl⟩
    · rw [show gaV x y = 0 from if_neg (fun h => h2 ⟨h.2.1, h.2.2.1⟩), show gaC x y = 2 from if_neg (fun h => h2 h.2)]
      go_enter Tryz.func15, Tryz.ntmps15
      go_wp2_with (first | (go_at_call 24; refine (lvI_t _ _ (by omega)).mono ?_; rintro e w' ⟨rfl, rfl⟩) | (go_at_call 32; first | (refine (within_t _ _ _ _ (by omega)).mono ?_; rintro e w' ⟨rfl, rfl⟩) | (refine (within_f _ _ _ _ (by omega)).mono ?_; rintro e w' ⟨rfl, rfl⟩)))
      go_ret2
      exact ⟨rfl, rfl⟩
  · rw [show gaV x y = 0 from if_neg (fun h => h1 h.1), show gaC x y = 2 from if_neg (fun h => h1 h.1)]
    go_enter Tryz.func15, Tryz.ntmps15
    go_wp2_with (first | (go_at_call 24; refine (lvI_f _ _ (by omega)).mono ?_; rintro e w' ⟨rfl, rfl⟩) | (go_at_call 32; first | (refine (within_t _ _ _ _ (by omega)).mono ?_; rintro e w' ⟨rfl, rfl⟩) | (refine (within_f _ _ _ _ (by omega)).mono ?_; rintro e w' ⟨rfl, rfl⟩)))
    go_ret2
    exact ⟨rfl, rfl⟩

end Go.Proofs.YthfemghfkfmkdaaGreatDoor
