/- Sluices: whether sluices, states and levels are valid; the flow: of the model and of the program. -/
import Derived.Test.YtcimigaimlojlaaSluP
import Derived.Test.YtcimigaimlojlaaIn
import Derived.IntWalk
namespace Go.Proofs.Ytcimigaimlojlaa
open Go.RowKit

theorem slvS_any (x : Int) (w : World) (v : Bool) (hv : v = decide (slv x)) : Calls Try.prog 47 #[.int .i64 x] w fun e w' => e = .returned (.bool v) ∧ w = w' := by
  by_cases h : -2000 ≤ x ∧ x ≤ 2000
  · obtain rfl : v = true := by rw [hv]; exact decide_eq_true h
    clear hv
    go_enter Try.func47, Try.ntmps47
    go_wp2_with (go_at_call 46; first | (refine (in_t _ _ _ _ (by omega)).mono ?_; rintro e w' ⟨rfl, rfl⟩) | (refine (in_f _ _ _ _ (by omega)).mono ?_; rintro e w' ⟨rfl, rfl⟩))
    go_ret
    exact ⟨rfl, rfl⟩
  · obtain rfl : v = false := by rw [hv]; exact decide_eq_false h
    have h' : x < -2000 ∨ 2000 < x := by omega
    clear hv h
    go_enter Try.func47, Try.ntmps47
    go_wp2_with (go_at_call 46; first | (refine (in_t _ _ _ _ (by omega)).mono ?_; rintro e w' ⟨rfl, rfl⟩) | (refine (in_f _ _ _ _ (by omega)).mono ?_; rintro e w' ⟨rfl, rfl⟩))
    go_ret
    exact ⟨rfl, rfl⟩

theorem slvI_any (x : Int) (w : World) (v : Bool) (hv : v = decide (slv x)) : Calls Try.prog 69 #[.int .i64 x] w fun e w' => e = .returned (.bool v) ∧ w = w' := by
  by_cases h : -2000 ≤ x ∧ x ≤ 2000
  · obtain rfl : v = true := by rw [hv]; exact decide_eq_true h
    clear hv
    go_enter Try.func69, Try.ntmps69
    go_wp2_with (go_at_call 55; first | (refine (within_t _ _ _ _ (by omega)).mono ?_; rintro e w' ⟨rfl, rfl⟩) | (refine (within_f _ _ _ _ (by omega)).mono ?_; rintro e w' ⟨rfl, rfl⟩))
    go_ret
    exact ⟨rfl, rfl⟩
  · obtain rfl : v = false := by rw [hv]; exact decide_eq_false h
    have h' : x < -2000 ∨ 2000 < x := by omega
    clear hv h
    go_enter Try.func69, Try.ntmps69
    go_wp2_with (go_at_call 55; first | (refine (within_t _ _ _ _ (by omega)).mono ?_; rintro e w' ⟨rfl, rfl⟩) | (refine (within_f _ _ _ _ (by omega)).mono ?_; rintro e w' ⟨rfl, rfl⟩))
    go_ret
    exact ⟨rfl, rfl⟩

set_option maxHeartbeats 800000 in
theorem sluS_any (wd sl : Int) (w : World) (v : Bool) (hv : v = decide (slOk wd sl)) : Calls Try.prog 44 #[.agg #[.int .i64 wd, .int .i64 sl]] w fun e w' => e = .returned (.bool v) ∧ Below w.heap.size w w' := by
  by_cases h1 : 1 ≤ wd ∧ wd ≤ 5000
  · by_cases h2 : slv sl
    · obtain rfl : v = true := by rw [hv]; exact decide_eq_true ⟨h1, h2⟩
      clear hv
      go_enter Try.func44, Try.ntmps44
      go_wp2_with (first | (go_at_call 46; first | (refine (in_t _ _ _ _ (by omega)).mono ?_; rintro e w' ⟨rfl, rfl⟩) | (refine (in_f _ _ _ _ (by omega)).mono ?_; rintro e w' ⟨rfl, rfl⟩)) | (go_at_call 47; refine (slvS_any _ _ true (by first | exact (decide_eq_true h2).symm | exact (decide_eq_false h2).symm)).mono ?_; rintro e w' ⟨rfl, rfl⟩))
      go_ret
      exact ⟨rfl, (by repeat (first | assumption | exact Below.refl _ _ | (refine Below.setCell ?_ (by first | omega | (simp; done) | (simp; omega)) _) | apply below_drewN | apply Below.drew | (refine Below.alloc ?_ (by first | omega | (simp; done) | (simp; omega)) _)))⟩
    · obtain rfl : v = false := by rw [hv]; exact decide_eq_false (fun h => h2 h.2)
      clear hv
      go_enter Try.func44, Try.ntmps44
      go_wp2_with (first | (go_at_call 46; first | (refine (in_t _ _ _ _ (by omega)).mono ?_; rintro e w' ⟨rfl, rfl⟩) | (refine (in_f _ _ _ _ (by omega)).mono ?_; rintro e w' ⟨rfl, rfl⟩)) | (go_at_call 47; refine (slvS_any _ _ false (by first | exact (decide_eq_true h2).symm | exact (decide_eq_false h2).symm)).mono ?_; rintro e w' ⟨rfl, rfl⟩))
      go_ret
      exact ⟨rfl, (by repeat (first | assumption | exact Below.refl _ _ | (refine Below.setCell ?_ (by first | omega | (simp; done) | (simp; omega)) _) | apply below_drewN | apply Below.drew | (refine Below.alloc ?_ (by first | omega | (simp; done) | (simp; omega)) _)))⟩
  · obtain rfl : v = false := by rw [hv]; exact decide_eq_false (fun h => h1 h.1)
    have h1' : wd < 1 ∨ 5000 < wd := by omega
    clear hv h1
    go_enter Try.func44, Try.ntmps44
    go_wp2_with (first | (go_at_call 46; first | (refine (in_t _ _ _ _ (by omega)).mono ?_; rintro e w' ⟨rfl, rfl⟩) | (refine (in_f _ _ _ _ (by omega)).mono ?_; rintro e w' ⟨rfl, rfl⟩)))
    go_ret
    exact ⟨rfl, (by repeat (first | assumption | exact Below.refl _ _ | (refine Below.setCell ?_ (by first | omega | (simp; done) | (simp; omega)) _) | apply below_drewN | apply Below.drew | (refine Below.alloc ?_ (by first | omega | (simp; done) | (simp; omega)) _)))⟩

set_option maxHeartbeats 800000 in
theorem sluI_any (wd sl : Int) (w : World) (v : Bool) (hv : v = decide (slOk wd sl)) : Calls Try.prog 41 #[.agg #[.int .i64 wd, .int .i64 sl]] w fun e w' => e = .returned (.bool v) ∧ Below w.heap.size w w' := by
  by_cases h1 : 1 ≤ wd ∧ wd ≤ 5000
  · by_cases h2 : slv sl
    · obtain rfl : v = true := by rw [hv]; exact decide_eq_true ⟨h1, h2⟩
      clear hv
      go_enter Try.func41, Try.ntmps41
      go_wp2_with (first | (go_at_call 55; first | (refine (within_t _ _ _ _ (by omega)).mono ?_; rintro e w' ⟨rfl, rfl⟩) | (refine (within_f _ _ _ _ (by omega)).mono ?_; rintro e w' ⟨rfl, rfl⟩)) | (go_at_call 69; refine (slvI_any _ _ true (by first | exact (decide_eq_true h2).symm | exact (decide_eq_false h2).symm)).mono ?_; rintro e w' ⟨rfl, rfl⟩))
      go_ret
      exact ⟨rfl, (by repeat (first | assumption | exact Below.refl _ _ | (refine Below.setCell ?_ (by first | omega | (simp; done) | (simp; omega)) _) | apply below_drewN | apply Below.drew | (refine Below.alloc ?_ (by first | omega | (simp; done) | (simp; omega)) _)))⟩
    · obtain rfl : v = false := by rw [hv]; exact decide_eq_false (fun h => h2 h.2)
      clear hv
      go_enter Try.func41, Try.ntmps41
      go_wp2_with (first | (go_at_call 55; first | (refine (within_t _ _ _ _ (by omega)).mono ?_; rintro e w' ⟨rfl, rfl⟩) | (refine (within_f _ _ _ _ (by omega)).mono ?_; rintro e w' ⟨rfl, rfl⟩)) | (go_at_call 69; refine (slvI_any _ _ false (by first | exact (decide_eq_true h2).symm | exact (decide_eq_false h2).symm)).mono ?_; rintro e w' ⟨rfl, rfl⟩))
      go_ret
      exact ⟨rfl, (by repeat (first | assumption | exact Below.refl _ _ | (refine Below.setCell ?_ (by first | omega | (simp; done) | (simp; omega)) _) | apply below_drewN | apply Below.drew | (refine Below.alloc ?_ (by first | omega | (simp; done) | (simp; omega)) _)))⟩
  · obtain rfl : v = false := by rw [hv]; exact decide_eq_false (fun h => h1 h.1)
    have h1' : wd < 1 ∨ 5000 < wd := by omega
    clear hv h1
    go_enter Try.func41, Try.ntmps41
    go_wp2_with (first | (go_at_call 55; first | (refine (within_t _ _ _ _ (by omega)).mono ?_; rintro e w' ⟨rfl, rfl⟩) | (refine (within_f _ _ _ _ (by omega)).mono ?_; rintro e w' ⟨rfl, rfl⟩)))
    go_ret
    exact ⟨rfl, (by repeat (first | assumption | exact Below.refl _ _ | (refine Below.setCell ?_ (by first | omega | (simp; done) | (simp; omega)) _) | apply below_drewN | apply Below.drew | (refine Below.alloc ?_ (by first | omega | (simp; done) | (simp; omega)) _)))⟩

set_option maxHeartbeats 800000 in
theorem gtS_any (op : Bool) (p m : Int) (w : World) (v : Bool) (hv : v = decide (gtOk p m)) : Calls Try.prog 45 #[.agg #[.bool op, .int .i64 p, .int .i64 m]] w fun e w' => e = .returned (.bool v) ∧ Below w.heap.size w w' := by
  by_cases h1 : 0 ≤ p ∧ p ≤ 1000000000
  · by_cases h2 : 0 ≤ m ∧ m ≤ 1000000
    · obtain rfl : v = true := by rw [hv]; exact decide_eq_true ⟨h1, h2⟩
      clear hv
      go_enter Try.func45, Try.ntmps45
      go_wp2_with (first | (go_at_call 46; first | (refine (in_t _ _ _ _ (by omega)).mono ?_; rintro e w' ⟨rfl, rfl⟩) | (refine (in_f _ _ _ _ (by omega)).mono ?_; rintro e w' ⟨rfl, rfl⟩)))
      go_ret
      exact ⟨rfl, (by repeat (first | assumption | exact Below.refl _ _ | (refine Below.setCell ?_ (by first | omega | (simp; done) | (simp; omega)) _) | apply below_drewN | apply Below.drew | (refine Below.alloc ?_ (by first | omega | (simp; done) | (simp; omega)) _)))⟩
    · obtain rfl : v = false := by rw [hv]; exact decide_eq_false (fun h => h2 h.2)
      have h2' : m < 0 ∨ 1000000 < m := by omega
      clear hv h2
      go_enter Try.func45, Try.ntmps45
      go_wp2_with (first | (go_at_call 46; first | (refine (in_t _ _ _ _ (by omega)).mono ?_; rintro e w' ⟨rfl, rfl⟩) | (refine (in_f _ _ _ _ (by omega)).mono ?_; rintro e w' ⟨rfl, rfl⟩)))
      go_ret
      exact ⟨rfl, (by repeat (first | assumption | exact Below.refl _ _ | (refine Below.setCell ?_ (by first | omega | (simp; done) | (simp; omega)) _) | apply below_drewN | apply Below.drew | (refine Below.alloc ?_ (by first | omega | (simp; done) | (simp; omega)) _)))⟩
  · obtain rfl : v = false := by rw [hv]; exact decide_eq_false (fun h => h1 h.1)
    have h1' : p < 0 ∨ 1000000000 < p := by omega
    clear hv h1
    go_enter Try.func45, Try.ntmps45
    go_wp2_with (first | (go_at_call 46; first | (refine (in_t _ _ _ _ (by omega)).mono ?_; rintro e w' ⟨rfl, rfl⟩) | (refine (in_f _ _ _ _ (by omega)).mono ?_; rintro e w' ⟨rfl, rfl⟩)))
    go_ret
    exact ⟨rfl, (by repeat (first | assumption | exact Below.refl _ _ | (refine Below.setCell ?_ (by first | omega | (simp; done) | (simp; omega)) _) | apply below_drewN | apply Below.drew | (refine Below.alloc ?_ (by first | omega | (simp; done) | (simp; omega)) _)))⟩

set_option maxHeartbeats 800000 in
theorem gtI_any (op : Bool) (p m : Int) (w : World) (v : Bool) (hv : v = decide (gtOk p m)) : Calls Try.prog 49 #[.agg #[.bool op, .int .i64 p, .int .i64 m]] w fun e w' => e = .returned (.bool v) ∧ Below w.heap.size w w' := by
  by_cases h1 : 0 ≤ p ∧ p ≤ 1000000000
  · by_cases h2 : 0 ≤ m ∧ m ≤ 1000000
    · obtain rfl : v = true := by rw [hv]; exact decide_eq_true ⟨h1, h2⟩
      clear hv
      go_enter Try.func49, Try.ntmps49
      go_wp2_with (first | (go_at_call 55; first | (refine (within_t _ _ _ _ (by omega)).mono ?_; rintro e w' ⟨rfl, rfl⟩) | (refine (within_f _ _ _ _ (by omega)).mono ?_; rintro e w' ⟨rfl, rfl⟩)))
      go_ret
      exact ⟨rfl, (by repeat (first | assumption | exact Below.refl _ _ | (refine Below.setCell ?_ (by first | omega | (simp; done) | (simp; omega)) _) | apply below_drewN | apply Below.drew | (refine Below.alloc ?_ (by first | omega | (simp; done) | (simp; omega)) _)))⟩
    · obtain rfl : v = false := by rw [hv]; exact decide_eq_false (fun h => h2 h.2)
      have h2' : m < 0 ∨ 1000000 < m := by omega
      clear hv h2
      go_enter Try.func49, Try.ntmps49
      go_wp2_with (first | (go_at_call 55; first | (refine (within_t _ _ _ _ (by omega)).mono ?_; rintro e w' ⟨rfl, rfl⟩) | (refine (within_f _ _ _ _ (by omega)).mono ?_; rintro e w' ⟨rfl, rfl⟩)))
      go_ret
      exact ⟨rfl, (by repeat (first | assumption | exact Below.refl _ _ | (refine Below.setCell ?_ (by first | omega | (simp; done) | (simp; omega)) _) | apply below_drewN | apply Below.drew | (refine Below.alloc ?_ (by first | omega | (simp; done) | (simp; omega)) _)))⟩
  · obtain rfl : v = false := by rw [hv]; exact decide_eq_false (fun h => h1 h.1)
    have h1' : p < 0 ∨ 1000000000 < p := by omega
    clear hv h1
    go_enter Try.func49, Try.ntmps49
    go_wp2_with (first | (go_at_call 55; first | (refine (within_t _ _ _ _ (by omega)).mono ?_; rintro e w' ⟨rfl, rfl⟩) | (refine (within_f _ _ _ _ (by omega)).mono ?_; rintro e w' ⟨rfl, rfl⟩)))
    go_ret
    exact ⟨rfl, (by repeat (first | assumption | exact Below.refl _ _ | (refine Below.setCell ?_ (by first | omega | (simp; done) | (simp; omega)) _) | apply below_drewN | apply Below.drew | (refine Below.alloc ?_ (by first | omega | (simp; done) | (simp; omega)) _)))⟩

theorem max_t (a b : Int) (w : World) : Calls Try.prog 57 #[.int .i64 a, .int .i64 b] w fun e w' => e = .returned (.int .i64 (max a b)) ∧ w = w' := by
  by_cases h : b < a
  · rw [show max a b = a by omega]
    go_enter Try.func57, Try.ntmps57
    go_wp2
    go_ret
    exact ⟨rfl, rfl⟩
  · rw [show max a b = b by omega]
    go_enter Try.func57, Try.ntmps57
    go_wp2
    go_ret
    exact ⟨rfl, rfl⟩

end Go.Proofs.Ytcimigaimlojlaa
