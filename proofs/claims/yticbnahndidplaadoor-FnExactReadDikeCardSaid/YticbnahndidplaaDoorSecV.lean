/- Dikes: whether sections are a dike, codes, lengths: of the model and of the program. -/
import Derived.Test.YticbnahndidplaaDoorDikeP
import Derived.Test.YticbnahndidplaaDoorIn
import Derived.IntWalk
namespace Go.Proofs.YticbnahndidplaaDoor
open Go.RowKit

instance (n : Nat) (xs : List RSection) : Decidable (DkOk n xs) := by unfold DkOk; exact inferInstance
def secOk (x : RSection) : Prop := 1 ≤ x.f0 ∧ x.f0 ≤ 10000 ∧ -2000 ≤ x.f1 ∧ x.f1 ≤ 2000
theorem getZs (xs : List RSection) (k : Nat) : ∃ x, x = xs.getD k zSection := ⟨_, rfl⟩
def dlv (y : Int) : Prop := -2000 ≤ y ∧ y ≤ 2000
instance (y : Int) : Decidable (dlv y) := by unfold dlv; exact inferInstance

theorem dlS_t (x : Int) (w : World) (h : -2000 ≤ x ∧ x ≤ 2000) : Calls Tryd.prog 68 #[.int .i64 x] w fun e w' => e = .returned (.bool true) ∧ w = w' := by
  go_enter Tryd.func68, Tryd.ntmps68
  go_wp2_with (go_at_call 35; first | (refine (in_t _ _ _ _ (by omega)).mono ?_; rintro e w' ⟨rfl, rfl⟩) | (refine (in_f _ _ _ _ (by omega)).mono ?_; rintro e w' ⟨rfl, rfl⟩))
  go_ret
  exact ⟨rfl, rfl⟩

theorem dlS_f (x : Int) (w : World) (h : ¬ (-2000 ≤ x ∧ x ≤ 2000)) : Calls Tryd.prog 68 #[.int .i64 x] w fun e w' => e = .returned (.bool false) ∧ w = w' := by
  go_enter Tryd.func68, Tryd.ntmps68
  go_wp2_with (go_at_call 35; first | (refine (in_t _ _ _ _ (by omega)).mono ?_; rintro e w' ⟨rfl, rfl⟩) | (refine (in_f _ _ _ _ (by omega)).mono ?_; rintro e w' ⟨rfl, rfl⟩))
  go_ret
  exact ⟨rfl, rfl⟩

theorem dlI_t (x : Int) (w : World) (h : -2000 ≤ x ∧ x ≤ 2000) : Calls Tryd.prog 91 #[.int .i64 x] w fun e w' => e = .returned (.bool true) ∧ w = w' := by
  go_enter Tryd.func91, Tryd.ntmps91
  go_wp2_with (go_at_call 66; first | (refine (within_t _ _ _ _ (by omega)).mono ?_; rintro e w' ⟨rfl, rfl⟩) | (refine (within_f _ _ _ _ (by omega)).mono ?_; rintro e w' ⟨rfl, rfl⟩))
  go_ret
  exact ⟨rfl, rfl⟩

theorem dlI_f (x : Int) (w : World) (h : ¬ (-2000 ≤ x ∧ x ≤ 2000)) : Calls Tryd.prog 91 #[.int .i64 x] w fun e w' => e = .returned (.bool false) ∧ w = w' := by
  go_enter Tryd.func91, Tryd.ntmps91
  go_wp2_with (go_at_call 66; first | (refine (within_t _ _ _ _ (by omega)).mono ?_; rintro e w' ⟨rfl, rfl⟩) | (refine (within_f _ _ _ _ (by omega)).mono ?_; rintro e w' ⟨rfl, rfl⟩))
  go_ret
  exact ⟨rfl, rfl⟩

theorem dlI_any (x : Int) (w : World) : Calls Tryd.prog 91 #[.int .i64 x] w fun e w' => e = .returned (.bool (decide (dlv x))) ∧ w = w' := by
  by_cases h : -2000 ≤ x ∧ x ≤ 2000
  · rw [show decide (dlv x) = true from decide_eq_true h]; exact dlI_t x w h
  · rw [show decide (dlv x) = false from decide_eq_false h]; exact dlI_f x w h

theorem dlS_any (x : Int) (w : World) : Calls Tryd.prog 68 #[.int .i64 x] w fun e w' => e = .returned (.bool (decide (dlv x))) ∧ w = w' := by
  by_cases h : -2000 ≤ x ∧ x ≤ 2000
  · rw [show decide (dlv x) = true from decide_eq_true h]; exact dlS_t x w h
  · rw [show decide (dlv x) = false from decide_eq_false h]; exact dlS_f x w h

instance (x : RSection) : Decidable (secOk x) := by unfold secOk; exact inferInstance
set_option maxHeartbeats 800000 in
theorem secV_any (x0 x1 : Int) (w : World) (v : Bool) (hv : v = decide (secOk ⟨x0, x1⟩)) : Calls Tryd.prog 89 #[.agg #[.int .i64 x0, .int .i64 x1]] w fun e w' => e = .returned (.bool v) ∧ Below w.heap.size w w' := by
  by_cases h0 : 1 ≤ x0 ∧ x0 ≤ 10000
  · by_cases h1 : -2000 ≤ x1 ∧ x1 ≤ 2000
    · obtain rfl : v = true := by rw [hv]; exact decide_eq_true ⟨h0.1, h0.2, h1.1, h1.2⟩
      clear hv
      go_enter Tryd.func89, Tryd.ntmps89
      go_wp2_with (first | (go_at_call 66; first | (refine (within_t _ _ _ _ (by omega)).mono ?_; rintro e w' ⟨rfl, rfl⟩) | (refine (within_f _ _ _ _ (by omega)).mono ?_; rintro e w' ⟨rfl, rfl⟩)) | (go_at_call 91; refine (dlI_t _ _ h1).mono ?_; rintro e w' ⟨rfl, rfl⟩))
      go_ret
      exact ⟨rfl, (by repeat (first | assumption | exact Below.refl _ _ | (refine Below.setCell ?_ (by first | omega | (simp; done) | (simp; omega)) _) | apply below_drewN | apply Below.drew | (refine Below.alloc ?_ (by first | omega | (simp; done) | (simp; omega)) _)))⟩
    · obtain rfl : v = false := by rw [hv]; exact decide_eq_false (fun h => h1 h.2.2)
      clear hv
      go_enter Tryd.func89, Tryd.ntmps89
      go_wp2_with (first | (go_at_call 66; first | (refine (within_t _ _ _ _ (by omega)).mono ?_; rintro e w' ⟨rfl, rfl⟩) | (refine (within_f _ _ _ _ (by omega)).mono ?_; rintro e w' ⟨rfl, rfl⟩)) | (go_at_call 91; refine (dlI_f _ _ h1).mono ?_; rintro e w' ⟨rfl, rfl⟩))
      go_ret
      exact ⟨rfl, (by repeat (first | assumption | exact Below.refl _ _ | (refine Below.setCell ?_ (by first | omega | (simp; done) | (simp; omega)) _) | apply below_drewN | apply Below.drew | (refine Below.alloc ?_ (by first | omega | (simp; done) | (simp; omega)) _)))⟩
  · obtain rfl : v = false := by rw [hv]; exact decide_eq_false (fun h => h0 ⟨h.1, h.2.1⟩)
    clear hv
    go_enter Tryd.func89, Tryd.ntmps89
    go_wp2_with (first | (go_at_call 66; first | (refine (within_t _ _ _ _ (by omega)).mono ?_; rintro e w' ⟨rfl, rfl⟩) | (refine (within_f _ _ _ _ (by omega)).mono ?_; rintro e w' ⟨rfl, rfl⟩)))
    go_ret
    exact ⟨rfl, (by repeat (first | assumption | exact Below.refl _ _ | (refine Below.setCell ?_ (by first | omega | (simp; done) | (simp; omega)) _) | apply below_drewN | apply Below.drew | (refine Below.alloc ?_ (by first | omega | (simp; done) | (simp; omega)) _)))⟩

end Go.Proofs.YticbnahndidplaaDoor
