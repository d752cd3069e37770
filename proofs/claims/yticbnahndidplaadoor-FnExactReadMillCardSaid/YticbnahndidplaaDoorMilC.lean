/- Mills: whether one is valid, whether a number is a force, what a mill lifts: of the model and of the program. -/
import Derived.Test.YticbnahndidplaaDoorMilP
import Derived.Test.YticbnahndidplaaDoorIn
import Derived.IntWalk
namespace Go.Proofs.YticbnahndidplaaDoor
open Go.RowKit

set_option maxHeartbeats 800000 in
theorem mlS_any (a b c d : Int) (w : World) (v : Bool) (hv : v = decide (mlOk a b c d)) : Calls Tryd.prog 51 #[.agg #[.int .i64 a, .int .i64 b, .int .i64 c, .int .i64 d]] w fun e w' => e = .returned (.bool v) ∧ Below w.heap.size w w' := by
  by_cases ha : 1 ≤ a ∧ a ≤ 500
  · by_cases hb : 1 ≤ b ∧ b ≤ 10000
    · by_cases hd : 1 ≤ d ∧ d ≤ 12
      · by_cases hc : 1 ≤ c ∧ c ≤ d
        · obtain rfl : v = true := by rw [hv]; exact decide_eq_true ⟨ha, hb, hc, by omega⟩
          clear hv
          go_enter Tryd.func51, Tryd.ntmps51
          go_wp2_with (first | (go_at_call 35; first | (refine (in_t _ _ _ _ (by omega)).mono ?_; rintro e w' ⟨rfl, rfl⟩) | (refine (in_f _ _ _ _ (by omega)).mono ?_; rintro e w' ⟨rfl, rfl⟩)))
          go_ret
          exact ⟨rfl, (by repeat (first | assumption | exact Below.refl _ _ | (refine Below.setCell ?_ (by first | omega | (simp; done) | (simp; omega)) _) | apply below_drewN | apply Below.drew | (refine Below.alloc ?_ (by first | omega | (simp; done) | (simp; omega)) _)))⟩
        · obtain rfl : v = false := by rw [hv]; exact decide_eq_false (fun h => hc h.2.2.1)
          have h' : c < 1 ∨ d < c := by omega
          clear hv hc
          go_enter Tryd.func51, Tryd.ntmps51
          go_wp2_with (first | (go_at_call 35; first | (refine (in_t _ _ _ _ (by omega)).mono ?_; rintro e w' ⟨rfl, rfl⟩) | (refine (in_f _ _ _ _ (by omega)).mono ?_; rintro e w' ⟨rfl, rfl⟩)))
          go_ret
          exact ⟨rfl, (by repeat (first | assumption | exact Below.refl _ _ | (refine Below.setCell ?_ (by first | omega | (simp; done) | (simp; omega)) _) | apply below_drewN | apply Below.drew | (refine Below.alloc ?_ (by first | omega | (simp; done) | (simp; omega)) _)))⟩
      · obtain rfl : v = false := by rw [hv]; exact decide_eq_false (fun h => hd (⟨by have := h.2.2.1; omega, h.2.2.2⟩ : 1 ≤ d ∧ d ≤ 12))
        have h' : d < 1 ∨ 12 < d := by omega
        clear hv hd
        go_enter Tryd.func51, Tryd.ntmps51
        go_wp2_with (first | (go_at_call 35; first | (refine (in_t _ _ _ _ (by omega)).mono ?_; rintro e w' ⟨rfl, rfl⟩) | (refine (in_f _ _ _ _ (by omega)).mono ?_; rintro e w' ⟨rfl, rfl⟩)))
        go_ret
        exact ⟨rfl, (by repeat (first | assumption | exact Below.refl _ _ | (refine Below.setCell ?_ (by first | omega | (simp; done) | (simp; omega)) _) | apply below_drewN | apply Below.drew | (refine Below.alloc ?_ (by first | omega | (simp; done) | (simp; omega)) _)))⟩
    · obtain rfl : v = false := by rw [hv]; exact decide_eq_false (fun h => hb h.2.1)
      have h' : b < 1 ∨ 10000 < b := by omega
      clear hv hb
      go_enter Tryd.func51, Tryd.ntmps51
      go_wp2_with (first | (go_at_call 35; first | (refine (in_t _ _ _ _ (by omega)).mono ?_; rintro e w' ⟨rfl, rfl⟩) | (refine (in_f _ _ _ _ (by omega)).mono ?_; rintro e w' ⟨rfl, rfl⟩)))
      go_ret
      exact ⟨rfl, (by repeat (first | assumption | exact Below.refl _ _ | (refine Below.setCell ?_ (by first | omega | (simp; done) | (simp; omega)) _) | apply below_drewN | apply Below.drew | (refine Below.alloc ?_ (by first | omega | (simp; done) | (simp; omega)) _)))⟩
  · obtain rfl : v = false := by rw [hv]; exact decide_eq_false (fun h => ha h.1)
    have h' : a < 1 ∨ 500 < a := by omega
    clear hv ha
    go_enter Tryd.func51, Tryd.ntmps51
    go_wp2_with (first | (go_at_call 35; first | (refine (in_t _ _ _ _ (by omega)).mono ?_; rintro e w' ⟨rfl, rfl⟩) | (refine (in_f _ _ _ _ (by omega)).mono ?_; rintro e w' ⟨rfl, rfl⟩)))
    go_ret
    exact ⟨rfl, (by repeat (first | assumption | exact Below.refl _ _ | (refine Below.setCell ?_ (by first | omega | (simp; done) | (simp; omega)) _) | apply below_drewN | apply Below.drew | (refine Below.alloc ?_ (by first | omega | (simp; done) | (simp; omega)) _)))⟩

set_option maxHeartbeats 800000 in
theorem mlI_any (a b c d : Int) (w : World) (v : Bool) (hv : v = decide (mlOk a b c d)) : Calls Tryd.prog 80 #[.agg #[.int .i64 a, .int .i64 b, .int .i64 c, .int .i64 d]] w fun e w' => e = .returned (.bool v) ∧ Below w.heap.size w w' := by
  by_cases ha : 1 ≤ a ∧ a ≤ 500
  · by_cases hb : 1 ≤ b ∧ b ≤ 10000
    · by_cases hc : 1 ≤ c ∧ c ≤ d
      · by_cases he : d ≤ 12
        · obtain rfl : v = true := by rw [hv]; exact decide_eq_true ⟨ha, hb, hc, by omega⟩
          clear hv
          have e9 : decide (d ≤ 12) = true := decide_eq_true he
          go_enter Tryd.func80, Tryd.ntmps80
          go_wp2_with (first | (go_at_call 66; first | (refine (within_t _ _ _ _ (by omega)).mono ?_; rintro e w' ⟨rfl, rfl⟩) | (refine (within_f _ _ _ _ (by omega)).mono ?_; rintro e w' ⟨rfl, rfl⟩)))
          go_ret
          exact ⟨rfl, (by repeat (first | assumption | exact Below.refl _ _ | (refine Below.setCell ?_ (by first | omega | (simp; done) | (simp; omega)) _) | apply below_drewN | apply Below.drew | (refine Below.alloc ?_ (by first | omega | (simp; done) | (simp; omega)) _)))⟩
        · obtain rfl : v = false := by rw [hv]; exact decide_eq_false (fun h => he h.2.2.2)
          have h' : 12 < d := by omega
          have e9 : decide (d ≤ 12) = false := decide_eq_false he
          clear hv he
          go_enter Tryd.func80, Tryd.ntmps80
          go_wp2_with (first | (go_at_call 66; first | (refine (within_t _ _ _ _ (by omega)).mono ?_; rintro e w' ⟨rfl, rfl⟩) | (refine (within_f _ _ _ _ (by omega)).mono ?_; rintro e w' ⟨rfl, rfl⟩)))
          go_ret
          exact ⟨rfl, (by repeat (first | assumption | exact Below.refl _ _ | (refine Below.setCell ?_ (by first | omega | (simp; done) | (simp; omega)) _) | apply below_drewN | apply Below.drew | (refine Below.alloc ?_ (by first | omega | (simp; done) | (simp; omega)) _)))⟩
      · obtain rfl : v = false := by rw [hv]; exact decide_eq_false (fun h => hc h.2.2.1)
        have h' : c < 1 ∨ d < c := by omega
        clear hv hc
        go_enter Tryd.func80, Tryd.ntmps80
        go_wp2_with (first | (go_at_call 66; first | (refine (within_t _ _ _ _ (by omega)).mono ?_; rintro e w' ⟨rfl, rfl⟩) | (refine (within_f _ _ _ _ (by omega)).mono ?_; rintro e w' ⟨rfl, rfl⟩)))
        go_ret
        exact ⟨rfl, (by repeat (first | assumption | exact Below.refl _ _ | (refine Below.setCell ?_ (by first | omega | (simp; done) | (simp; omega)) _) | apply below_drewN | apply Below.drew | (refine Below.alloc ?_ (by first | omega | (simp; done) | (simp; omega)) _)))⟩
    · obtain rfl : v = false := by rw [hv]; exact decide_eq_false (fun h => hb h.2.1)
      have h' : b < 1 ∨ 10000 < b := by omega
      clear hv hb
      go_enter Tryd.func80, Tryd.ntmps80
      go_wp2_with (first | (go_at_call 66; first | (refine (within_t _ _ _ _ (by omega)).mono ?_; rintro e w' ⟨rfl, rfl⟩) | (refine (within_f _ _ _ _ (by omega)).mono ?_; rintro e w' ⟨rfl, rfl⟩)))
      go_ret
      exact ⟨rfl, (by repeat (first | assumption | exact Below.refl _ _ | (refine Below.setCell ?_ (by first | omega | (simp; done) | (simp; omega)) _) | apply below_drewN | apply Below.drew | (refine Below.alloc ?_ (by first | omega | (simp; done) | (simp; omega)) _)))⟩
  · obtain rfl : v = false := by rw [hv]; exact decide_eq_false (fun h => ha h.1)
    have h' : a < 1 ∨ 500 < a := by omega
    clear hv ha
    go_enter Tryd.func80, Tryd.ntmps80
    go_wp2_with (first | (go_at_call 66; first | (refine (within_t _ _ _ _ (by omega)).mono ?_; rintro e w' ⟨rfl, rfl⟩) | (refine (within_f _ _ _ _ (by omega)).mono ?_; rintro e w' ⟨rfl, rfl⟩)))
    go_ret
    exact ⟨rfl, (by repeat (first | assumption | exact Below.refl _ _ | (refine Below.setCell ?_ (by first | omega | (simp; done) | (simp; omega)) _) | apply below_drewN | apply Below.drew | (refine Below.alloc ?_ (by first | omega | (simp; done) | (simp; omega)) _)))⟩


end Go.Proofs.YticbnahndidplaaDoor
