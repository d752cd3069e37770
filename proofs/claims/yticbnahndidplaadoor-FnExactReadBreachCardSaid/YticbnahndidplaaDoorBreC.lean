/- Breaches: levels, stones, whether the numbers of a breach are in their ranges: of the model and of the program. -/
import Derived.Test.YticbnahndidplaaDoorBreP
import Derived.Test.YticbnahndidplaaDoorRBreach
import Derived.Test.YticbnahndidplaaDoorAw
namespace Go.Proofs.YticbnahndidplaaDoor
open Go.RowKit

theorem l02L_any (n : Int) (w : World) (v : Bool) (hv : v = decide (levOk n)) : Calls Tryd.prog 68 #[.int .i64 n] w fun e w' => e = .returned (.bool v) ∧ w = w' := by
  subst hv
  go_enter Tryd.func68, Tryd.ntmps68
  go_wp2_with (go_at_call 35; refine (in_any _ _ _ _).mono ?_; rintro e w' ⟨rfl, rfl⟩)
  go_ret
  exact ⟨ret_bool (by rw [Bool.eq_iff_iff, decide_eq_true_iff (p := levOk n)]; simp [levOk]), rfl⟩

theorem vlI_any (n : Int) (w : World) (v : Bool) (hv : v = decide (levOk n)) : Calls Tryd.prog 91 #[.int .i64 n] w fun e w' => e = .returned (.bool v) ∧ w = w' := by
  subst hv
  go_enter Tryd.func91, Tryd.ntmps91
  go_wp2_with (go_at_call 66; refine (within_any _ _ _ _).mono ?_; rintro e w' ⟨rfl, rfl⟩)
  go_ret
  exact ⟨ret_bool (by rw [Bool.eq_iff_iff, decide_eq_true_iff (p := levOk n)]; simp [levOk]), rfl⟩

theorem tl_of {a b c : Int} : decide (tlOk a b c) = (decide (0 ≤ a ∧ a ≤ 1000) && decide (levOk b) && decide (0 ≤ c ∧ c ≤ 1000000000)) := by
  unfold tlOk levOk
  by_cases h1 : 0 ≤ a ∧ a ≤ 1000 <;> by_cases h2 : -2000 ≤ b ∧ b ≤ 2000 <;> by_cases h3 : 0 ≤ c ∧ c ≤ 1000000000 <;> simp [h1, h2, h3]

set_option maxHeartbeats 800000 in
theorem tlS_any (a b c : Int) (w : World) (v : Bool) (hv : v = decide (tlOk a b c)) : Calls Tryd.prog 55 #[.agg #[.int .i64 a, .int .i64 b, .int .i64 c]] w fun e w' => e = .returned (.bool v) ∧ Below w.heap.size w w' := by
  obtain ⟨v1, h1⟩ : ∃ v1, v1 = decide (0 ≤ a ∧ a ≤ 1000) := ⟨_, rfl⟩
  obtain ⟨v2, h2⟩ : ∃ v2, v2 = decide (levOk b) := ⟨_, rfl⟩
  obtain ⟨v3, h3⟩ : ∃ v3, v3 = decide (0 ≤ c ∧ c ≤ 1000000000) := ⟨_, rfl⟩
  rw [tl_of, ← h1, ← h2, ← h3] at hv
  have H1 := Lib.hid h1
  have H2 := Lib.hid h2
  have H3 := Lib.hid h3
  subst hv
  clear h1 h2 h3
  cases v1
  · go_enter Tryd.func55, Tryd.ntmps55
    go_wp2_with (go_at_call 35; refine (in_any _ _ _ _).mono ?_; rintro e w' ⟨rfl, rfl⟩; rw [← H1.out])
    go_ret
    exact ⟨rfl, (by repeat (first | assumption | exact Below.refl _ _ | (refine Below.setCell ?_ (by first | omega | (simp; done) | (simp; omega)) _) | apply below_drewN | apply Below.drew | (refine Below.alloc ?_ (by first | omega | (simp; done) | (simp; omega)) _)))⟩
  · cases v2
    · go_enter Tryd.func55, Tryd.ntmps55
      go_wp2_with (first | (go_at_call 35; refine (in_any _ _ _ _).mono ?_; rintro e w' ⟨rfl, rfl⟩; rw [← H1.out]) | (go_at_call 68; refine (l02L_any _ _ _ H2.out).mono ?_; rintro e w' ⟨rfl, rfl⟩))
      go_ret
      exact ⟨rfl, (by repeat (first | assumption | exact Below.refl _ _ | (refine Below.setCell ?_ (by first | omega | (simp; done) | (simp; omega)) _) | apply below_drewN | apply Below.drew | (refine Below.alloc ?_ (by first | omega | (simp; done) | (simp; omega)) _)))⟩
    · go_enter Tryd.func55, Tryd.ntmps55
      go_wp2_with (first | (go_at_call 35; refine (in_any _ _ _ _).mono ?_; rintro e w' ⟨rfl, rfl⟩; first | rw [← H1.out] | rw [← H3.out]) | (go_at_call 68; refine (l02L_any _ _ _ H2.out).mono ?_; rintro e w' ⟨rfl, rfl⟩))
      go_ret
      exact ⟨rfl, (by repeat (first | assumption | exact Below.refl _ _ | (refine Below.setCell ?_ (by first | omega | (simp; done) | (simp; omega)) _) | apply below_drewN | apply Below.drew | (refine Below.alloc ?_ (by first | omega | (simp; done) | (simp; omega)) _)))⟩

set_option maxHeartbeats 800000 in
theorem tlI_any (a b c : Int) (w : World) (v : Bool) (hv : v = decide (tlOk a b c)) : Calls Tryd.prog 82 #[.agg #[.int .i64 a, .int .i64 b, .int .i64 c]] w fun e w' => e = .returned (.bool v) ∧ Below w.heap.size w w' := by
  obtain ⟨v1, h1⟩ : ∃ v1, v1 = decide (0 ≤ a ∧ a ≤ 1000) := ⟨_, rfl⟩
  obtain ⟨v2, h2⟩ : ∃ v2, v2 = decide (levOk b) := ⟨_, rfl⟩
  obtain ⟨v3, h3⟩ : ∃ v3, v3 = decide (0 ≤ c ∧ c ≤ 1000000000) := ⟨_, rfl⟩
  rw [tl_of, ← h1, ← h2, ← h3] at hv
  have H1 := Lib.hid h1
  have H2 := Lib.hid h2
  have H3 := Lib.hid h3
  subst hv
  clear h1 h2 h3
  cases v1
  · go_enter Tryd.func82, Tryd.ntmps82
    go_wp2_with (go_at_call 66; refine (within_any _ _ _ _).mono ?_; rintro e w' ⟨rfl, rfl⟩; rw [← H1.out])
    go_ret
    exact ⟨rfl, (by repeat (first | assumption | exact Below.refl _ _ | (refine Below.setCell ?_ (by first | omega | (simp; done) | (simp; omega)) _) | apply below_drewN | apply Below.drew | (refine Below.alloc ?_ (by first | omega | (simp; done) | (simp; omega)) _)))⟩
  · cases v2
    · go_enter Tryd.func82, Tryd.ntmps82
      go_wp2_with (first | (go_at_call 66; refine (within_any _ _ _ _).mono ?_; rintro e w' ⟨rfl, rfl⟩; rw [← H1.out]) | (go_at_call 91; refine (vlI_any _ _ _ H2.out).mono ?_; rintro e w' ⟨rfl, rfl⟩))
      go_ret
      exact ⟨rfl, (by repeat (first | assumption | exact Below.refl _ _ | (refine Below.setCell ?_ (by first | omega | (simp; done) | (simp; omega)) _) | apply below_drewN | apply Below.drew | (refine Below.alloc ?_ (by first | omega | (simp; done) | (simp; omega)) _)))⟩
    · go_enter Tryd.func82, Tryd.ntmps82
      go_wp2_with (first | (go_at_call 66; refine (within_any _ _ _ _).mono ?_; rintro e w' ⟨rfl, rfl⟩; first | rw [← H1.out] | rw [← H3.out]) | (go_at_call 91; refine (vlI_any _ _ _ H2.out).mono ?_; rintro e w' ⟨rfl, rfl⟩))
      go_ret
      exact ⟨rfl, (by repeat (first | assumption | exact Below.refl _ _ | (refine Below.setCell ?_ (by first | omega | (simp; done) | (simp; omega)) _) | apply below_drewN | apply Below.drew | (refine Below.alloc ?_ (by first | omega | (simp; done) | (simp; omega)) _)))⟩


end Go.Proofs.YticbnahndidplaaDoor
