/- Mills: whether one is valid, whether a number is a force, what a mill lifts: of the model and of the program. -/
import Derived.Test.YtlkgbemlagfdjaaMilP
import Derived.Test.YtlkgbemlagfdjaaIn
import Derived.IntWalk
namespace Go.Proofs.Ytlkgbemlagfdjaa
open Go.RowKit

theorem cf4 (v r : Bool) (w : World) (k : Int) (hk : k = if v then (if r then 0 else 2) else 1) : Calls Try.prog 55 #[.bool v, .bool r] w fun e w' => e = .returned (.int .i64 k) ∧ w = w' := by
  subst hk
  cases v <;> cases r
  all_goals
    go_enter Try.func55, Try.ntmps55
    go_wp2
    go_ret
    exact ⟨rfl, rfl⟩

set_option maxHeartbeats 800000 in
theorem mlS_any (a b c d : Int) (w : World) (v : Bool) (hv : v = decide (mlOk a b c d)) : Calls Try.prog 51 #[.agg #[.int .i64 a, .int .i64 b, .int .i64 c, .int .i64 d]] w fun e w' => e = .returned (.bool v) ∧ Below w.heap.size w w' := by
  by_cases ha : 1 ≤ a ∧ a ≤ 500
  · by_cases hb : 1 ≤ b ∧ b ≤ 10000
    · by_cases hd : 1 ≤ d ∧ d ≤ 12
      · by_cases hc : 1 ≤ c ∧ c ≤ d
        · obtain rfl : v = true := by rw [hv]; exact decide_eq_true ⟨ha, hb, hc, by omega⟩
          clear hv
          go_enter Try.func51, Try.ntmps51
          go_wp2_with (first | (go_at_call 91; first | (refine (in_t _ _ _ _ (by omega)).mono ?_; rintro e w' ⟨rfl, rfl⟩) | (refine (in_f _ _ _ _ (by omega)).mono ?_; rintro e w' ⟨rfl, rfl⟩)))
          go_ret
          exact ⟨rfl, (by repeat (first | assumption | exact Below.refl _ _ | (refine Below.setCell ?_ (by first | omega | (simp; done) | (simp; omega)) _) | apply below_drewN | apply Below.drew | (refine Below.alloc ?_ (by first | omega | (simp; done) | (simp; omega)) _)))⟩
        · obtain rfl : v = false := by rw [hv]; exact decide_eq_false (fun h => hc h.2.2.1)
          have h' : c < 1 ∨ d < c := by omega
          clear hv hc
          go_enter Try.func51, Try.ntmps51
          go_wp2_with (first | (go_at_call 91; first | (refine (in_t _ _ _ _ (by omega)).mono ?_; rintro e w' ⟨rfl, rfl⟩) | (refine (in_f _ _ _ _ (by omega)).mono ?_; rintro e w' ⟨rfl, rfl⟩)))
          go_ret
          exact ⟨rfl, (by repeat (first | assumption | exact Below.refl _ _ | (refine Below.setCell ?_ (by first | omega | (simp; done) | (simp; omega)) _) | apply below_drewN | apply Below.drew | (refine Below.alloc ?_ (by first | omega | (simp; done) | (simp; omega)) _)))⟩
      · obtain rfl : v = false := by rw [hv]; exact decide_eq_false (fun h => hd (⟨by have := h.2.2.1; omega, h.2.2.2⟩ : 1 ≤ d ∧ d ≤ 12))
        have h' : d < 1 ∨ 12 < d := by omega
        clear hv hd
        go_enter Try.func51, Try.ntmps51
        go_wp2_with (first | (go_at_call 91; first | (refine (in_t _ _ _ _ (by omega)).mono ?_; rintro e w' ⟨rfl, rfl⟩) | (refine (in_f _ _ _ _ (by omega)).mono ?_; rintro e w' ⟨rfl, rfl⟩)))
        go_ret
        exact ⟨rfl, (by repeat (first | assumption | exact Below.refl _ _ | (refine Below.setCell ?_ (by first | omega | (simp; done) | (simp; omega)) _) | apply below_drewN | apply Below.drew | (refine Below.alloc ?_ (by first | omega | (simp; done) | (simp; omega)) _)))⟩
    · obtain rfl : v = false := by rw [hv]; exact decide_eq_false (fun h => hb h.2.1)
      have h' : b < 1 ∨ 10000 < b := by omega
      clear hv hb
      go_enter Try.func51, Try.ntmps51
      go_wp2_with (first | (go_at_call 91; first | (refine (in_t _ _ _ _ (by omega)).mono ?_; rintro e w' ⟨rfl, rfl⟩) | (refine (in_f _ _ _ _ (by omega)).mono ?_; rintro e w' ⟨rfl, rfl⟩)))
      go_ret
      exact ⟨rfl, (by repeat (first | assumption | exact Below.refl _ _ | (refine Below.setCell ?_ (by first | omega | (simp; done) | (simp; omega)) _) | apply below_drewN | apply Below.drew | (refine Below.alloc ?_ (by first | omega | (simp; done) | (simp; omega)) _)))⟩
  · obtain rfl : v = false := by rw [hv]; exact decide_eq_false (fun h => ha h.1)
    have h' : a < 1 ∨ 500 < a := by omega
    clear hv ha
    go_enter Try.func51, Try.ntmps51
    go_wp2_with (first | (go_at_call 91; first | (refine (in_t _ _ _ _ (by omega)).mono ?_; rintro e w' ⟨rfl, rfl⟩) | (refine (in_f _ _ _ _ (by omega)).mono ?_; rintro e w' ⟨rfl, rfl⟩)))
    go_ret
    exact ⟨rfl, (by repeat (first | assumption | exact Below.refl _ _ | (refine Below.setCell ?_ (by first | omega | (simp; done) | (simp; omega)) _) | apply below_drewN | apply Below.drew | (refine Below.alloc ?_ (by first | omega | (simp; done) | (simp; omega)) _)))⟩

set_option maxHeartbeats 800000 in
theorem mlI_any (a b c d : Int) (w : World) (v : Bool) (hv : v = decide (mlOk a b c d)) : Calls Try.prog 17 #[.agg #[.int .i64 a, .int .i64 b, .int .i64 c, .int .i64 d]] w fun e w' => e = .returned (.bool v) ∧ Below w.heap.size w w' := by
  by_cases ha : 1 ≤ a ∧ a ≤ 500
  · by_cases hb : 1 ≤ b ∧ b ≤ 10000
    · by_cases hc : 1 ≤ c ∧ c ≤ d
      · by_cases he : d ≤ 12
        · obtain rfl : v = true := by rw [hv]; exact decide_eq_true ⟨ha, hb, hc, by omega⟩
          clear hv
          have e9 : decide (d ≤ 12) = true := decide_eq_true he
          go_enter Try.func17, Try.ntmps17
          go_wp2_with (first | (go_at_call 52; first | (refine (within_t _ _ _ _ (by omega)).mono ?_; rintro e w' ⟨rfl, rfl⟩) | (refine (within_f _ _ _ _ (by omega)).mono ?_; rintro e w' ⟨rfl, rfl⟩)))
          go_ret
          exact ⟨rfl, (by repeat (first | assumption | exact Below.refl _ _ | (refine Below.setCell ?_ (by first | omega | (simp; done) | (simp; omega)) _) | apply below_drewN | apply Below.drew | (refine Below.alloc ?_ (by first | omega | (simp; done) | (simp; omega)) _)))⟩
        · obtain rfl : v = false := by rw [hv]; exact decide_eq_false (fun h => he h.2.2.2)
          have h' : 12 < d := by omega
          have e9 : decide (d ≤ 12) = false := decide_eq_false he
          clear hv he
          go_enter Try.func17, Try.ntmps17
          go_wp2_with (first | (go_at_call 52; first | (refine (within_t _ _ _ _ (by omega)).mono ?_; rintro e w' ⟨rfl, rfl⟩) | (refine (within_f _ _ _ _ (by omega)).mono ?_; rintro e w' ⟨rfl, rfl⟩)))
          go_ret
          exact ⟨rfl, (by repeat (first | assumption | exact Below.refl _ _ | (refine Below.setCell ?_ (by first | omega | (simp; done) | (simp; omega)) _) | apply below_drewN | apply Below.drew | (refine Below.alloc ?_ (by first | omega | (simp; done) | (simp; omega)) _)))⟩
      · obtain rfl : v = false := by rw [hv]; exact decide_eq_false (fun h => hc h.2.2.1)
        have h' : c < 1 ∨ d < c := by omega
        clear hv hc
        go_enter Try.func17, Try.ntmps17
        go_wp2_with (first | (go_at_call 52; first | (refine (within_t _ _ _ _ (by omega)).mono ?_; rintro e w' ⟨rfl, rfl⟩) | (refine (within_f _ _ _ _ (by omega)).mono ?_; rintro e w' ⟨rfl, rfl⟩)))
        go_ret
        exact ⟨rfl, (by repeat (first | assumption | exact Below.refl _ _ | (refine Below.setCell ?_ (by first | omega | (simp; done) | (simp; omega)) _) | apply below_drewN | apply Below.drew | (refine Below.alloc ?_ (by first | omega | (simp; done) | (simp; omega)) _)))⟩
    · obtain rfl : v = false := by rw [hv]; exact decide_eq_false (fun h => hb h.2.1)
      have h' : b < 1 ∨ 10000 < b := by omega
      clear hv hb
      go_enter Try.func17, Try.ntmps17
      go_wp2_with (first | (go_at_call 52; first | (refine (within_t _ _ _ _ (by omega)).mono ?_; rintro e w' ⟨rfl, rfl⟩) | (refine (within_f _ _ _ _ (by omega)).mono ?_; rintro e w' ⟨rfl, rfl⟩)))
      go_ret
      exact ⟨rfl, (by repeat (first | assumption | exact Below.refl _ _ | (refine Below.setCell ?_ (by first | omega | (simp; done) | (simp; omega)) _) | apply below_drewN | apply Below.drew | (refine Below.alloc ?_ (by first | omega | (simp; done) | (simp; omega)) _)))⟩
  · obtain rfl : v = false := by rw [hv]; exact decide_eq_false (fun h => ha h.1)
    have h' : a < 1 ∨ 500 < a := by omega
    clear hv ha
    go_enter Try.func17, Try.ntmps17
    go_wp2_with (first | (go_at_call 52; first | (refine (within_t _ _ _ _ (by omega)).mono ?_; rintro e w' ⟨rfl, rfl⟩) | (refine (within_f _ _ _ _ (by omega)).mono ?_; rintro e w' ⟨rfl, rfl⟩)))
    go_ret
    exact ⟨rfl, (by repeat (first | assumption | exact Below.refl _ _ | (refine Below.setCell ?_ (by first | omega | (simp; done) | (simp; omega)) _) | apply below_drewN | apply Below.drew | (refine Below.alloc ?_ (by first | omega | (simp; done) | (simp; omega)) _)))⟩

theorem fcS_any (x : Int) (w : World) (v : Bool) (hv : v = decide (fcOk x)) : Calls Try.prog 53 #[.int .i64 x] w fun e w' => e = .returned (.bool v) ∧ w = w' := by
  by_cases h : 0 ≤ x ∧ x ≤ 12
  · obtain rfl : v = true := by rw [hv]; exact decide_eq_true h
    clear hv
    go_enter Try.func53, Try.ntmps53
    go_wp2_with (go_at_call 91; first | (refine (in_t _ _ _ _ (by omega)).mono ?_; rintro e w' ⟨rfl, rfl⟩) | (refine (in_f _ _ _ _ (by omega)).mono ?_; rintro e w' ⟨rfl, rfl⟩))
    go_ret
    exact ⟨rfl, rfl⟩
  · obtain rfl : v = false := by rw [hv]; exact decide_eq_false h
    have h' : x < 0 ∨ 12 < x := by omega
    clear hv h
    go_enter Try.func53, Try.ntmps53
    go_wp2_with (go_at_call 91; first | (refine (in_t _ _ _ _ (by omega)).mono ?_; rintro e w' ⟨rfl, rfl⟩) | (refine (in_f _ _ _ _ (by omega)).mono ?_; rintro e w' ⟨rfl, rfl⟩))
    go_ret
    exact ⟨rfl, rfl⟩

theorem fcI_any (x : Int) (w : World) (v : Bool) (hv : v = decide (fcOk x)) : Calls Try.prog 56 #[.int .i64 x] w fun e w' => e = .returned (.bool v) ∧ w = w' := by
  by_cases h : 0 ≤ x ∧ x ≤ 12
  · obtain rfl : v = true := by rw [hv]; exact decide_eq_true h
    clear hv
    go_enter Try.func56, Try.ntmps56
    go_wp2_with (go_at_call 52; first | (refine (within_t _ _ _ _ (by omega)).mono ?_; rintro e w' ⟨rfl, rfl⟩) | (refine (within_f _ _ _ _ (by omega)).mono ?_; rintro e w' ⟨rfl, rfl⟩))
    go_ret
    exact ⟨rfl, rfl⟩
  · obtain rfl : v = false := by rw [hv]; exact decide_eq_false h
    have h' : x < 0 ∨ 12 < x := by omega
    clear hv h
    go_enter Try.func56, Try.ntmps56
    go_wp2_with (go_at_call 52; first | (refine (within_t _ _ _ _ (by omega)).mono ?_; rintro e w' ⟨rfl, rfl⟩) | (refine (within_f _ _ _ _ (by omega)).mono ?_; rintro e w' ⟨rfl, rfl⟩))
    go_ret
    exact ⟨rfl, rfl⟩

set_option maxHeartbeats 1600000 in
theorem rtS_t (a b c d x : Int) (w : World) (h : mlOk a b c d) (hx : fcOk x) (q : Int) (hq : q = mlR b c d x) : Calls Try.prog 54 #[.agg #[.int .i64 a, .int .i64 b, .int .i64 c, .int .i64 d], .int .i64 x] w fun e w' => e = .returned (.int .i64 q) ∧ Below w.heap.size w w' := by
  obtain ⟨g1, g2⟩ := mlR_bd h x
  obtain ⟨⟨a1, a2⟩, ⟨b1, b2⟩, ⟨c1, c2⟩, d2⟩ := id h
  obtain ⟨x1, x2⟩ := hx
  by_cases hf : c ≤ x ∧ x ≤ d
  · obtain ⟨m1, m2, m3⟩ := mlM_bd h hf
    obtain ⟨f1, f2⟩ := id hf
    rw [mlR_in hf] at hq g1 g2
    have HQ := Lib.hid hq
    clear hq h
    have i1 := IntWalk.i64_in (x - c) (by omega)
    have i2 := IntWalk.i64_in (x - c + 1) (by omega)
    have i3 := IntWalk.i64_in (d - c) (by omega)
    have i4 := IntWalk.i64_in (d - c + 1) (by omega)
    have i5 := IntWalk.i64_in (b * (x - c + 1)) (by omega)
    have i6 := IntWalk.i64_in (b * (x - c + 1) / (d - c + 1)) (by omega)
    have n0 : ¬ d - c + 1 = 0 := by omega
    go_enter Try.func54, Try.ntmps54
    go_wp2_with (first | (go_at_call 91; first | (refine (in_t _ _ _ _ (by omega)).mono ?_; rintro e w' ⟨rfl, rfl⟩) | (refine (in_f _ _ _ _ (by omega)).mono ?_; rintro e w' ⟨rfl, rfl⟩)))
    go_ret
    exact ⟨ret_int HQ.out.symm, (by repeat (first | assumption | exact Below.refl _ _ | (refine Below.setCell ?_ (by first | omega | (simp; done) | (simp; omega)) _) | apply below_drewN | apply Below.drew | (refine Below.alloc ?_ (by first | omega | (simp; done) | (simp; omega)) _)))⟩
  · rw [mlR_out hf] at hq
    subst hq
    have h' : x < c ∨ d < x := by omega
    clear h hf
    go_enter Try.func54, Try.ntmps54
    go_wp2_with (first | (go_at_call 91; first | (refine (in_t _ _ _ _ (by omega)).mono ?_; rintro e w' ⟨rfl, rfl⟩) | (refine (in_f _ _ _ _ (by omega)).mono ?_; rintro e w' ⟨rfl, rfl⟩)))
    go_ret
    exact ⟨rfl, (by repeat (first | assumption | exact Below.refl _ _ | (refine Below.setCell ?_ (by first | omega | (simp; done) | (simp; omega)) _) | apply below_drewN | apply Below.drew | (refine Below.alloc ?_ (by first | omega | (simp; done) | (simp; omega)) _)))⟩

set_option maxHeartbeats 1600000 in
theorem rtI_t (a b c d x : Int) (w : World) (h : mlOk a b c d) (hx : fcOk x) (q : Int) (hq : q = mlR b c d x) : Calls Try.prog 57 #[.agg #[.int .i64 a, .int .i64 b, .int .i64 c, .int .i64 d], .int .i64 x] w fun e w' => e = .returned (.int .i64 q) ∧ Below w.heap.size w w' := by
  obtain ⟨g1, g2⟩ := mlR_bd h x
  obtain ⟨⟨a1, a2⟩, ⟨b1, b2⟩, ⟨c1, c2⟩, d2⟩ := id h
  obtain ⟨x1, x2⟩ := hx
  by_cases hf : c ≤ x ∧ x ≤ d
  · obtain ⟨m1, m2, m3⟩ := mlM_bd h hf
    obtain ⟨f1, f2⟩ := id hf
    rw [mlR_in hf] at hq g1 g2
    have HQ := Lib.hid hq
    clear hq h
    have i1 := IntWalk.i64_in (x - c) (by omega)
    have i2 := IntWalk.i64_in (x - c + 1) (by omega)
    have i3 := IntWalk.i64_in (d - c) (by omega)
    have i4 := IntWalk.i64_in (d - c + 1) (by omega)
    have i5 := IntWalk.i64_in (b * (x - c + 1)) (by omega)
    have i6 := IntWalk.i64_in (b * (x - c + 1) / (d - c + 1)) (by omega)
    have n0 : ¬ d - c + 1 = 0 := by omega
    go_enter Try.func57, Try.ntmps57
    go_wp2_with (first | (go_at_call 52; first | (refine (within_t _ _ _ _ (by omega)).mono ?_; rintro e w' ⟨rfl, rfl⟩) | (refine (within_f _ _ _ _ (by omega)).mono ?_; rintro e w' ⟨rfl, rfl⟩)))
    go_ret
    exact ⟨ret_int HQ.out.symm, (by repeat (first | assumption | exact Below.refl _ _ | (refine Below.setCell ?_ (by first | omega | (simp; done) | (simp; omega)) _) | apply below_drewN | apply Below.drew | (refine Below.alloc ?_ (by first | omega | (simp; done) | (simp; omega)) _)))⟩
  · rw [mlR_out hf] at hq
    subst hq
    have h' : x < c ∨ d < x := by omega
    clear h hf
    go_enter Try.func57, Try.ntmps57
    go_wp2_with (first | (go_at_call 52; first | (refine (within_t _ _ _ _ (by omega)).mono ?_; rintro e w' ⟨rfl, rfl⟩) | (refine (within_f _ _ _ _ (by omega)).mono ?_; rintro e w' ⟨rfl, rfl⟩)))
    go_ret
    exact ⟨rfl, (by repeat (first | assumption | exact Below.refl _ _ | (refine Below.setCell ?_ (by first | omega | (simp; done) | (simp; omega)) _) | apply below_drewN | apply Below.drew | (refine Below.alloc ?_ (by first | omega | (simp; done) | (simp; omega)) _)))⟩


end Go.Proofs.Ytlkgbemlagfdjaa
