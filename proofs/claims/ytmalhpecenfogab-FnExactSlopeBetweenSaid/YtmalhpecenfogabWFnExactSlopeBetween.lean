import Derived.Test.YtmalhpecenfogabFrac
namespace Go.Proofs.Ytmalhpecenfogab
open Go.RowKit

set_option maxHeartbeats 400000 in
theorem spec_slope (a b m : Int) (w : World) (v1 : -2000 ≤ a) (v2 : a ≤ 2000) (v3 : -2000 ≤ b) (v4 : b ≤ 2000) (v5 : 1 ≤ m) (v6 : m ≤ 100000) :
    Calls Try.prog 17 #[.int .i64 a, .int .i64 b, .int .i64 m] w fun e w' => e = .returned (.tuple #[.agg #[.int .i64 (fnum (b - a) m), .int .i64 (fden (b - a) m)], .int .i64 0]) ∧ Below w.heap.size w w' := by
  go_enter Try.func17, Try.ntmps17
  go_wp2_with (first | (go_at_call 36; refine (spec_make _ _ _ (by omega) (by omega) (by omega) (by omega)).mono ?_; rintro e x1 ⟨rfl, hb⟩; obtain ⟨hc, hf⟩ := bcell hb; have hz := hb.size; simp at hz) | (go_at_call 28; first | (refine (in_t _ _ _ _ (by omega)).mono ?_; rintro e w' ⟨rfl, rfl⟩) | (refine (in_f _ _ _ _ (by omega)).mono ?_; rintro e w' ⟨rfl, rfl⟩)) | go_in)
  exact bodyPost_ret (v := .tuple #[.agg #[.int .i64 (fnum (b - a) m), .int .i64 (fden (b - a) m)], .int .i64 0]) (by simp [results, Try.results17, go_sem, hc, hz]) rfl ⟨rfl, by
    refine Below.setCell (Below.setCell (Below.trans ?_ (hb.mono (by simp))) (by simp) _) (by simp) _
    exact (by repeat (first | assumption | exact Below.refl _ _ | (refine Below.setCell ?_ (by simp) _) | apply below_drewN | apply Below.drew | (refine Below.alloc ?_ (by simp) _)))⟩
set_option maxHeartbeats 400000 in
theorem spec_slope_bad (a b m : Int) (w : World) (h : ¬ (-2000 ≤ a ∧ a ≤ 2000 ∧ -2000 ≤ b ∧ b ≤ 2000 ∧ 1 ≤ m ∧ m ≤ 100000)) :
    Calls Try.prog 17 #[.int .i64 a, .int .i64 b, .int .i64 m] w fun e w' => e = .returned (.tuple #[.agg #[.int .i64 0, .int .i64 0], .int .i64 2]) ∧ Below w.heap.size w w' := by
  by_cases ha : -2000 ≤ a ∧ a ≤ 2000
  · by_cases hb : -2000 ≤ b ∧ b ≤ 2000
    · go_enter Try.func17, Try.ntmps17
      go_wp2_with (first | (go_at_call 28; first | (refine (in_t _ _ _ _ (by omega)).mono ?_; rintro e w' ⟨rfl, rfl⟩) | (refine (in_f _ _ _ _ (by omega)).mono ?_; rintro e w' ⟨rfl, rfl⟩)) | go_in)
      exact bodyPost_ret (v := .tuple #[.agg #[.int .i64 0, .int .i64 0], .int .i64 2]) (by simp [results, Try.results17, go_sem]) rfl ⟨rfl, (by repeat (first | assumption | exact Below.refl _ _ | (refine Below.setCell ?_ (by simp) _) | apply below_drewN | apply Below.drew | (refine Below.alloc ?_ (by simp) _)))⟩
    · go_enter Try.func17, Try.ntmps17
      go_wp2_with (first | (go_at_call 28; first | (refine (in_t _ _ _ _ (by omega)).mono ?_; rintro e w' ⟨rfl, rfl⟩) | (refine (in_f _ _ _ _ (by omega)).mono ?_; rintro e w' ⟨rfl, rfl⟩)) | go_in)
      exact bodyPost_ret (v := .tuple #[.agg #[.int .i64 0, .int .i64 0], .int .i64 2]) (by simp [results, Try.results17, go_sem]) rfl ⟨rfl, (by repeat (first | assumption | exact Below.refl _ _ | (refine Below.setCell ?_ (by simp) _) | apply below_drewN | apply Below.drew | (refine Below.alloc ?_ (by simp) _)))⟩
  · go_enter Try.func17, Try.ntmps17
    go_wp2_with (first | (go_at_call 28; first | (refine (in_t _ _ _ _ (by omega)).mono ?_; rintro e w' ⟨rfl, rfl⟩) | (refine (in_f _ _ _ _ (by omega)).mono ?_; rintro e w' ⟨rfl, rfl⟩)) | go_in)
    exact bodyPost_ret (v := .tuple #[.agg #[.int .i64 0, .int .i64 0], .int .i64 2]) (by simp [results, Try.results17, go_sem]) rfl ⟨rfl, (by repeat (first | assumption | exact Below.refl _ _ | (refine Below.setCell ?_ (by simp) _) | apply below_drewN | apply Below.drew | (refine Below.alloc ?_ (by simp) _)))⟩
set_option maxHeartbeats 400000 in
theorem impl_slope (a b m : Int) (w : World) (v1 : -2000 ≤ a) (v2 : a ≤ 2000) (v3 : -2000 ≤ b) (v4 : b ≤ 2000) (v5 : 1 ≤ m) (v6 : m ≤ 100000) :
    Calls Try.prog 18 #[.int .i64 a, .int .i64 b, .int .i64 m] w fun e w' => e = .returned (.tuple #[.agg #[.int .i64 (fnum (b - a) m), .int .i64 (fden (b - a) m)], .int .i64 0]) ∧ Below w.heap.size w w' := by
  go_enter Try.func18, Try.ntmps18
  go_wp2_with (first | (go_at_call 37; refine (impl_lowest _ _ _ (by omega) (by omega) (by omega) (by omega)).mono ?_; rintro e x1 ⟨rfl, hb⟩; obtain ⟨hc, hf⟩ := bcell hb; have hz := hb.size; simp at hz) | (go_at_call 30; first | (refine (within_t _ _ _ _ (by omega)).mono ?_; rintro e w' ⟨rfl, rfl⟩) | (refine (within_f _ _ _ _ (by omega)).mono ?_; rintro e w' ⟨rfl, rfl⟩)) | go_in)
  exact bodyPost_ret (v := .tuple #[.agg #[.int .i64 (fnum (b - a) m), .int .i64 (fden (b - a) m)], .int .i64 0]) (by simp [results, Try.results18, go_sem, hc, hz]) rfl ⟨rfl, by
    refine Below.setCell (Below.setCell (Below.trans ?_ (hb.mono (by simp))) (by simp) _) (by simp) _
    exact (by repeat (first | assumption | exact Below.refl _ _ | (refine Below.setCell ?_ (by simp) _) | apply below_drewN | apply Below.drew | (refine Below.alloc ?_ (by simp) _)))⟩
set_option maxHeartbeats 400000 in
theorem impl_slope_bad (a b m : Int) (w : World) (h : ¬ (-2000 ≤ a ∧ a ≤ 2000 ∧ -2000 ≤ b ∧ b ≤ 2000 ∧ 1 ≤ m ∧ m ≤ 100000)) :
    Calls Try.prog 18 #[.int .i64 a, .int .i64 b, .int .i64 m] w fun e w' => e = .returned (.tuple #[.agg #[.int .i64 0, .int .i64 0], .int .i64 2]) ∧ Below w.heap.size w w' := by
  by_cases ha : -2000 ≤ a ∧ a ≤ 2000
  · by_cases hb : -2000 ≤ b ∧ b ≤ 2000
    · go_enter Try.func18, Try.ntmps18
      go_wp2_with (first | (go_at_call 30; first | (refine (within_t _ _ _ _ (by omega)).mono ?_; rintro e w' ⟨rfl, rfl⟩) | (refine (within_f _ _ _ _ (by omega)).mono ?_; rintro e w' ⟨rfl, rfl⟩)) | go_in)
      exact bodyPost_ret (v := .tuple #[.agg #[.int .i64 0, .int .i64 0], .int .i64 2]) (by simp [results, Try.results18, go_sem]) rfl ⟨rfl, (by repeat (first | assumption | exact Below.refl _ _ | (refine Below.setCell ?_ (by simp) _) | apply below_drewN | apply Below.drew | (refine Below.alloc ?_ (by simp) _)))⟩
    · go_enter Try.func18, Try.ntmps18
      go_wp2_with (first | (go_at_call 30; first | (refine (within_t _ _ _ _ (by omega)).mono ?_; rintro e w' ⟨rfl, rfl⟩) | (refine (within_f _ _ _ _ (by omega)).mono ?_; rintro e w' ⟨rfl, rfl⟩)) | go_in)
      exact bodyPost_ret (v := .tuple #[.agg #[.int .i64 0, .int .i64 0], .int .i64 2]) (by simp [results, Try.results18, go_sem]) rfl ⟨rfl, (by repeat (first | assumption | exact Below.refl _ _ | (refine Below.setCell ?_ (by simp) _) | apply below_drewN | apply Below.drew | (refine Below.alloc ?_ (by simp) _)))⟩
  · go_enter Try.func18, Try.ntmps18
    go_wp2_with (first | (go_at_call 30; first | (refine (within_t _ _ _ _ (by omega)).mono ?_; rintro e w' ⟨rfl, rfl⟩) | (refine (within_f _ _ _ _ (by omega)).mono ?_; rintro e w' ⟨rfl, rfl⟩)) | go_in)
    exact bodyPost_ret (v := .tuple #[.agg #[.int .i64 0, .int .i64 0], .int .i64 2]) (by simp [results, Try.results18, go_sem]) rfl ⟨rfl, (by repeat (first | assumption | exact Below.refl _ _ | (refine Below.setCell ?_ (by simp) _) | apply below_drewN | apply Below.drew | (refine Below.alloc ?_ (by simp) _)))⟩

theorem eqfrac_t (a b : Int) (w : World) :
    Calls Try.prog 19 #[.agg #[.int .i64 a, .int .i64 b], .agg #[.int .i64 a, .int .i64 b]] w fun e w' => e = .returned (.bool true) ∧ Below w.heap.size w w' := by
  have e1 : (a != a) = false := by simp
  have e2 : (b != b) = false := by simp
  go_enter Try.func19, Try.ntmps19
  go_wp2
  go_ret
  exact ⟨rfl, (by repeat (first | assumption | exact Below.refl _ _ | (refine Below.setCell ?_ (by simp) _) | apply below_drewN | apply Below.drew | (refine Below.alloc ?_ (by simp) _)))⟩

set_option maxHeartbeats 400000 in
theorem walk_FnExactSlopeBetween (a0 : Int) (a1 : Int) (a2 : Int) (w0 : (Lit.int .i64 a0).wf = true) (w1 : (Lit.int .i64 a1).wf = true) (w2 : (Lit.int .i64 a2).wf = true) (w : World) :
    Calls Try.prog 5 #[.int .i64 a0, .int .i64 a1, .int .i64 a2] w fun e w' => e = .returned (.bool true) ∧ Below w.heap.size w w' := by
  by_cases hv : -2000 ≤ a0 ∧ a0 ≤ 2000 ∧ -2000 ≤ a1 ∧ a1 ≤ 2000 ∧ 1 ≤ a2 ∧ a2 ≤ 100000
  · obtain ⟨v1, v2, v3, v4, v5, v6⟩ := hv
    go_enter Try.func5, Try.ntmps5
    go_wp2_with (first
      | (go_at_call 17; refine (spec_slope _ _ _ _ v1 v2 v3 v4 v5 v6).mono ?_; rintro e x1 ⟨rfl, hb⟩; obtain ⟨hc, hf⟩ := bcell hb; have hz := hb.size)
      | (go_at_call 18; refine (impl_slope _ _ _ _ v1 v2 v3 v4 v5 v6).mono ?_; rintro e x2 ⟨rfl, hb2⟩; obtain ⟨hc2, hf2⟩ := bcell hb2; have hz2 : x1.heap.size < x2.heap.size := by have := hb2.size; simp at this; omega)
      | (go_at_call 19; refine (eqfrac_t _ _ _).mono ?_; rintro e x3 ⟨rfl, hb3⟩))
    go_ret
    exact ⟨rfl, (Below.trans (Below.trans hb ((Below.refl _ _).alloc hz _)) (Below.trans (hb2.mono (by simp; omega)) ((Below.refl _ _).alloc (by omega) _))).trans (hb3.mono (by simp; omega))⟩
  · go_enter Try.func5, Try.ntmps5
    go_wp2_with (first
      | (go_at_call 17; refine (spec_slope_bad _ _ _ _ hv).mono ?_; rintro e x1 ⟨rfl, hb⟩; obtain ⟨hc, hf⟩ := bcell hb; have hz := hb.size)
      | (go_at_call 18; refine (impl_slope_bad _ _ _ _ hv).mono ?_; rintro e x2 ⟨rfl, hb2⟩; obtain ⟨hc2, hf2⟩ := bcell hb2; have hz2 : x1.heap.size < x2.heap.size := by have := hb2.size; simp at this; omega)
      | (go_at_call 19; refine (eqfrac_t _ _ _).mono ?_; rintro e x3 ⟨rfl, hb3⟩))
    go_ret
    exact ⟨rfl, (Below.trans (Below.trans hb ((Below.refl _ _).alloc hz _)) (Below.trans (hb2.mono (by simp; omega)) ((Below.refl _ _).alloc (by omega) _))).trans (hb3.mono (by simp; omega))⟩
end Go.Proofs.Ytmalhpecenfogab
