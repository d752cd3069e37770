import Derived.Test.YtmalhpecenfogabIn
namespace Go.Proofs.Ytmalhpecenfogab
open Go.RowKit

def floorV (a b : Int) : Int := if a.tmod b < 0 then a.tdiv b - 1 else a.tdiv b

theorem tdiv_bd (a b : Int) (h1 : -4000000000000000 ≤ a) (h2 : a ≤ 4000000000000000) : -4000000000000000 ≤ a.tdiv b ∧ a.tdiv b ≤ 4000000000000000 := by
  have h4 := Int.natAbs_tdiv_le_natAbs a b
  omega

set_option maxHeartbeats 400000 in
theorem spec_floor (a b : Int) (w : World) (h1 : -4000000000000000 ≤ a) (h2 : a ≤ 4000000000000000) (h3 : 1 ≤ b) (h4 : b ≤ 4000000000) :
    Calls Try.prog 51 #[.int .i64 a, .int .i64 b] w fun e w' => e = .returned (.int .i64 (floorV a b)) ∧ w = w' := by
  obtain ⟨q1, q2⟩ := tdiv_bd a b h1 h2
  by_cases h : a.tmod b < 0
  · have E := Lib.hid (show floorV a b = a.tdiv b - 1 from if_pos h)
    go_enter Try.func51, Try.ntmps51
    go_wp2
    go_ret
    exact ⟨ret_int E.out.symm, rfl⟩
  · have E := Lib.hid (show floorV a b = a.tdiv b from if_neg h)
    go_enter Try.func51, Try.ntmps51
    go_wp2
    go_ret
    exact ⟨ret_int E.out.symm, rfl⟩

set_option maxHeartbeats 400000 in
theorem impl_floor (a b : Int) (w : World) (h1 : -4000000000000000 ≤ a) (h2 : a ≤ 4000000000000000) (h3 : 1 ≤ b) (h4 : b ≤ 4000000000) :
    Calls Try.prog 42 #[.int .i64 a, .int .i64 b] w fun e w' => e = .returned (.int .i64 (floorV a b)) ∧ w = w' := by
  obtain ⟨q1, q2⟩ := tdiv_bd a b h1 h2
  by_cases h : a.tmod b < 0
  · have E := Lib.hid (show floorV a b = a.tdiv b - 1 from if_pos h)
    go_enter Try.func42, Try.ntmps42
    go_wp2
    go_ret
    exact ⟨ret_int E.out.symm, rfl⟩
  · have E := Lib.hid (show floorV a b = a.tdiv b from if_neg h)
    go_enter Try.func42, Try.ntmps42
    go_wp2
    go_ret
    exact ⟨ret_int E.out.symm, rfl⟩

def rfOk (x y : Int) : Prop := 1 ≤ y ∧ y ≤ 1000000000 ∧ -1000000000000000 ≤ x ∧ x ≤ 1000000000000000
instance (x y : Int) : Decidable (rfOk x y) := by unfold rfOk; exact inferInstance
def rfV (x y : Int) : Int := if rfOk x y then floorV (2 * x + y) (2 * y) else 0
def rfC (x y : Int) : Int := if rfOk x y then 0 else 1

set_option maxHeartbeats 400000 in
theorem spec_round (x y : Int) (w : World) (_h : (Lit.int .i64 x).wf = true) :
    Calls Try.prog 24 #[.agg #[.int .i64 x, .int .i64 y]] w fun e w' => e = .returned (.tuple #[.int .i64 (rfV x y), .int .i64 (rfC x y)]) ∧ Below w.heap.size w w' := by
  by_cases h : rfOk x y
  · have e1 : rfV x y = floorV (2 * x + y) (2 * y) := if_pos h
    have e2 : rfC x y = 0 := if_pos h
    rw [e1, e2]
    obtain ⟨h1, h2, h3, h4⟩ := h
    clear e1 e2
    go_enter Try.func24, Try.ntmps24
    go_wp2_with (first | (go_at_call 28; first | (refine (in_t _ _ _ _ (by omega)).mono ?_; rintro e w' ⟨rfl, rfl⟩) | (refine (in_f _ _ _ _ (by omega)).mono ?_; rintro e w' ⟨rfl, rfl⟩)) | (go_at_call 51; refine (spec_floor _ _ _ (by omega) (by omega) (by omega) (by omega)).mono ?_; rintro e w' ⟨rfl, rfl⟩) | go_in)
    go_ret2
    exact ⟨rfl, (by repeat (first | assumption | exact Below.refl _ _ | (refine Below.setCell ?_ (by simp <;> omega) _) | apply below_drewN | apply Below.drew | (refine Below.alloc ?_ (by simp <;> omega) _)))⟩
  · have e1 : rfV x y = 0 := if_neg h
    have e2 : rfC x y = 1 := if_neg h
    rw [e1, e2]
    unfold rfOk at h
    clear e1 e2
    by_cases hd : 1 ≤ y ∧ y ≤ 1000000000
    · have hx : x < -1000000000000000 ∨ 1000000000000000 < x := by omega
      clear h
      go_enter Try.func24, Try.ntmps24
      go_wp2_with (first | (go_at_call 28; first | (refine (in_t _ _ _ _ (by omega)).mono ?_; rintro e w' ⟨rfl, rfl⟩) | (refine (in_f _ _ _ _ (by omega)).mono ?_; rintro e w' ⟨rfl, rfl⟩)) | go_in)
      go_ret2
      exact ⟨rfl, (by repeat (first | assumption | exact Below.refl _ _ | (refine Below.setCell ?_ (by simp <;> omega) _) | apply below_drewN | apply Below.drew | (refine Below.alloc ?_ (by simp <;> omega) _)))⟩
    · go_enter Try.func24, Try.ntmps24
      go_wp2_with (first | (go_at_call 28; first | (refine (in_t _ _ _ _ (by omega)).mono ?_; rintro e w' ⟨rfl, rfl⟩) | (refine (in_f _ _ _ _ (by omega)).mono ?_; rintro e w' ⟨rfl, rfl⟩)) | go_in)
      go_ret2
      exact ⟨rfl, (by repeat (first | assumption | exact Below.refl _ _ | (refine Below.setCell ?_ (by simp <;> omega) _) | apply below_drewN | apply Below.drew | (refine Below.alloc ?_ (by simp <;> omega) _)))⟩

set_option maxHeartbeats 400000 in
theorem impl_round (x y : Int) (w : World) (_h : (Lit.int .i64 x).wf = true) :
    Calls Try.prog 26 #[.agg #[.int .i64 x, .int .i64 y]] w fun e w' => e = .returned (.tuple #[.int .i64 (rfV x y), .int .i64 (rfC x y)]) ∧ Below w.heap.size w w' := by
  by_cases h : rfOk x y
  · have e1 : rfV x y = floorV (2 * x + y) (2 * y) := if_pos h
    have e2 : rfC x y = 0 := if_pos h
    rw [e1, e2]
    obtain ⟨h1, h2, h3, h4⟩ := h
    clear e1 e2
    go_enter Try.func26, Try.ntmps26
    go_wp2_with (first | (go_at_call 30; first | (refine (within_t _ _ _ _ (by omega)).mono ?_; rintro e w' ⟨rfl, rfl⟩) | (refine (within_f _ _ _ _ (by omega)).mono ?_; rintro e w' ⟨rfl, rfl⟩)) | (go_at_call 42; refine (impl_floor _ _ _ (by omega) (by omega) (by omega) (by omega)).mono ?_; rintro e w' ⟨rfl, rfl⟩) | go_in)
    go_ret2
    exact ⟨rfl, (by repeat (first | assumption | exact Below.refl _ _ | (refine Below.setCell ?_ (by simp <;> omega) _) | apply below_drewN | apply Below.drew | (refine Below.alloc ?_ (by simp <;> omega) _)))⟩
  · have e1 : rfV x y = 0 := if_neg h
    have e2 : rfC x y = 1 := if_neg h
    rw [e1, e2]
    unfold rfOk at h
    clear e1 e2
    by_cases hd : 1 ≤ y ∧ y ≤ 1000000000
    · have hx : x < -1000000000000000 ∨ 1000000000000000 < x := by omega
      clear h
      go_enter Try.func26, Try.ntmps26
      go_wp2_with (first | (go_at_call 30; first | (refine (within_t _ _ _ _ (by omega)).mono ?_; rintro e w' ⟨rfl, rfl⟩) | (refine (within_f _ _ _ _ (by omega)).mono ?_; rintro e w' ⟨rfl, rfl⟩)) | go_in)
      go_ret2
      exact ⟨rfl, (by repeat (first | assumption | exact Below.refl _ _ | (refine Below.setCell ?_ (by simp <;> omega) _) | apply below_drewN | apply Below.drew | (refine Below.alloc ?_ (by simp <;> omega) _)))⟩
    · go_enter Try.func26, Try.ntmps26
      go_wp2_with (first | (go_at_call 30; first | (refine (within_t _ _ _ _ (by omega)).mono ?_; rintro e w' ⟨rfl, rfl⟩) | (refine (within_f _ _ _ _ (by omega)).mono ?_; rintro e w' ⟨rfl, rfl⟩)) | go_in)
      go_ret2
      exact ⟨rfl, (by repeat (first | assumption | exact Below.refl _ _ | (refine Below.setCell ?_ (by simp <;> omega) _) | apply below_drewN | apply Below.drew | (refine Below.alloc ?_ (by simp <;> omega) _)))⟩

set_option maxHeartbeats 400000 in
theorem toFrac_t (x y : Int) (w : World) :
    Calls Try.prog 25 #[.agg #[.int .i64 x, .int .i64 y]] w fun e w' => e = .returned (.agg #[.int .i64 x, .int .i64 y]) ∧ Below w.heap.size w w' := by
  go_enter Try.func25, Try.ntmps25
  go_wp2
  exact bodyPost_ret (v := .agg #[.int .i64 x, .int .i64 y]) (by simp [results, Try.results25, go_sem]) rfl ⟨rfl, (by repeat (first | assumption | exact Below.refl _ _ | (refine Below.setCell ?_ (by simp <;> omega) _) | apply below_drewN | apply Below.drew | (refine Below.alloc ?_ (by simp <;> omega) _)))⟩

set_option maxHeartbeats 400000 in
theorem walk_FnExactRoundFraction (a0_0 : Int) (a0_1 : Int) (w : World) (wa0_0 : (Lit.int .i64 a0_0).wf = true) (_wa0_1 : (Lit.int .i64 a0_1).wf = true) :
    Calls Try.prog 8 #[.agg #[.int .i64 a0_0, .int .i64 a0_1]] w fun e w' => e = .returned (.bool true) ∧ Below w.heap.size w w' := by
  have ev : (rfV a0_0 a0_1 != rfV a0_0 a0_1) = false := by simp
  have ec : (rfC a0_0 a0_1 != rfC a0_0 a0_1) = false := by simp
  have hw := Lib.hid wa0_0
  clear wa0_0
  go_enter Try.func8, Try.ntmps8
  go_wp2_with fail
  refine (toFrac_t _ _ _).mono ?_
  rintro e1 W1 ⟨rfl, b1⟩
  obtain ⟨c1, f1⟩ := bcell b1
  have n1 : w.heap.size < W1.heap.size := by have := b1.size; simp at this; omega
  go_wp2_with fail
  refine (spec_round _ _ _ hw.out).mono ?_
  rintro e2 W2 ⟨rfl, b2⟩
  obtain ⟨c2, f2⟩ := bcell b2
  have n2 : w.heap.size < W2.heap.size := by have := b2.size; omega
  go_wp2_with fail
  refine (toFrac_t _ _ _).mono ?_
  rintro e3 W3 ⟨rfl, b3⟩
  have n3 := b3.size
  go_wp2_with fail
  refine (impl_round _ _ _ hw.out).mono ?_
  rintro e4 W4 ⟨rfl, b4⟩
  go_wp2_with fail
  go_ret
  exact ⟨rfl, (((((Below.refl w.heap.size w).alloc (Nat.le_refl _) _).trans (b1.mono (by simp))).trans (b2.mono (by omega))).trans (b3.mono (by omega))).trans (b4.mono (by omega))⟩


end Go.Proofs.Ytmalhpecenfogab
