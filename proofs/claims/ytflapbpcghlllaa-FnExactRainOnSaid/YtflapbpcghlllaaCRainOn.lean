import Derived.Test.YtflapbpcghlllaaRainP
import Derived.Test.YtflapbpcghlllaaReg
import Derived.IntWalk
namespace Go.Proofs.Ytflapbpcghlllaa
open Go.RowKit

def roOk (a0 a1 : Int) : Prop := isRn a0 ∧ (1 ≤ a1 ∧ a1 ≤ 1000000000)
instance (a0 a1 : Int) : Decidable (roOk a0 a1) := by unfold roOk; exact inferInstance
def r0_RainOn (a0 : Int) (a1 : Int) : Int := if roOk a0 a1 then a0 * a1 / 10000 else 0
def r1_RainOn (a0 : Int) (a1 : Int) : Int := if roOk a0 a1 then 0 else 2
theorem ro_bd {a0 a1 : Int} (h : roOk a0 a1) : 0 ≤ a0 * a1 ∧ a0 * a1 ≤ 3000000000000 := by
  obtain ⟨⟨h1, h2⟩, h3, h4⟩ := h
  refine ⟨Int.mul_nonneg h1 (by omega), ?_⟩
  exact Int.le_trans (Int.mul_le_mul h2 h4 (by omega) (by omega)) (by decide)

theorem specC_RainOn (a0 : Int) (a1 : Int) (w : World) (ha0 : (Lit.int .i64 a0).wf = true) (ha1 : (Lit.int .i64 a1).wf = true) :
    Calls Try.prog 42 #[.int .i64 a0, .int .i64 a1] w fun e w' => e = .returned (.tuple #[.int .i64 (r0_RainOn a0 a1), .int .i64 (r1_RainOn a0 a1)]) ∧ Below w.heap.size w w' := by
  clear ha0 ha1
  by_cases h : roOk a0 a1
  · rw [show r0_RainOn a0 a1 = a0 * a1 / 10000 from if_pos h, show r1_RainOn a0 a1 = 0 from if_pos h]
    obtain ⟨b1, b2⟩ := ro_bd h
    obtain ⟨h1, h3, h4⟩ := h
    have HO := Lib.hid h1
    have e1 := IntWalk.i64_in (a0 * a1) (by omega)
    have e2 : (a0 * a1).tdiv 10000 = a0 * a1 / 10000 := Int.tdiv_eq_ediv_of_nonneg b1
    have e3 := IntWalk.i64_in (a0 * a1 / 10000) (by omega)
    clear h1
    go_enter Try.func42, Try.ntmps42
    go_wp2_with (first | (go_at_call 60; refine (one_t _ _ HO.out).mono ?_; rintro e w' ⟨rfl, rfl⟩) | (go_at_call 59; first | (refine (in_t _ _ _ _ (by omega)).mono ?_; rintro e w' ⟨rfl, rfl⟩) | (refine (in_f _ _ _ _ (by omega)).mono ?_; rintro e w' ⟨rfl, rfl⟩)))
    go_ret2
    exact ⟨rfl, Below.refl _ _⟩
  · rw [show r0_RainOn a0 a1 = 0 from if_neg h, show r1_RainOn a0 a1 = 2 from if_neg h]
    by_cases h1 : isRn a0
    · have h2 : a1 < 1 ∨ 1000000000 < a1 := by
        by_cases g : 1 ≤ a1 ∧ a1 ≤ 1000000000
        · exact absurd ⟨h1, g⟩ h
        · omega
      have HO := Lib.hid h1
      clear h h1
      go_enter Try.func42, Try.ntmps42
      go_wp2_with (first | (go_at_call 60; refine (one_t _ _ HO.out).mono ?_; rintro e w' ⟨rfl, rfl⟩) | (go_at_call 59; first | (refine (in_t _ _ _ _ (by omega)).mono ?_; rintro e w' ⟨rfl, rfl⟩) | (refine (in_f _ _ _ _ (by omega)).mono ?_; rintro e w' ⟨rfl, rfl⟩)))
      go_ret2
      exact ⟨rfl, Below.refl _ _⟩
    · have HO := Lib.hid h1
      clear h h1
      go_enter Try.func42, Try.ntmps42
      go_wp2_with (first | (go_at_call 60; refine (one_f _ _ HO.out).mono ?_; rintro e w' ⟨rfl, rfl⟩) | (go_at_call 59; first | (refine (in_t _ _ _ _ (by omega)).mono ?_; rintro e w' ⟨rfl, rfl⟩) | (refine (in_f _ _ _ _ (by omega)).mono ?_; rintro e w' ⟨rfl, rfl⟩)))
      go_ret2
      exact ⟨rfl, Below.refl _ _⟩

theorem implC_RainOn (a0 : Int) (a1 : Int) (w : World) (ha0 : (Lit.int .i64 a0).wf = true) (ha1 : (Lit.int .i64 a1).wf = true) :
    Calls Try.prog 43 #[.int .i64 a0, .int .i64 a1] w fun e w' => e = .returned (.tuple #[.int .i64 (r0_RainOn a0 a1), .int .i64 (r1_RainOn a0 a1)]) ∧ Below w.heap.size w w' := by
  clear ha0 ha1
  by_cases h : roOk a0 a1
  · rw [show r0_RainOn a0 a1 = a0 * a1 / 10000 from if_pos h, show r1_RainOn a0 a1 = 0 from if_pos h]
    obtain ⟨b1, b2⟩ := ro_bd h
    obtain ⟨h1, h3, h4⟩ := h
    have HO := Lib.hid h1
    have e1 := IntWalk.i64_in (a0 * a1) (by omega)
    have e2 : (a0 * a1).tdiv 10000 = a0 * a1 / 10000 := Int.tdiv_eq_ediv_of_nonneg b1
    have e3 := IntWalk.i64_in (a0 * a1 / 10000) (by omega)
    clear h1
    go_enter Try.func43, Try.ntmps43
    go_wp2_with (first | (go_at_call 51; refine (isRain_t _ _ HO.out).mono ?_; rintro e w' ⟨rfl, rfl⟩) | (go_at_call 52; first | (refine (within_t _ _ _ _ (by omega)).mono ?_; rintro e w' ⟨rfl, rfl⟩) | (refine (within_f _ _ _ _ (by omega)).mono ?_; rintro e w' ⟨rfl, rfl⟩)))
    go_ret2
    exact ⟨rfl, Below.refl _ _⟩
  · rw [show r0_RainOn a0 a1 = 0 from if_neg h, show r1_RainOn a0 a1 = 2 from if_neg h]
    by_cases h1 : isRn a0
    · have h2 : a1 < 1 ∨ 1000000000 < a1 := by
        by_cases g : 1 ≤ a1 ∧ a1 ≤ 1000000000
        · exact absurd ⟨h1, g⟩ h
        · omega
      have HO := Lib.hid h1
      clear h h1
      go_enter Try.func43, Try.ntmps43
      go_wp2_with (first | (go_at_call 51; refine (isRain_t _ _ HO.out).mono ?_; rintro e w' ⟨rfl, rfl⟩) | (go_at_call 52; first | (refine (within_t _ _ _ _ (by omega)).mono ?_; rintro e w' ⟨rfl, rfl⟩) | (refine (within_f _ _ _ _ (by omega)).mono ?_; rintro e w' ⟨rfl, rfl⟩)))
      go_ret2
      exact ⟨rfl, Below.refl _ _⟩
    · have HO := Lib.hid h1
      clear h h1
      go_enter Try.func43, Try.ntmps43
      go_wp2_with (first | (go_at_call 51; refine (isRain_f _ _ HO.out).mono ?_; rintro e w' ⟨rfl, rfl⟩) | (go_at_call 52; first | (refine (within_t _ _ _ _ (by omega)).mono ?_; rintro e w' ⟨rfl, rfl⟩) | (refine (within_f _ _ _ _ (by omega)).mono ?_; rintro e w' ⟨rfl, rfl⟩)))
      go_ret2
      exact ⟨rfl, Below.refl _ _⟩

end Go.Proofs.Ytflapbpcghlllaa
