import Derived.Test.YtagnhlcgfcppjacRainP
import Derived.Test.YtagnhlcgfcppjacReg
namespace Go.Proofs.Ytagnhlcgfcppjac
open Go.RowKit

def r0_ValidRain (xa0 : List Int) : Bool := decide (RainOk xa0.length xa0)

theorem specC_ValidRain (a0 : Option Addr) (la0 ca0 : Nat) (xa0 : List Int) (w : World) (ha0 : la0 ≤ 1048576) (ra0 : Rd w w.heap.size a0 la0 xa0) (fa0 : Wf xa0) :
    Calls Try.prog 26 #[.slice a0 la0 ca0] w fun e w' => e = .returned (.bool (r0_ValidRain xa0)) ∧ Below w.heap.size w w' := by
  have HB := Lib.hid (show r0_ValidRain xa0 = true ↔ RainOk la0 xa0 by unfold r0_ValidRain; rw [ra0.1]; exact decide_eq_true_iff)
  have RA := Lib.hid ra0
  clear ra0
  go_enter Try.func26, Try.ntmps26
  go_wp2_with (go_at_call 61; refine (l06Ok_any _ _ _ xa0 _ ha0 RA.out _ HB.out).mono ?_; rintro e1 w1 ⟨rfl, rfl⟩)
  go_ret
  exact ⟨rfl, Below.refl _ _⟩

theorem implC_ValidRain (a0 : Option Addr) (la0 ca0 : Nat) (xa0 : List Int) (w : World) (ha0 : la0 ≤ 1048576) (ra0 : Rd w w.heap.size a0 la0 xa0) (fa0 : Wf xa0) :
    Calls Try.prog 27 #[.slice a0 la0 ca0] w fun e w' => e = .returned (.bool (r0_ValidRain xa0)) ∧ Below w.heap.size w w' := by
  have HB : r0_ValidRain xa0 = true ↔ RainOk la0 xa0 := by unfold r0_ValidRain; rw [ra0.1]; exact decide_eq_true_iff
  exact (validRain_any _ _ _ xa0 _ ha0 ra0 _ HB).mono fun _ _ ⟨h1, h2⟩ => ⟨h1, by rw [h2]; exact (by repeat (first | assumption | exact Below.refl _ _ | (refine Below.setCell ?_ (by first | omega | (simp; done) | (simp; omega)) _) | apply below_drewN | apply Below.drew | (refine Below.alloc ?_ (by first | omega | (simp; done) | (simp; omega)) _)))⟩

end Go.Proofs.Ytagnhlcgfcppjac
