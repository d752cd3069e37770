import Derived.Test.YtndecilfiegoiaaCurveV
import Derived.Test.YtndecilfiegoiaaSCurve
namespace Go.Proofs.Ytndecilfiegoiaa
open Go.RowKit

def r0_ValidCurve (xa0_0 : List Int) (xa0_1 : List Int) : Bool := decide (CurveOk xa0_0 xa0_1)

set_option maxHeartbeats 800000 in
theorem specC_ValidCurve (a0_0 : Option Addr) (la0_0 ca0_0 : Nat) (xa0_0 : List Int) (a0_1 : Option Addr) (la0_1 ca0_1 : Nat) (xa0_1 : List Int) (w : World) (ha0_0 : la0_0 ≤ 1048576) (ra0_0 : Rd w w.heap.size a0_0 la0_0 xa0_0) (fa0_0 : Wf xa0_0) (ha0_1 : la0_1 ≤ 1048576) (ra0_1 : Rd w w.heap.size a0_1 la0_1 xa0_1) (fa0_1 : Wf xa0_1) :
    Calls Try.prog 13 #[.agg #[.slice a0_0 la0_0 ca0_0, .slice a0_1 la0_1 ca0_1]] w fun e w' => e = .returned (.bool (r0_ValidCurve xa0_0 xa0_1)) ∧ Below w.heap.size w w' := by
  have RA := Lib.hid ra0_0
  have RB := Lib.hid ra0_1
  have HK := Lib.hid (show r0_ValidCurve xa0_0 xa0_1 = true ↔ CurveOk xa0_0 xa0_1 from decide_eq_true_iff)
  clear ra0_0 ra0_1
  go_enter Try.func13, Try.ntmps13
  go_wp2_with (go_at_call 44; refine (l05Ok_any _ a0_0 la0_0 ca0_0 xa0_0 a0_1 la0_1 ca0_1 xa0_1 _ (by first | omega | (simp; done) | (simp; omega)) ha0_0 ha0_1 ⟨by simp, by simp⟩ ((RA.out.below (by repeat (first | assumption | exact Below.refl _ _ | (refine Below.setCell ?_ (by first | omega | (simp; done) | (simp; omega)) _) | apply below_drewN | apply Below.drew | (refine Below.alloc ?_ (by first | omega | (simp; done) | (simp; omega)) _)))).mono (by first | omega | (simp; done) | (simp; omega))) ((RB.out.below (by repeat (first | assumption | exact Below.refl _ _ | (refine Below.setCell ?_ (by first | omega | (simp; done) | (simp; omega)) _) | apply below_drewN | apply Below.drew | (refine Below.alloc ?_ (by first | omega | (simp; done) | (simp; omega)) _)))).mono (by first | omega | (simp; done) | (simp; omega))) _ HK.out).mono ?_; rintro e1 W1 ⟨rfl, b1⟩)
  go_ret
  exact ⟨rfl, (by repeat (first | assumption | exact Below.refl _ _ | (refine Below.trans ?_ (b1.mono (by first | omega | (simp; done) | (simp; omega)))) | (refine Below.setCell ?_ (by first | omega | (simp; done) | (simp; omega)) _) | apply below_drewN | apply Below.drew | (refine Below.alloc ?_ (by first | omega | (simp; done) | (simp; omega)) _)))⟩

set_option maxHeartbeats 800000 in
theorem implC_ValidCurve (a0_0 : Option Addr) (la0_0 ca0_0 : Nat) (xa0_0 : List Int) (a0_1 : Option Addr) (la0_1 ca0_1 : Nat) (xa0_1 : List Int) (w : World) (ha0_0 : la0_0 ≤ 1048576) (ra0_0 : Rd w w.heap.size a0_0 la0_0 xa0_0) (fa0_0 : Wf xa0_0) (ha0_1 : la0_1 ≤ 1048576) (ra0_1 : Rd w w.heap.size a0_1 la0_1 xa0_1) (fa0_1 : Wf xa0_1) :
    Calls Try.prog 15 #[.agg #[.slice a0_0 la0_0 ca0_0, .slice a0_1 la0_1 ca0_1]] w fun e w' => e = .returned (.bool (r0_ValidCurve xa0_0 xa0_1)) ∧ Below w.heap.size w w' := by
  exact impl_vcurve a0_0 la0_0 ca0_0 xa0_0 a0_1 la0_1 ca0_1 xa0_1 w ha0_0 ha0_1 ra0_0 ra0_1 _ decide_eq_true_iff

end Go.Proofs.Ytndecilfiegoiaa
