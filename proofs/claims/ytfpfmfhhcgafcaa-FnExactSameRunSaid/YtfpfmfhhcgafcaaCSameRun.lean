import Derived.Test.YtfpfmfhhcgafcaaEqW
namespace Go.Proofs.Ytfpfmfhhcgafcaa
open Go.RowKit

def r0_SameRun (xa0 : List RWater) (xa1 : List RWater) : Bool := decide (xa0 = xa1)

theorem specC_SameRun (a0 : Option Addr) (la0 ca0 : Nat) (xa0 : List RWater) (a1 : Option Addr) (la1 ca1 : Nat) (xa1 : List RWater) (w : World) (ha0 : la0 ≤ 1048576) (ra0 : Rd_Water w w.heap.size a0 la0 xa0) (fa0 : Wf_Water xa0) (ha1 : la1 ≤ 1048576) (ra1 : Rd_Water w w.heap.size a1 la1 xa1) (fa1 : Wf_Water xa1) :
    Calls Try.prog 17 #[.slice a0 la0 ca0, .slice a1 la1 ca1] w fun e w' => e = .returned (.bool (r0_SameRun xa0 xa1)) ∧ Below w.heap.size w w' := by
  exact sameW_t _ _ _ _ _ _ xa0 xa1 _ ha0 ha1 ra0 ra1 _ rfl

set_option maxHeartbeats 400000 in
theorem implC_SameRun (a0 : Option Addr) (la0 ca0 : Nat) (xa0 : List RWater) (a1 : Option Addr) (la1 ca1 : Nat) (xa1 : List RWater) (w : World) (ha0 : la0 ≤ 1048576) (ra0 : Rd_Water w w.heap.size a0 la0 xa0) (fa0 : Wf_Water xa0) (ha1 : la1 ≤ 1048576) (ra1 : Rd_Water w w.heap.size a1 la1 xa1) (fa1 : Wf_Water xa1) :
    Calls Try.prog 19 #[.slice a0 la0 ca0, .slice a1 la1 ca1] w fun e w' => e = .returned (.bool (r0_SameRun xa0 xa1)) ∧ Below w.heap.size w w' := by
  have RA := Lib.hid ra0
  have RB := Lib.hid ra1
  clear ra0 ra1
  go_enter Try.func19, Try.ntmps19
  go_wp2_with (go_at_call 45; refine (slEqualW_t _ _ _ _ _ _ xa0 xa1 _ ha0 ha1 RA.out RB.out _ rfl).mono ?_; rintro e W1 ⟨rfl, b1⟩)
  go_ret
  exact ⟨rfl, (by repeat (first | assumption | exact Below.refl _ _ | (refine Below.trans ?_ (b1.mono (by first | omega | (simp; done) | (simp; omega)))) | (refine Below.setCell ?_ (by first | omega | (simp; done) | (simp; omega)) _) | apply below_drewN | apply Below.drew | (refine Below.alloc ?_ (by first | omega | (simp; done) | (simp; omega)) _)))⟩

end Go.Proofs.Ytfpfmfhhcgafcaa
