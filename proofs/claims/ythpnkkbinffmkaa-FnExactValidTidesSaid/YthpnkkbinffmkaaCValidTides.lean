import Derived.Test.YthpnkkbinffmkaaTideJ
namespace Go.Proofs.Ythpnkkbinffmkaa
open Go.RowKit

/- caps: (ka0 : la0 ≤ ca0) -/
def r0_ValidTides (xa0 : List RTide) : Bool := decide (TdOk xa0.length xa0)

set_option maxHeartbeats 400000 in
theorem specC_ValidTides (a0 : Option Addr) (la0 ca0 : Nat) (xa0 : List RTide) (w : World) (ha0 : la0 ≤ 1048576) (ra0 : Rd_Tide w w.heap.size a0 la0 xa0) (fa0 : Wf_Tide xa0) (ka0 : la0 ≤ ca0) :
    Calls Try.prog 12 #[.slice a0 la0 ca0] w fun e w' => e = .returned (.bool (r0_ValidTides xa0)) ∧ Below w.heap.size w w' := by
  have hln := ra0.len
  unfold r0_ValidTides
  rw [hln]
  have RA := Lib.hid ra0
  clear ra0
  go_enter Try.func12, Try.ntmps12
  go_wp2_with (first | (go_at_call 38; refine (l08Ok_any _ _ _ xa0 _ ha0 RA.out (decide (TdOk la0 xa0)) (by simp)).mono ?_; rintro eo wo ⟨rfl, b1⟩))
  go_ret
  exact ⟨rfl, b1⟩

theorem implC_ValidTides (a0 : Option Addr) (la0 ca0 : Nat) (xa0 : List RTide) (w : World) (ha0 : la0 ≤ 1048576) (ra0 : Rd_Tide w w.heap.size a0 la0 xa0) (fa0 : Wf_Tide xa0) (ka0 : la0 ≤ ca0) :
    Calls Try.prog 14 #[.slice a0 la0 ca0] w fun e w' => e = .returned (.bool (r0_ValidTides xa0)) ∧ Below w.heap.size w w' := by
  have hln := ra0.len
  unfold r0_ValidTides
  rw [hln]
  exact validTides_any a0 la0 ca0 xa0 w ha0 ka0 ra0 (decide (TdOk la0 xa0)) (by simp)

end Go.Proofs.Ythpnkkbinffmkaa
