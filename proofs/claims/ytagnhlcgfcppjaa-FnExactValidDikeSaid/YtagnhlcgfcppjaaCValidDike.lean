import Derived.Test.YtagnhlcgfcppjaaDikeL
namespace Go.Proofs.Ytagnhlcgfcppjaa
open Go.RowKit

def r0_ValidDike (xa0 : List RSection) : Bool := decide (DkOk xa0.length xa0)

set_option maxHeartbeats 400000 in
theorem specC_ValidDike (a0 : Option Addr) (la0 ca0 : Nat) (xa0 : List RSection) (w : World) (ha0 : la0 ≤ 1048576) (ra0 : Rd_Section w w.heap.size a0 la0 xa0) (fa0 : Wf_Section xa0) :
    Calls Try.prog 16 #[.slice a0 la0 ca0] w fun e w' => e = .returned (.bool (r0_ValidDike xa0)) ∧ Below w.heap.size w w' := by
  have hln := ra0.len
  unfold r0_ValidDike
  rw [hln]
  have RA := Lib.hid ra0
  clear ra0
  go_enter Try.func16, Try.ntmps16
  go_wp2_with (first | (go_at_call 50; refine (l07Ok_any _ _ _ xa0 _ ha0 RA.out (decide (DkOk la0 xa0)) (by simp)).mono ?_; rintro eo wo ⟨rfl, rfl⟩))
  go_ret
  exact ⟨rfl, Below.refl _ _⟩

set_option maxHeartbeats 400000 in
theorem implC_ValidDike (a0 : Option Addr) (la0 ca0 : Nat) (xa0 : List RSection) (w : World) (ha0 : la0 ≤ 1048576) (ra0 : Rd_Section w w.heap.size a0 la0 xa0) (fa0 : Wf_Section xa0) :
    Calls Try.prog 18 #[.slice a0 la0 ca0] w fun e w' => e = .returned (.bool (r0_ValidDike xa0)) ∧ Below w.heap.size w w' := by
  have hln := ra0.len
  unfold r0_ValidDike
  rw [hln]
  exact validDike_any a0 la0 ca0 xa0 w ha0 ra0 (decide (DkOk la0 xa0)) (by simp)

end Go.Proofs.Ytagnhlcgfcppjaa
