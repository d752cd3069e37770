import Derived.Test.YtfpfmfhhcgafcaaWatL
namespace Go.Proofs.Ytfpfmfhhcgafcaa
open Go.RowKit

def r0_ValidWater (a0_0 : Int) (a0_1 : Int) (a0_2 : Int) (a0_3 : Int) (a0_4 : Int) : Bool := decide (waOk a0_0 a0_1 a0_2 a0_3 a0_4)

set_option maxHeartbeats 400000 in
theorem specC_ValidWater (a0_0 : Int) (a0_1 : Int) (a0_2 : Int) (a0_3 : Int) (a0_4 : Int) (w : World) (ha0_0 : (Lit.int .i64 a0_0).wf = true) (ha0_1 : (Lit.int .i64 a0_1).wf = true) (ha0_2 : (Lit.int .i64 a0_2).wf = true) (ha0_3 : (Lit.int .i64 a0_3).wf = true) (ha0_4 : (Lit.int .i64 a0_4).wf = true) :
    Calls Try.prog 13 #[.agg #[.int .i64 a0_0, .int .i64 a0_1, .int .i64 a0_2, .int .i64 a0_3, .int .i64 a0_4]] w fun e w' => e = .returned (.bool (r0_ValidWater a0_0 a0_1 a0_2 a0_3 a0_4)) ∧ Below w.heap.size w w' := by
  go_enter Try.func13, Try.ntmps13
  go_wp2_with (go_at_call 43; refine (waS_any _ _ a0_0 a0_1 a0_2 a0_3 a0_4 _ (by simp [AtWater]) _ rfl).mono ?_; rintro e1 w1 ⟨rfl, rfl⟩)
  go_ret
  exact ⟨rfl, (by repeat (first | assumption | exact Below.refl _ _ | (refine Below.setCell ?_ (by first | omega | (simp; done) | (simp; omega)) _) | apply below_drewN | apply Below.drew | (refine Below.alloc ?_ (by first | omega | (simp; done) | (simp; omega)) _)))⟩

theorem implC_ValidWater (a0_0 : Int) (a0_1 : Int) (a0_2 : Int) (a0_3 : Int) (a0_4 : Int) (w : World) (ha0_0 : (Lit.int .i64 a0_0).wf = true) (ha0_1 : (Lit.int .i64 a0_1).wf = true) (ha0_2 : (Lit.int .i64 a0_2).wf = true) (ha0_3 : (Lit.int .i64 a0_3).wf = true) (ha0_4 : (Lit.int .i64 a0_4).wf = true) :
    Calls Try.prog 15 #[.agg #[.int .i64 a0_0, .int .i64 a0_1, .int .i64 a0_2, .int .i64 a0_3, .int .i64 a0_4]] w fun e w' => e = .returned (.bool (r0_ValidWater a0_0 a0_1 a0_2 a0_3 a0_4)) ∧ Below w.heap.size w w' := by
  exact waI_any a0_0 a0_1 a0_2 a0_3 a0_4 w _ rfl

end Go.Proofs.Ytfpfmfhhcgafcaa
