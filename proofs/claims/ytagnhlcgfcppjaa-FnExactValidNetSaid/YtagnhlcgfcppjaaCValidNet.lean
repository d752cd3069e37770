import Derived.Test.YtagnhlcgfcppjaaNetC
namespace Go.Proofs.Ytagnhlcgfcppjaa
open Go.RowKit

def r0_ValidNet (a0_0 : Int) (xa0_1 : List RDitch) : Bool := decide (NetOk a0_0 xa0_1)
theorem specC_ValidNet (a0_0 : Int) (a0_1 : Option Addr) (la0_1 ca0_1 : Nat) (xa0_1 : List RDitch) (w : World) (ha0_0 : (Lit.int .i64 a0_0).wf = true) (ha0_1 : la0_1 ≤ 1048576) (ra0_1 : Rd_Ditch w w.heap.size a0_1 la0_1 xa0_1) (fa0_1 : Wf_Ditch xa0_1) :
    Calls Try.prog 46 #[.agg #[.int .i64 a0_0, .slice a0_1 la0_1 ca0_1]] w fun e w' => e = .returned (.bool (r0_ValidNet a0_0 xa0_1)) ∧ Below w.heap.size w w' := by
  go_enter Try.func46, Try.ntmps46
  go_wp2_with (go_at_call 76; refine (l04Ok_any _ a0_0 a0_1 la0_1 ca0_1 xa0_1 _ (by simp) ha0_1 ⟨by simp, by simp⟩ ((ra0_1.below (by repeat (first | assumption | exact Below.refl _ _ | (refine Below.setCell ?_ (by first | omega | (simp; done) | (simp; omega)) _) | apply below_drewN | apply Below.drew | (refine Below.alloc ?_ (by first | omega | (simp; done) | (simp; omega)) _)))).mono (by first | omega | (simp; done) | (simp; omega))) (r0_ValidNet a0_0 xa0_1) (by simp [r0_ValidNet])).mono ?_; rintro e w' ⟨rfl, b1⟩)
  go_ret
  exact ⟨rfl, (by repeat (first | assumption | exact Below.refl _ _ | (refine Below.trans ?_ (b1.mono (by first | omega | (simp; done) | (simp; omega)))) | (refine Below.setCell ?_ (by first | omega | (simp; done) | (simp; omega)) _) | apply below_drewN | apply Below.drew | (refine Below.alloc ?_ (by first | omega | (simp; done) | (simp; omega)) _)))⟩
theorem implC_ValidNet (a0_0 : Int) (a0_1 : Option Addr) (la0_1 ca0_1 : Nat) (xa0_1 : List RDitch) (w : World) (ha0_0 : (Lit.int .i64 a0_0).wf = true) (ha0_1 : la0_1 ≤ 1048576) (ra0_1 : Rd_Ditch w w.heap.size a0_1 la0_1 xa0_1) (fa0_1 : Wf_Ditch xa0_1) :
    Calls Try.prog 48 #[.agg #[.int .i64 a0_0, .slice a0_1 la0_1 ca0_1]] w fun e w' => e = .returned (.bool (r0_ValidNet a0_0 xa0_1)) ∧ Below w.heap.size w w' := by
  exact impl_vnet a0_0 a0_1 la0_1 ca0_1 xa0_1 w ha0_1 ra0_1 _ (by simp [r0_ValidNet])

end Go.Proofs.Ytagnhlcgfcppjaa
