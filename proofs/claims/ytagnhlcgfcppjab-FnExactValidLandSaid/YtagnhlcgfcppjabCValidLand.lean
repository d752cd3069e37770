import Derived.Test.YtagnhlcgfcppjabLandV
namespace Go.Proofs.Ytagnhlcgfcppjab
open Go.RowKit

def r0_ValidLand (a0_0 : Int) (a0_1 : Int) (xa0_2 : List Int) : Bool := decide (LandOk a0_0 a0_1 xa0_2)
theorem specC_ValidLand (a0_0 : Int) (a0_1 : Int) (a0_2 : Option Addr) (la0_2 ca0_2 : Nat) (xa0_2 : List Int) (w : World) (ha0_0 : (Lit.int .i64 a0_0).wf = true) (ha0_1 : (Lit.int .i64 a0_1).wf = true) (ha0_2 : la0_2 ≤ 1048576) (ra0_2 : Rd w w.heap.size a0_2 la0_2 xa0_2) (fa0_2 : Wf xa0_2) :
    Calls Try.prog 16 #[.agg #[.int .i64 a0_0, .int .i64 a0_1, .slice a0_2 la0_2 ca0_2]] w fun e w' => e = .returned (.bool (r0_ValidLand a0_0 a0_1 xa0_2)) ∧ Below w.heap.size w w' := by
  go_enter Try.func16, Try.ntmps16
  go_wp2_with (go_at_call 50; refine (l03Ok_any _ a0_0 a0_1 a0_2 la0_2 ca0_2 xa0_2 _ ha0_2 ⟨by simp, by simp, by simp⟩ ((ra0_2.below (by repeat (first | assumption | exact Below.refl _ _ | (refine Below.setCell ?_ (by first | omega | (simp; done) | (simp; omega)) _) | apply below_drewN | apply Below.drew | (refine Below.alloc ?_ (by first | omega | (simp; done) | (simp; omega)) _)))).mono (by first | omega | (simp; done) | (simp; omega))) (r0_ValidLand a0_0 a0_1 xa0_2) (by simp [r0_ValidLand])).mono ?_; rintro e w' ⟨rfl, m, rfl⟩)
  go_ret
  exact ⟨rfl, (by repeat (first | assumption | exact Below.refl _ _ | (refine Below.setCell ?_ (by first | omega | (simp; done) | (simp; omega)) _) | apply below_drewN | apply Below.drew | (refine Below.alloc ?_ (by first | omega | (simp; done) | (simp; omega)) _)))⟩
theorem implC_ValidLand (a0_0 : Int) (a0_1 : Int) (a0_2 : Option Addr) (la0_2 ca0_2 : Nat) (xa0_2 : List Int) (w : World) (ha0_0 : (Lit.int .i64 a0_0).wf = true) (ha0_1 : (Lit.int .i64 a0_1).wf = true) (ha0_2 : la0_2 ≤ 1048576) (ra0_2 : Rd w w.heap.size a0_2 la0_2 xa0_2) (fa0_2 : Wf xa0_2) :
    Calls Try.prog 18 #[.agg #[.int .i64 a0_0, .int .i64 a0_1, .slice a0_2 la0_2 ca0_2]] w fun e w' => e = .returned (.bool (r0_ValidLand a0_0 a0_1 xa0_2)) ∧ Below w.heap.size w w' := by
  exact impl_valid a0_0 a0_1 a0_2 la0_2 ca0_2 xa0_2 w ha0_2 ra0_2 _ (by simp [r0_ValidLand])

end Go.Proofs.Ytagnhlcgfcppjab
