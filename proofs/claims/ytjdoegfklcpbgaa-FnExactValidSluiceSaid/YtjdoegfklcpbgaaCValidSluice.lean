/- Whether a sluice is valid. -/
import Derived.Test.YtjdoegfklcpbgaaRSluice
import Derived.Test.YtjdoegfklcpbgaaSluC
namespace Go.Proofs.Ytjdoegfklcpbgaa
open Go.RowKit

def r0_ValidSluice (a0_0 : Int) (a0_1 : Int) : Bool := decide (slOk a0_0 a0_1)

theorem specC_ValidSluice (a0_0 : Int) (a0_1 : Int) (w : World) (ha0_0 : (Lit.int .i64 a0_0).wf = true) (ha0_1 : (Lit.int .i64 a0_1).wf = true) :
    Calls Try.prog 13 #[.agg #[.int .i64 a0_0, .int .i64 a0_1]] w fun e w' => e = .returned (.bool (r0_ValidSluice a0_0 a0_1)) ∧ Below w.heap.size w w' := by
  unfold r0_ValidSluice
  obtain ⟨v, hv⟩ : ∃ v, v = decide (slOk a0_0 a0_1) := ⟨_, rfl⟩
  rw [← hv]
  have HV := Lib.hid hv
  clear hv
  go_enter Try.func13, Try.ntmps13
  go_wp2_with (go_at_call 47; refine (sluS_any _ _ _ v HV.out).mono ?_; rintro e1 w1 ⟨rfl, b1⟩)
  go_ret
  exact ⟨rfl, (by repeat (first | assumption | exact Below.refl _ _ | (refine Below.trans ?_ (b1.mono (by first | omega | (simp; done) | (simp; omega)))) | (refine Below.setCell ?_ (by first | omega | (simp; done) | (simp; omega)) _) | apply below_drewN | apply Below.drew | (refine Below.alloc ?_ (by first | omega | (simp; done) | (simp; omega)) _)))⟩

theorem implC_ValidSluice (a0_0 : Int) (a0_1 : Int) (w : World) (ha0_0 : (Lit.int .i64 a0_0).wf = true) (ha0_1 : (Lit.int .i64 a0_1).wf = true) :
    Calls Try.prog 15 #[.agg #[.int .i64 a0_0, .int .i64 a0_1]] w fun e w' => e = .returned (.bool (r0_ValidSluice a0_0 a0_1)) ∧ Below w.heap.size w w' := by
  unfold r0_ValidSluice
  exact sluI_any _ _ _ _ rfl

end Go.Proofs.Ytjdoegfklcpbgaa
