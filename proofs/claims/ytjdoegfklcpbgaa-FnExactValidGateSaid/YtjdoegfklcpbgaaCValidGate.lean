/- Whether a state is valid. -/
import Derived.Test.YtjdoegfklcpbgaaSluC
namespace Go.Proofs.Ytjdoegfklcpbgaa
open Go.RowKit

def r0_ValidGate (a0_0 : Bool) (a0_1 : Int) (a0_2 : Int) : Bool := decide (gtOk a0_1 a0_2)

theorem specC_ValidGate (a0_0 : Bool) (a0_1 : Int) (a0_2 : Int) (w : World) (ha0_1 : (Lit.int .i64 a0_1).wf = true) (ha0_2 : (Lit.int .i64 a0_2).wf = true) :
    Calls Try.prog 16 #[.agg #[.bool a0_0, .int .i64 a0_1, .int .i64 a0_2]] w fun e w' => e = .returned (.bool (r0_ValidGate a0_0 a0_1 a0_2)) ∧ Below w.heap.size w w' := by
  unfold r0_ValidGate
  obtain ⟨v, hv⟩ : ∃ v, v = decide (gtOk a0_1 a0_2) := ⟨_, rfl⟩
  rw [← hv]
  have HV := Lib.hid hv
  clear hv
  go_enter Try.func16, Try.ntmps16
  go_wp2_with (go_at_call 50; refine (gtS_any _ _ _ _ v HV.out).mono ?_; rintro e1 w1 ⟨rfl, b1⟩)
  go_ret
  exact ⟨rfl, (by repeat (first | assumption | exact Below.refl _ _ | (refine Below.trans ?_ (b1.mono (by first | omega | (simp; done) | (simp; omega)))) | (refine Below.setCell ?_ (by first | omega | (simp; done) | (simp; omega)) _) | apply below_drewN | apply Below.drew | (refine Below.alloc ?_ (by first | omega | (simp; done) | (simp; omega)) _)))⟩

theorem implC_ValidGate (a0_0 : Bool) (a0_1 : Int) (a0_2 : Int) (w : World) (ha0_1 : (Lit.int .i64 a0_1).wf = true) (ha0_2 : (Lit.int .i64 a0_2).wf = true) :
    Calls Try.prog 18 #[.agg #[.bool a0_0, .int .i64 a0_1, .int .i64 a0_2]] w fun e w' => e = .returned (.bool (r0_ValidGate a0_0 a0_1 a0_2)) ∧ Below w.heap.size w w' := by
  unfold r0_ValidGate
  exact gtI_any _ _ _ _ _ rfl

end Go.Proofs.Ytjdoegfklcpbgaa
