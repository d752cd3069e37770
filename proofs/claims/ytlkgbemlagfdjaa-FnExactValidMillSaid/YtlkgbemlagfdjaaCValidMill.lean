/- Whether a mill is valid. -/
import Derived.Test.YtlkgbemlagfdjaaMilC
namespace Go.Proofs.Ytlkgbemlagfdjaa
open Go.RowKit

def r0_ValidMill (a0_0 : Int) (a0_1 : Int) (a0_2 : Int) (a0_3 : Int) : Bool := decide (mlOk a0_0 a0_1 a0_2 a0_3)

theorem specC_ValidMill (a0_0 : Int) (a0_1 : Int) (a0_2 : Int) (a0_3 : Int) (w : World) (ha0_0 : (Lit.int .i64 a0_0).wf = true) (ha0_1 : (Lit.int .i64 a0_1).wf = true) (ha0_2 : (Lit.int .i64 a0_2).wf = true) (ha0_3 : (Lit.int .i64 a0_3).wf = true) :
    Calls Try.prog 15 #[.agg #[.int .i64 a0_0, .int .i64 a0_1, .int .i64 a0_2, .int .i64 a0_3]] w fun e w' => e = .returned (.bool (r0_ValidMill a0_0 a0_1 a0_2 a0_3)) ∧ Below w.heap.size w w' := by
  unfold r0_ValidMill
  obtain ⟨v, hv⟩ : ∃ v, v = decide (mlOk a0_0 a0_1 a0_2 a0_3) := ⟨_, rfl⟩
  rw [← hv]
  have HV := Lib.hid hv
  clear hv
  go_enter Try.func15, Try.ntmps15
  go_wp2_with (go_at_call 51; refine (mlS_any _ _ _ _ _ v HV.out).mono ?_; rintro e1 w1 ⟨rfl, b1⟩)
  go_ret
  exact ⟨rfl, (by repeat (first | assumption | exact Below.refl _ _ | (refine Below.trans ?_ (b1.mono (by first | omega | (simp; done) | (simp; omega)))) | (refine Below.setCell ?_ (by first | omega | (simp; done) | (simp; omega)) _) | apply below_drewN | apply Below.drew | (refine Below.alloc ?_ (by first | omega | (simp; done) | (simp; omega)) _)))⟩

theorem implC_ValidMill (a0_0 : Int) (a0_1 : Int) (a0_2 : Int) (a0_3 : Int) (w : World) (ha0_0 : (Lit.int .i64 a0_0).wf = true) (ha0_1 : (Lit.int .i64 a0_1).wf = true) (ha0_2 : (Lit.int .i64 a0_2).wf = true) (ha0_3 : (Lit.int .i64 a0_3).wf = true) :
    Calls Try.prog 17 #[.agg #[.int .i64 a0_0, .int .i64 a0_1, .int .i64 a0_2, .int .i64 a0_3]] w fun e w' => e = .returned (.bool (r0_ValidMill a0_0 a0_1 a0_2 a0_3)) ∧ Below w.heap.size w w' := by
  unfold r0_ValidMill
  exact mlI_any _ _ _ _ _ _ rfl

end Go.Proofs.Ytlkgbemlagfdjaa
